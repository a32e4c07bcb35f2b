import PyProof.Rows.All
import Wide.All
import OpenK.AllK
import Wide.FinOn
import HandS.ForMost
import HandS.EndTab
import HandS.Wide
import HandS.IsInst
import HandS.Deep
import HandS.TupAny
import HandS.TupMul
import HandS.RevRange
import HandS.CallLocal
import HandS.Flow
import KE.KDictKeyed
import HandS.TupLen
import KE.KDictCopyH
import HandS.Walk
import HandS.Zip
import PyProof.ListStr
import HandS.Text
import HandS.FStr
import HandS.Lambda
import HandS.Nested
import PySem.Challenge.RW_treetellers_k19_trees_written
set_option Elab.async false
set_option linter.all false
set_option maxRecDepth 100000
set_option maxHeartbeats 4000000
namespace TT
open PySem PySem.Spec PyProof.Rows L2

/-! ### frames: all that stood outside S stands as before; tuples always -/
structure Fr (S : List Addr) (H H' : Hp) : Prop where
  keep : ∀ a o, a ∉ S → H a = some o → H' a = some o
  tup : ∀ a xs, H a = some (.tup xs) → H' a = some (.tup xs)
  frz : ∀ a o u, H a = some (.frz o u) → H' a = some (.frz o u)
theorem Fr.refl (S : List Addr) (H : Hp) : Fr S H H := ⟨fun _ _ _ h => h, fun _ _ h => h, fun _ _ _ h => h⟩
theorem Fr.trans {S : List Addr} {H H1 H2 : Hp} (a : Fr S H H1) (b : Fr S H1 H2) : Fr S H H2 :=
  ⟨fun c o n h => b.keep c o n (a.keep c o n h), fun c xs h => b.tup c xs (a.tup c xs h), fun c o u h => b.frz c o u (a.frz c o u h)⟩
theorem Fr.mono {S S' : List Addr} {H H' : Hp} (a : Fr S H H') (h : ∀ x ∈ S, x ∈ S') : Fr S' H H' :=
  ⟨fun c o n e => a.keep c o (fun z => n (h c z)) e, a.tup, a.frz⟩
theorem Fr.mono0 {S' : List Addr} {H H' : Hp} (a : Fr [] H H') : Fr S' H H' := a.mono fun _ z => nomatch z
theorem Fr.new {S : List Addr} {H : Hp} {p : Addr} {o : HO} (h : H p = none) : Fr S H (upd H p o) :=
  ⟨fun a u _ e => by rw [upd_ne (ne_of_none e h)]; exact e, fun a u e => by rw [upd_ne (ne_of_none e h)]; exact e, fun a u v e => by rw [upd_ne (ne_of_none e h)]; exact e⟩
theorem Fr.lst {S : List Addr} {H : Hp} {p : Addr} {xs : List V} {o : HO} (h : H p = some (.lst xs)) (hs : p ∈ S) : Fr S H (upd H p o) :=
  ⟨fun a u n e => by rw [upd_ne (fun z => n (by rw [z]; exact hs))]; exact e, fun a u e => by rw [upd_ne (ne_of e h (fun z => nomatch z))]; exact e,
   fun a u v e => by rw [upd_ne (ne_of e h (fun z => nomatch z))]; exact e⟩
/-- an object that the frame's start doesn't know may change -/
theorem Fr.mut {S : List Addr} {H H' : Hp} {p : Addr} {o : HO} (e : Fr S H H') (h : H p = none) : Fr S H (upd H' p o) :=
  ⟨fun a u n ha => by rw [upd_ne (ne_of_none ha h)]; exact e.keep a u n ha, fun a u ha => by rw [upd_ne (ne_of_none ha h)]; exact e.tup a u ha,
   fun a u v ha => by rw [upd_ne (ne_of_none ha h)]; exact e.frz a u v ha⟩
theorem Fr.free {H H' : Hp} {p : Addr} (e : Fr [] H H') (h : H' p = none) : H p = none := by
  cases h1 : H p with
  | none => rfl
  | some o => rw [e.keep p o (fun z => nomatch z) h1] at h; cases h
theorem Fr.freeS {S : List Addr} {H H' : Hp} {p : Addr} (e : Fr S H H') (hp : p ∉ S) (h : H' p = none) : H p = none := by
  cases h1 : H p with
  | none => rfl
  | some o => rw [e.keep p o hp h1] at h; cases h
theorem Fr.of_same {H H' : Hp} (e : Same H H') : Fr [] H H' := ⟨fun a o _ h => e a o h, fun a xs h => e a _ h, fun a o u h => e a _ h⟩
theorem Fr.sqT {S : List Addr} {K : PySem.W.Frag} {H H' : Hp} {a : Addr} {xs : List V} (e : Fr S H H') (h : SqT K H a xs) : SqT K H' a xs := by
  rcases h with (h | ⟨o, h⟩) | h
  · exact .inl (.inl (e.tup _ _ h))
  · exact .inl (.inr ⟨o, e.frz _ _ _ h⟩)
  · exact .inr h
theorem Fr.sqL {S : List Addr} {K : PySem.W.Frag} {H H' : Hp} {a : Addr} {xs : List V} (e : Fr S H H') (ha : a ∉ S) (h : SqL K H a xs) : SqL K H' a xs := by
  rcases h with (h | ⟨o, h⟩) | h
  · exact .inl (.inl (e.keep _ _ ha h))
  · exact .inl (.inr ⟨o, e.frz _ _ _ h⟩)
  · exact .inr h
theorem Fr.sqL0 {K : PySem.W.Frag} {H H' : Hp} {a : Addr} {xs : List V} (e : Fr [] H H') (h : SqL K H a xs) : SqL K H' a xs := e.sqL (fun z => nomatch z) h

/-! ### data of tuples alone -/
mutual
def tupy : PyData → Bool
  | .none => true
  | .bool _ => true
  | .int _ => true
  | .str _ => true
  | .list _ => false
  | .tuple ds => tupyAll ds
  | .dict _ => false
def tupyAll : List PyData → Bool
  | [] => true
  | d :: ds => tupy d && tupyAll ds
end
mutual
theorem Fr.dp {S : List Addr} {K : PySem.W.Frag} {H H' : Hp} (e : Fr S H H') : ∀ (d : PyData) (v : V), tupy d = true → Dp K H v d → Dp K H' v d
  | .none, _, _, h => by cases h; exact .non
  | .bool b, _, _, h => by cases h; exact .bl _
  | .int i, _, _, h => by cases h; exact .int _
  | .str x, _, _, h => by cases h; exact .str _
  | .list ds, _, t, h => by simp [tupy] at t
  | .tuple ds, _, t, h => by
    cases h with
    | tup hs ha => exact .tup (e.sqT hs) (Fr.dpAll e ds _ (by simpa [tupy] using t) ha)
  | .dict _, _, t, h => by cases h
theorem Fr.dpAll {S : List Addr} {K : PySem.W.Frag} {H H' : Hp} (e : Fr S H H') : ∀ (ds : List PyData) (vs : List V), tupyAll ds = true → DpAll K H vs ds → DpAll K H' vs ds
  | [], _, _, h => by cases h; exact .nil
  | d :: ds, _, t, h => by
    rw [tupyAll, Bool.and_eq_true] at t
    cases h with
    | cons h1 h2 => exact .cons (Fr.dp e d _ t.1 h1) (Fr.dpAll e ds _ t.2 h2)
end
theorem DpAll.length {K : PySem.W.Frag} {H : Hp} : ∀ {vs : List V} {ds : List PyData}, DpAll K H vs ds → vs.length = ds.length
  | _, _, .nil => rfl
  | _, _, .cons _ t => by rw [List.length_cons, List.length_cons, DpAll.length t]
theorem DpAll.get {K : PySem.W.Frag} {H : Hp} : ∀ {vs : List V} {ds : List PyData} {i : Nat} {v : V}, DpAll K H vs ds → vs[i]? = some v → ∃ d, ds[i]? = some d ∧ Dp K H v d
  | _, _, _, _, .nil, h => by simp at h
  | _, _, 0, _, .cons a _, h => by simp at h; subst h; exact ⟨_, rfl, a⟩
  | _, _, i + 1, v, .cons _ t, h => by
    obtain ⟨d, h1, h2⟩ := DpAll.get (i := i) (v := v) t (by simpa using h)
    exact ⟨d, by simpa using h1, h2⟩
theorem DpAll.get' {K : PySem.W.Frag} {H : Hp} : ∀ {vs : List V} {ds : List PyData} {i : Nat} {d : PyData}, DpAll K H vs ds → ds[i]? = some d → ∃ v, vs[i]? = some v ∧ Dp K H v d
  | _, _, _, _, .nil, h => by simp at h
  | _, _, 0, _, .cons a _, h => by simp at h; subst h; exact ⟨_, rfl, a⟩
  | _, _, i + 1, v, .cons _ t, h => by
    obtain ⟨d, h1, h2⟩ := DpAll.get' (i := i) (d := v) t (by simpa using h)
    exact ⟨d, by simpa using h1, h2⟩
theorem DpAll.append {K : PySem.W.Frag} {H : Hp} : ∀ {vs ws : List V} {ds es : List PyData}, DpAll K H vs ds → DpAll K H ws es → DpAll K H (vs ++ ws) (ds ++ es)
  | _, _, _, _, .nil, h => h
  | _, _, _, _, .cons a t, h => .cons a (DpAll.append t h)
theorem DpAll.snoc {K : PySem.W.Frag} {H : Hp} {vs : List V} {ds : List PyData} {v : V} {d : PyData} (h : DpAll K H vs ds) (a : Dp K H v d) : DpAll K H (vs ++ [v]) (ds ++ [d]) := DpAll.append h (.cons a .nil)
theorem DpAll.take {K : PySem.W.Frag} {H : Hp} : ∀ {vs : List V} {ds : List PyData} (n : Nat), DpAll K H vs ds → DpAll K H (vs.take n) (ds.take n)
  | _, _, 0, _ => .nil
  | _, _, _ + 1, .nil => .nil
  | _, _, n + 1, .cons a t => .cons a (DpAll.take n t)
theorem DpAll.drop {K : PySem.W.Frag} {H : Hp} : ∀ {vs : List V} {ds : List PyData} (n : Nat), DpAll K H vs ds → DpAll K H (vs.drop n) (ds.drop n)
  | _, _, 0, h => h
  | _, _, _ + 1, .nil => .nil
  | _, _, n + 1, .cons _ t => DpAll.drop n t

/-! ### defs that are called -/
structure Callee (P : Program) (w : World) (K : PySem.W.Frag) (mg : Str → Option Value) (base : Heap) (k : Nat) (x : Str) (ps : List Str) (sp : Sp) where
  f : Addr
  fd : FuncData
  ok : FnOk P w K mg base CX0 k f fd ps sp
  mgx : mg x = some (.ref f)
  kp : PySem.W.keepIn K (.ref f) = true
  b : Binds K fd ps []
section
variable {X : Cx} {k j : Nat} {x : Str} {ps : List Str} {sp : Sp} {e : Expr} {es : List Expr} {t : TA} {p pos : Pos}
theorem pe_own (c : Callee X.prog X.w X.K X.mg X.base k x ps sp) (hr : Room j X.A) (ha : PA X (e :: es) t) (hk : k ≤ j := by first | decide | omega) (hg : Gl X x := by rfl)
    (hdb : (x == ("__debug__" : Str)) = false := by decide) (he : starEach (e :: es) X.env = (false, eval e X.env) :: starEach es X.env := by rfl) (hpl : (backTo pos (starEach es X.env)).any (·.1) = false := by rfl) :
    PE X (.Call (.Name x p) (e :: es) [] pos) (tCall sp [] E0 t) := pe_call c.ok (hr.mono hk) hg c.mgx c.kp c.b .nil pass0 ha hdb he hpl
theorem pe_globI {x : Str} {i : Int} {pos : Pos} (hm : ∃ t, X.mg x = some (.int i t)) (hg : Gl X x := by rfl) (hd : (x == ("__debug__" : Str)) = false := by decide) : PE X (.Name x pos) (tC (.int i)) := by
  obtain ⟨t, h⟩ := hm
  exact pe_glob hg h ⟨_, rfl⟩ hd
theorem pe_globR {x : Str} {a : Addr} {pos : Pos} (hm : X.mg x = some (.ref a)) (hg : Gl X x := by rfl) (hd : (x == ("__debug__" : Str)) = false := by decide) : PE X (.Name x pos) (tC (.ref a)) := pe_glob hg hm rfl hd
end
end TT

namespace TT
open PySem PySem.Spec PyProof.Rows L2

abbrev NK := NestedKey
/-- entries of a dict with nested keys: key, where its tuple stands, value -/
abbrev NEnt := NestedKey × Addr × V
def NRel (p : NEnt) (q : NestedKey × Addr × Value) : Prop := p.1 = q.1 ∧ p.2.1 = q.2.1 ∧ RelV p.2.2 q.2.2
def NPhi (P : Program) (w : World) (d : Addr) (xs : List NEnt) (h : Heap) : Prop := (d == sysModules) = false ∧ xs.length ≤ sizeLine ∧ ∃ vs : List (NestedKey × Addr × Value), Paired NRel xs vs ∧
  ∃ o es ep, h.get? d = some o ∧ o.ExactDict ∧ o.data = .dict es ep ∧ es.toList = vs.map (entryOfKey (nestedKind P w)) ∧ (vs.map (·.1)).Nodup
def NdO (P : Program) (w : World) (d : Addr) (xs : List NEnt) : HO := .ext (NPhi P w d xs)
theorem nphi_stable {P : Program} {w : World} {d : Addr} {xs : List NEnt} : ∀ h1 h2 : Heap, NPhi P w d xs h1 → (∀ o, h1.get? d = some o → h2.get? d = some o) → NPhi P w d xs h2 := by
  intro h1 h2 ⟨a, b, vs, c, o, es, ep, e, r⟩ k
  exact ⟨a, b, vs, c, o, es, ep, k _ e, r⟩
theorem nphi_ok {P : Program} {w : World} {H : Hp} {h : Heap} {d : Addr} {xs : List NEnt} (x : NPhi P w d xs h) : ObjOk P w H h d (NdO P w d xs) := by
  obtain ⟨a, b, vs, c, o, es, ep, e, r⟩ := x
  exact ⟨⟨a, b, vs, c, o, es, ep, e, r⟩, ⟨o, e⟩, nphi_stable⟩

/-! ### keys -/
section
variable {X : Cx} {pins : List (Addr × Obj)} {σ : L2.St} {H : Hp} {s : Shared}
mutual
theorem nk_is (I : Inv X pins σ H s) : ∀ (k : NestedKey) (v : V) (u : Value), Dp X.K H v k.data → RelV v u → NestedIs s.heap k u
  | .none, _, _, h, r => by
    simp only [NestedKey.data] at h
    cases h
    cases r
    exact .none
  | .num i, _, _, h, r => by
    simp only [NestedKey.data] at h
    cases h
    obtain ⟨t, rfl⟩ := r
    exact .int _ _
  | .text x, _, _, h, r => by
    simp only [NestedKey.data] at h
    cases h
    obtain ⟨t, rfl⟩ := r
    exact .text _ _
  | .tup ks, _, _, h, r => by
    simp only [NestedKey.data] at h
    cases h with
    | tup hs ha =>
      cases r
      obtain ⟨its, rv, ⟨o, ho, hc, n, hd⟩, _⟩ := I.tuple hs
      exact .tup ho hc hd (by simpa using nk_all I ks _ its ha rv)
theorem nk_all (I : Inv X pins σ H s) : ∀ (ks : List NestedKey) (vs : List V) (us : List Value), DpAll X.K H vs (NestedKey.datas ks) → Vals vs us → NestedAll s.heap ks us
  | [], _, _, h, r => by
    simp only [NestedKey.datas] at h
    cases h
    cases r
    exact .nil
  | k :: ks, _, _, h, r => by
    simp only [NestedKey.datas] at h
    cases h with
    | cons h1 h2 =>
      cases r with
      | cons r1 r2 => exact .cons (nk_is I k _ _ h1 r1) (nk_all I ks _ _ h2 r2)
end
end
/-- at b stands the key k -/
def IsNk (K : PySem.W.Frag) (H : Hp) (b : Addr) (k : NestedKey) : Prop := Dp K H (.ref b) k.data ∧ k.depth ≤ 8
mutual
theorem nk_tupy : ∀ k : NestedKey, tupy k.data = true
  | .none => rfl
  | .num _ => rfl
  | .text _ => rfl
  | .tup ks => by simp only [NestedKey.data, tupy]; exact nk_tupyAll ks
theorem nk_tupyAll : ∀ ks : List NestedKey, tupyAll (NestedKey.datas ks) = true
  | [] => rfl
  | k :: ks => by simp only [NestedKey.datas, tupyAll, nk_tupy k, nk_tupyAll ks, Bool.and_self]
end
theorem Fr.nk {S : List Addr} {K : PySem.W.Frag} {H H' : Hp} {b : Addr} {k : NestedKey} (e : Fr S H H') (h : IsNk K H b k) : IsNk K H' b k := ⟨e.dp _ _ (nk_tupy k) h.1, h.2⟩
theorem IsNk.is {X : Cx} {pins : List (Addr × Obj)} {σ : L2.St} {H : Hp} {s : Shared} {b : Addr} {k : NestedKey} (I : Inv X pins σ H s) (h : IsNk X.K H b k) : (nestedKind X.prog X.w).is s.heap k b :=
  ⟨nk_is I k _ _ h.1 rfl, h.2⟩

/-! ### the dict at d holds kvs (keys in the order in which they came) -/
def nkv (xs : List NEnt) : List (NestedKey × V) := xs.map fun x => (x.1, x.2.2)
def Nd (P : Program) (w : World) (K : PySem.W.Frag) (H : Hp) (d : Addr) (xs : List NEnt) : Prop := H d = some (NdO P w d xs) ∧ ∀ x ∈ xs, IsNk K H x.2.1 x.1
theorem Fr.nd {S : List Addr} {P : Program} {w : World} {K : PySem.W.Frag} {H H' : Hp} {d : Addr} {xs : List NEnt} (e : Fr S H H') (hd : d ∉ S) (h : Nd P w K H d xs) : Nd P w K H' d xs :=
  ⟨e.keep _ _ hd h.1, fun x hx => e.nk (h.2 x hx)⟩
def nval (xs : List NEnt) (k : NestedKey) : Option V := (xs.find? fun x => decide (x.1 = k)).map (·.2.2)
def nput (xs : List NEnt) (k : NestedKey) (a : Addr) (v : V) : List NEnt :=
  if (nval xs k).isSome then xs.map (fun x => if x.1 = k then (x.1, x.2.1, v) else x) else xs ++ [(k, a, v)]
theorem nrel_find {xs : List NEnt} {vs : List (NestedKey × Addr × Value)} (r : Paired NRel xs vs) (k : NestedKey) : RelO (nval xs k) ((atKey vs k).map (·.2)) := by
  unfold nval atKey
  induction r with
  | nil => exact True.intro
  | @cons p q ps qs h t ih =>
    rw [List.find?_cons, List.find?_cons, ← h.1]
    by_cases e : p.1 = k
    · simp only [e, decide_true, Option.map_some]
      exact h.2.2
    · simp only [e, decide_false]
      exact ih
theorem nrel_put {xs : List NEnt} {vs : List (NestedKey × Addr × Value)} (r : Paired NRel xs vs) (k : NestedKey) (a : Addr) {v : V} {u : Value} (rv : RelV v u) : Paired NRel (nput xs k a v) (storedH vs k a u) := by
  have hs : (nval xs k).isSome = (atKey vs k).isSome := by
    have q := nrel_find r k
    cases h1 : nval xs k <;> cases h2 : atKey vs k <;> rw [h1, h2] at q <;> first | rfl | exact q.elim
  unfold nput storedH
  rw [hs]
  by_cases h : (atKey vs k).isSome = true
  · rw [if_pos h, if_pos h]
    clear h hs
    induction r with
    | nil => exact .nil
    | @cons p q ps qs h t ih =>
      rw [List.map_cons, List.map_cons]
      refine .cons ?_ ih
      unfold putAt
      rw [← h.1]
      by_cases e : p.1 = k
      · rw [if_pos e, if_pos e]
        exact ⟨rfl, h.2.1, rv⟩
      · rw [if_neg e, if_neg e]
        exact h
  · rw [if_neg h, if_neg h]
    clear h hs
    induction r with
    | nil => exact .cons ⟨rfl, rfl, rv⟩ .nil
    | cons h t ih => exact .cons h ih
theorem nput_len (xs : List NEnt) (k : NestedKey) (a : Addr) (v : V) : (nput xs k a v).length ≤ xs.length + 1 := by
  unfold nput
  split
  · rw [List.length_map]; omega
  · rw [List.length_append]; exact Nat.le_refl _
section
variable {X : Cx} {pins : List (Addr × Obj)} {σ : L2.St} {H : Hp} {s : Shared} {d b : Addr} {xs : List NEnt} {k : NestedKey}
theorem nd_rd (I : Inv X pins σ H s) (h : Nd X.prog X.w X.K H d xs) : (d == sysModules) = false ∧ xs.length ≤ sizeLine ∧ ∃ vs, Paired NRel xs vs ∧ s.heap.DictOfH (nestedKind X.prog X.w) d vs := by
  obtain ⟨⟨a, z, vs, r, o, es, ep, e, h2, h3, h4, h5⟩, hx9⟩ := (show ObjOk X.prog X.w H s.heap d (NdO X.prog X.w d xs) from I.hok d _ h.1)
  clear hx9
  refine ⟨a, z, vs, r, o, es, ep, e, h2, h3, h4, fun x hx => ?_, h5⟩
  have hall : ∀ p ∈ xs, IsNk X.K H p.2.1 p.1 := h.2
  clear h h4 h5 z
  induction r with
  | nil => exact nomatch hx
  | @cons p q ps qs hq t ih =>
    rcases List.mem_cons.mp hx with e | hx
    · subst e
      have q1 := (hall p List.mem_cons_self).is I
      rw [hq.1, hq.2.1] at q1
      exact q1
    · exact ih hx fun p' hp' => hall p' (List.mem_cons_of_mem _ hp')
theorem nroom {A : Around} (hu : A.units + 64 < cLine) : (nestedKind X.prog X.w).room A.in1 := by
  show A.units + 1 + 8 < cLine
  omega
theorem n_typeIs (I : Inv X pins σ H s) (h : Nd X.prog X.w X.K H d xs) : s.TypeIs (.ref d) "dict" := by
  obtain ⟨_, _, vs, _, dd⟩ := nd_rd I h
  exact dd.typeIs
end

/-! ### the rules -/
/-- {} -/
def tNNew (P : Program) (w : World) : TE := fun _ H Q => ∀ p, H p = none → Q (.ref p) (upd H p (NdO P w p []))
/-- d[y] -/
def tNGet (P : Program) (w : World) (K : PySem.W.Frag) (td ty : TE) : TE := fun σ H Q => td σ H fun x H1 => ty σ H1 fun y H2 => ∃ a xs b k v, x = .ref a ∧ y = .ref b ∧ Nd P w K H2 a xs ∧ IsNk K H2 b k ∧ nval xs k = some v ∧ Q v H2
def tNIn (neg : Bool) (P : Program) (w : World) (K : PySem.W.Frag) (ty td : TE) : TE := fun σ H Q => ty σ H fun y H1 => td σ H1 fun x H2 => ∃ a xs b k, x = .ref a ∧ y = .ref b ∧ Nd P w K H2 a xs ∧ IsNk K H2 b k ∧ Q (.bl (if neg then !(nval xs k).isSome else (nval xs k).isSome)) H2
/-- d[y] = v -/
def sNPut (P : Program) (w : World) (K : PySem.W.Frag) (td ty tv : TE) : TS := fun D σ H => tv σ H fun v H1 => td σ H1 fun x H2 => ty σ H2 fun y H3 => ∃ a xs b k, x = .ref a ∧ y = .ref b ∧ Nd P w K H3 a xs ∧ IsNk K H3 b k ∧ xs.length < sizeLine ∧
  D.nx σ (upd H3 a (NdO P w a (nput xs k b v)))
section
variable {X : Cx} {o i value e : Expr} {pos pos' : Pos} {td ty tv : TE}
theorem pe_nnew : PE X (.Dict [] [] pos) (tNNew X.prog X.w) := ⟨fun pins s σ H Q I h =>
  wpAny_Dict_empty ⟨.ref s.heap.objs.size, _, I.laid (a := s.heap.objs.size) (o := NdO X.prog X.w s.heap.objs.size []) (t' := s.toks) (fun _ _ q => Heap.get?_push_of_some _ q) (Nat.le_refl _)
    (nphi_ok ⟨beq_eq_false_iff_ne.mpr (Ne.symm (Nat.ne_of_lt I.big)), Nat.zero_le _, [], .nil, _, #[], 0, Heap.get?_push_size _ rfl, ⟨rfl, rfl, rfl⟩, rfl, rfl, List.nodup_nil⟩), rfl, h _ (I.hok.fresh (Nat.le_refl _))⟩⟩
theorem pe_nget (hu : X.A.units + 64 < cLine) (ho : PE X o td) (hi : PE X i ty) (hs : NoSl i) : PE X (.Subscript o i pos) (tNGet X.prog X.w X.K td ty) := by
  refine ⟨fun pins s σ H Q I h => ?_⟩
  refine subD_of PySem.F.slot_dict_getitem.lookup hs (thn (ho.run pins s σ H _ I h) fun u s1 ⟨x, H1, I1, rx, q1⟩ => thn (hi.run pins s1 σ H1 _ I1 q1) fun iv s2 ⟨y, H2, I2, ry, a, xs, b, k, v, ex, ey, g, hk, hv, q2⟩ => ?_)
  subst ex ey
  obtain rfl : u = Value.ref a := rx
  obtain rfl : iv = Value.ref b := ry
  refine ⟨n_typeIs I2 g, ?_⟩
  obtain ⟨hd, _, vs, rel, dd⟩ := nd_rd I2 g
  have q := nrel_find rel k
  rw [hv] at q
  cases hp : atKey vs k with
  | none => rw [hp] at q; exact q.elim
  | some p =>
    rw [hp] at q
    exact wpAny_getItem_heap (nroom hu) (hk.is I2) dd hp ⟨v, H2, I2.tok _, q, q2⟩
theorem pc_nin (hu : X.A.units + 64 < cLine) (hi : PE X i ty) (ho : PE X o td) : PC X .In i o (tNIn false X.prog X.w X.K ty td) := by
  refine ⟨fun pins s σ H Q I h => ?_⟩
  refine thn (hi.run pins s σ H _ I h) fun iv s1 ⟨y, H1, I1, ry, q1⟩ => thn (ho.run pins s1 σ H1 _ I1 q1) fun u s2 ⟨x, H2, I2, rx, a, xs, b, k, ex, ey, g, hk, q2⟩ => ?_
  subst ex ey
  obtain rfl : u = Value.ref a := rx
  obtain rfl : iv = Value.ref b := ry
  obtain ⟨hd, _, vs, rel, dd⟩ := nd_rd I2 g
  refine wpAny_in_heap (nroom hu) (hk.is I2) hd dd ⟨.bl (nval xs k).isSome, H2, I2.tok _, ?_, q2⟩
  have q := nrel_find rel k
  show Value.bool _ = Value.bool _
  cases h1 : nval xs k <;> cases h2 : atKey vs k <;> rw [h1, h2] at q <;> first | rfl | exact q.elim
theorem pc_nnotin (hu : X.A.units + 64 < cLine) (hi : PE X i ty) (ho : PE X o td) : PC X .NotIn i o (tNIn true X.prog X.w X.K ty td) := by
  refine ⟨fun pins s σ H Q I h => ?_⟩
  refine thn (hi.run pins s σ H _ I h) fun iv s1 ⟨y, H1, I1, ry, q1⟩ => thn (ho.run pins s1 σ H1 _ I1 q1) fun u s2 ⟨x, H2, I2, rx, a, xs, b, k, ex, ey, g, hk, q2⟩ => ?_
  subst ex ey
  obtain rfl : u = Value.ref a := rx
  obtain rfl : iv = Value.ref b := ry
  obtain ⟨hd, _, vs, rel, dd⟩ := nd_rd I2 g
  refine wpAny_notIn_heap (nroom hu) (hk.is I2) hd dd ⟨.bl (!(nval xs k).isSome), H2, I2.tok _, ?_, q2⟩
  have q := nrel_find rel k
  show Value.bool _ = Value.bool _
  cases h1 : nval xs k <;> cases h2 : atKey vs k <;> rw [h1, h2] at q <;> first | rfl | exact q.elim
theorem ps_nput (hu : X.A.units + 64 < cLine) (ho : PE X o td) (hi : PE X i ty) (hv : PE X value tv) (hs : swapsWith value (some (.Subscript o i pos')) pos.line X.env = pure false := by rfl) :
    PS X (.Assign [.Subscript o i pos'] value pos) (sNPut X.prog X.w X.K td ty tv) := by
  refine ⟨fun pins s σ H D I h => ?_⟩
  refine wpAny_Assign_Subscript (thn (hv.run pins s σ H _ I h) fun r s1 ⟨v, H1, I1, rv, q1⟩ => thn (ho.run pins s1 σ H1 _ I1 q1) fun u s2 ⟨x, H2, I2, rx, q2⟩ => thn (hi.run pins s2 σ H2 _ I2 q2) fun iv s3 ⟨y, H3, I3, ry, a, xs, b, k, ex, ey, g, hk, hl, q3⟩ => ?_) hs
  subst ex ey
  obtain rfl : u = Value.ref a := rx
  obtain rfl : iv = Value.ref b := ry
  obtain ⟨hd, hz, vs, rel, dd⟩ := nd_rd I3 g
  refine wpAny_setItem_heap (hsz := by rw [← Paired.length rel]; exact hz) (nroom hu) (hk.is I3) dd fun h' dd' hs' => ?_
  obtain ⟨q, es, ep, hq, h2, h3, h4, _, h5⟩ := dd'
  refine ⟨σ, _, d_write I3 (by rw [g.1]; exact True.intro) hs' ⟨q, hq⟩ (nphi_ok ⟨hd, ?_, _, nrel_put rel k b rv, q, es, ep, hq, h2, h3, h4, h5⟩), q3⟩
  have := nput_len xs k b v
  omega
/-- len(d) -/
theorem call_lenN : CallR X (.builtin "len") (fun ys H Q => ∃ d xs, ys = [.ref d] ∧ Nd X.prog X.w X.K H d xs ∧ Q (.int ((xs.length : Nat) : Int)) H) := by
  intro pins s σ H ys us Q I r h
  obtain ⟨p, xs, rfl, hp, q⟩ := h
  obtain ⟨u, rfl, rx⟩ := vals1 r
  obtain rfl : u = .ref p := rx
  obtain ⟨hd, z, vs, rel, dd⟩ := nd_rd I hp
  have hl : xs.length = vs.length := Paired.length rel
  have hs := sizeLine_eq
  refine call_len_dictH hd dd (by omega) ⟨.int ((xs.length : Nat) : Int), H, (I.tok _).tok _, ⟨_, by rw [hl]⟩, q⟩
/-- list(d): the keys -/
theorem call_listN (hc : X.calm = true) : CallR X (.type "list") (fun ys H Q => ∃ d xs, ys = [.ref d] ∧ Nd X.prog X.w X.K H d xs ∧ ∀ l, H l = none → Q (.ref l) (upd H l (.lst (xs.map fun x => .ref x.2.1)))) := by
  intro pins s σ H ys us Q I r h
  obtain ⟨p, xs, rfl, hp, q⟩ := h
  obtain ⟨u, rfl, rx⟩ := vals1 r
  obtain rfl : u = .ref p := rx
  obtain ⟨hd, z, vs, rel, o, es, ep, h1, h2, h3, h4, _⟩ := nd_rd I hp
  have hn : es.size = xs.length := by rw [size_of_entries h4, ← Paired.length rel]
  refine PySem.W.kdl_call (PySem.KdlSrc.rawDict (es := es) (ep := ep) hd) (I.ok.hd hc) ⟨o, h1, h2, h3⟩ (by omega) fun h' tk acc' c' kp hS hacc => ?_
  refine ⟨.ref s.heap.objs.size, _, I.laid (a := s.heap.objs.size) (o := .lst (xs.map fun x => .ref x.2.1)) (t' := tk) kp (Nat.le_refl _) ⟨by rw [List.length_map]; exact z, acc'.toList, c', ?_, by simpa using hS⟩, rfl, q _ (I.hok.fresh (Nat.le_refl _))⟩
  have all : ∀ (n : Nat) (as : List V) (bs : List Value), as.length = n → bs.length = n → (∀ (j : Nat) (a : V) (b : Value), as[j]? = some a → bs[j]? = some b → RelV a b) → Vals as bs := by
    intro n
    induction n with
    | zero => intro as bs e1 e2 _; cases as <;> cases bs <;> simp_all; exact .nil
    | succ n ih =>
      intro as bs e1 e2 hj
      cases as with
      | nil => simp at e1
      | cons a as =>
        cases bs with
        | nil => simp at e2
        | cons b bs => exact .cons (hj 0 a b rfl rfl) (ih as bs (by simpa using e1) (by simpa using e2) fun j a' b' h1 h2 => hj (j + 1) a' b' (by simpa using h1) (by simpa using h2))
  refine all xs.length _ _ (List.length_map _) (by rw [Array.length_toList, hacc.1, hn]) fun j a b ha hb => ?_
  obtain ⟨hi, eb⟩ := hacc.2 j b (by rw [← Array.getElem?_toList]; exact hb)
  rw [List.getElem?_map] at ha
  obtain ⟨x, hx, rfl⟩ := Option.map_eq_some_iff.mp ha
  obtain ⟨y, hy, ry⟩ := paired_get rel hx
  have q1 := entry_at h4 j
  rw [hy, Array.getElem?_eq_getElem hi] at q1
  have q2 : es[j] = entryOfKey (nestedKind X.prog X.w) y := Option.some.inj q1
  show b = Value.ref x.2.1
  rw [eb, q2, ry.2.1]
  rfl
end
/-! ### for k in d -/
def Itn (P : Program) (w : World) (d : Addr) (o : Obj) (xs : List NEnt) : It :=
  ⟨fun i H => H d = some (.frz o (NdO P w d xs)) ∧ i < xs.length, fun i H x H' => H' = H ∧ ∃ p, xs[i]? = some p ∧ x = .ref p.2.1, fun i H => H d = some (.frz o (NdO P w d xs)) ∧ xs.length ≤ i⟩
section
variable {X : Cx} {pins : List (Addr × Obj)} {σ : L2.St} {H : Hp} {s : Shared} {d : Addr} {o : Obj}
theorem frzN {xs : List NEnt} (I : Inv X pins σ H s) (h : H d = some (.frz o (NdO X.prog X.w d xs))) :
    (d == sysModules) = false ∧ s.heap.get? d = some o ∧ o.ExactDict ∧ ∃ (es : Array DictEntry) (ep : Nat), o.data = .dict es ep ∧ es.size = xs.length ∧
      ∀ (i : Nat) (p : NEnt), xs[i]? = some p → ∃ (en : DictEntry), es[i]? = some en ∧ en.key = .ref p.2.1 := by
  obtain ⟨hd, ⟨hs, z, vs, rel, o', es, ep, ho, hx, hdt, he, _⟩, _⟩ := (show ObjOk X.prog X.w H s.heap d (.frz o (NdO X.prog X.w d xs)) from I.hok d _ h)
  rw [hd] at ho
  cases ho
  refine ⟨hs, hd, hx, es, ep, hdt, by rw [size_of_entries he, ← Paired.length rel], fun i p e => ?_⟩
  obtain ⟨y, hy, ry⟩ := paired_get rel e
  have q1 := entry_at he i
  rw [hy] at q1
  exact ⟨_, q1, by rw [ry.2.1]; rfl⟩
end
section
variable {P : Program} {w : World} {K : PySem.W.Frag} {tg : Expr} {d : Addr} {o : Obj} {es : Array DictEntry} {ep : Nat}
theorem turn_keysN {xs : List NEnt} (it : Addr) (hod : o.data = .dict es ep) : Turn P w K tg (Itn P w d o xs) [it] it (fun i h => h.IsKeyIter it d i xs.length ep) where
  mem := by simp
  obj := fun i h st b hb => by
    have e : b = it := by simpa using hb
    subst e
    obtain ⟨oi, e, c, dd⟩ := st
    exact ⟨oi, e, fun v z => by rw [dd] at z; cases z⟩
  keep := fun i h h' st k => st.at fun oi e => k it (by simp) oi e
  item := by
    intro X hP hw hK hc i pins s σ H E I hf st hg
    subst hP hw hK
    obtain ⟨hd, hi⟩ := hg
    obtain ⟨f0, f1, f2, f3, f4, f5⟩ := hf it (by simp)
    obtain ⟨hs, hgd, hx, es', ep', hdt, hsz, ent⟩ := frzN I hd
    obtain ⟨rfl, rfl⟩ := dict_ep hod hdt
    obtain ⟨p, hkv⟩ : ∃ p, xs[i]? = some p := ⟨xs[i], List.getElem?_eq_getElem hi⟩
    obtain ⟨en, hen, hkey⟩ := ent i p hkv
    refine next_key_item st hgd hdt hsz hen fun h' st' sb => ?_
    have I1 : Inv X pins σ H { s with heap := h' } := I.turned (t' := s.toks) (fun b ob hb e => (sb.2 b hb).trans e) f0 f1 f3 f4 f5
    obtain ⟨oi, e, c, dd⟩ := id st'
    exact ⟨en.key, rfl, go_of (s := { s with heap := h' }) e c dd (by decide) ⟨.ref p.2.1, H, I1, hkey, ⟨rfl, p, hkv, rfl⟩, st', fun b hb => (hf b hb).1⟩⟩
  done := by
    intro X hP hw hK hc i pins s σ H E I hf st hg
    subst hP hw hK
    obtain ⟨hd, hi⟩ := hg
    obtain ⟨f0, f1, f2, f3, f4, f5⟩ := hf it (by simp)
    obtain ⟨hs, hgd, hx, es', ep', hdt, hsz, ent⟩ := frzN I hd
    obtain ⟨rfl, rfl⟩ := dict_ep hod hdt
    exact next_key_end (I.ok.hd hc) st hgd hdt hsz hi fun h' eb => ⟨rfl, I.turned (t' := s.toks) (fun b ob hb e => eb b ob hb e) f0 f1 f3 f4 f5⟩
  self := fun A i s Q E st h => by
    refine wpAny_pyIter_slot st.typeIs PySem.F.slot_dict_keyiterator_iter (wpAny_call_entry PySem.F.slot_dict_keyiterator_iter st.typeIs PySem.F.entry_dict_keyiterator_iter ?_ (PySem.F.args_dict_keyiterator_iter_1 _))
    show wpAny _ _ (ret (.ref it)) _ _ s
    exact wpAny_pure ⟨_, rfl, "dict_keyiterator", _, st.typeIs, PySem.F.slot_dict_keyiterator_next.lookup, h⟩
end
def iKeysN (P : Program) (w : World) (td : TE) : TI := fun σ H R => td σ H fun x H1 => ∃ d o xs, x = .ref d ∧ H1 d = some (.frz o (NdO P w d xs)) ∧ R (Itn P w d o xs) H1
section
variable {X : Cx} {tg e : Expr} {td : TE}
theorem pi_keysN (he : PE X e td) : PI X tg e (iKeysN X.prog X.w td) := by
  refine ⟨fun pins s σ H R I h => ?_⟩
  refine thn (he.run pins s σ H _ I h) fun u s1 ⟨x, H1, I1, rx, d, o, xs, ex, hd, q⟩ => ?_
  subst ex
  obtain rfl : u = Value.ref d := rx
  obtain ⟨hs, hgd, hx, es, ep, hdt, hsz, ent⟩ := frzN I1 hd
  refine iter_keys hs hgd hx hdt (pi_one (tk := s1.toks) I1 _ (turn_keysN _ hdt) ⟨_, Heap.get?_push_size _ rfl, rfl, ?_⟩ q)
  rw [hsz] <;> rfl
end
end TT

namespace TT
open PySem L2
def top (i : Nat) : Stmt := PySem.Challenge.pw_treetellers_k19_trees_written.main.body.getD i (.Pass ⟨0, 0, 0, 0⟩)

abbrev s_has_form : Stmt := top 11
abbrev N_has_form : List Str := ["thing", "label", "kids"]
abbrev P_has_form : List Str := ["thing"]
theorem sc_has_form : FnScope N_has_form P_has_form (defScope s_has_form) := ⟨rfl, rfl, rfl, by decide +kernel, rfl, by decide +kernel, by decide +kernel⟩

abbrev s_places_of : Stmt := top 12
abbrev N_places_of : List Str := ["tree", "standing", "waiting", "place", "here", "kids", "number"]
abbrev P_places_of : List Str := ["tree"]
theorem sc_places_of : FnScope N_places_of P_places_of (defScope s_places_of) := ⟨rfl, rfl, rfl, by decide +kernel, rfl, by decide +kernel, by decide +kernel⟩

abbrev s_written : Stmt := top 14
abbrev N_written : List Str := ["tree"]
abbrev P_written : List Str := ["tree"]
theorem sc_written : FnScope N_written P_written (defScope s_written) := ⟨rfl, rfl, rfl, by decide +kernel, rfl, by decide +kernel, by decide +kernel⟩

abbrev s_read : Stmt := top 15
abbrev N_read : List Str := ["text", "tree"]
abbrev P_read : List Str := ["text"]
theorem sc_read : FnScope N_read P_read (defScope s_read) := ⟨rfl, rfl, rfl, by decide +kernel, rfl, by decide +kernel, by decide +kernel⟩

abbrev s_part_text : Stmt := top 16
abbrev N_part_text : List Str := ["part", "_", "state", "path", "label", "kids", "number", "kid"]
abbrev P_part_text : List Str := ["part"]
theorem sc_part_text : FnScope N_part_text P_part_text (defScope s_part_text) := ⟨rfl, rfl, rfl, by decide +kernel, rfl, by decide +kernel, by decide +kernel⟩

abbrev s_whole_read : Stmt := top 17
abbrev N_whole_read : List Str := ["text", "bare", "labels", "rows", "at", "ends"]
abbrev P_whole_read : List Str := ["text", "bare"]
theorem sc_whole_read : FnScope N_whole_read P_whole_read (defScope s_whole_read) := ⟨rfl, rfl, rfl, by decide +kernel, rfl, by decide +kernel, by decide +kernel⟩

abbrev s_opened : Stmt := top 18
abbrev N_opened : List Str := ["text", "at", "labels", "rows"]
abbrev P_opened : List Str := ["text", "at", "labels", "rows"]
theorem sc_opened : FnScope N_opened P_opened (defScope s_opened) := ⟨rfl, rfl, rfl, by decide +kernel, rfl, by decide +kernel, by decide +kernel⟩

abbrev s_ended : Stmt := top 19
abbrev N_ended : List Str := ["text", "at", "bare", "rows", "part", "many"]
abbrev P_ended : List Str := ["text", "at", "bare", "rows"]
theorem sc_ended : FnScope N_ended P_ended (defScope s_ended) := ⟨rfl, rfl, rfl, by decide +kernel, rfl, by decide +kernel, by decide +kernel⟩

abbrev s_shut : Stmt := top 20
abbrev N_shut : List Str := ["text", "at", "labels", "rows", "kids"]
abbrev P_shut : List Str := ["text", "at", "labels", "rows"]
theorem sc_shut : FnScope N_shut P_shut (defScope s_shut) := ⟨rfl, rfl, rfl, by decide +kernel, rfl, by decide +kernel, by decide +kernel⟩

abbrev s_nothing_bare : Stmt := top 21
abbrev N_nothing_bare : List Str := ["text", "at"]
abbrev P_nothing_bare : List Str := ["text", "at"]
theorem sc_nothing_bare : FnScope N_nothing_bare P_nothing_bare (defScope s_nothing_bare) := ⟨rfl, rfl, rfl, by decide +kernel, rfl, by decide +kernel, by decide +kernel⟩

abbrev s__law_begun : Stmt := top 23
abbrev N__law_begun : List Str := ["_law_script", "_law_stirred", "_law_cell"]
abbrev P__law_begun : List Str := ["_law_script"]
theorem sc__law_begun : FnScope N__law_begun P__law_begun (defScope s__law_begun) := ⟨rfl, rfl, rfl, by decide +kernel, rfl, by decide +kernel, by decide +kernel⟩

abbrev s__law_take : Stmt := top 24
abbrev N__law_take : List Str := ["_law_box", "_law_many", "_law_number"]
abbrev P__law_take : List Str := ["_law_box", "_law_many"]
theorem sc__law_take : FnScope N__law_take P__law_take (defScope s__law_take) := ⟨rfl, rfl, rfl, by decide +kernel, rfl, by decide +kernel, by decide +kernel⟩

abbrev s__law_alike : Stmt := top 25
abbrev N__law_alike : List Str := ["_law_found", "_law_due", "_law_k"]
abbrev P__law_alike : List Str := ["_law_found", "_law_due"]
theorem sc__law_alike : FnScope N__law_alike P__law_alike (defScope s__law_alike) := ⟨rfl, rfl, rfl, by decide +kernel, rfl, by decide +kernel, by decide +kernel⟩

abbrev s__law_grown : Stmt := top 26
abbrev N__law_grown : List Str := ["_law_box", "_law_letters_here", "_law_left", "_law_deep", "_law_kids", "_law_k"]
abbrev P__law_grown : List Str := ["_law_box", "_law_letters_here", "_law_left", "_law_deep"]
theorem sc__law_grown : FnScope N__law_grown P__law_grown (defScope s__law_grown) := ⟨rfl, rfl, rfl, by decide +kernel, rfl, by decide +kernel, by decide +kernel⟩

abbrev s__law_tree : Stmt := top 27
abbrev N__law_tree : List Str := ["_law_box", "_law_letters_here", "_law_most"]
abbrev P__law_tree : List Str := ["_law_box", "_law_letters_here"]
theorem sc__law_tree : FnScope N__law_tree P__law_tree (defScope s__law_tree) := ⟨rfl, rfl, rfl, by decide +kernel, rfl, by decide +kernel, by decide +kernel⟩

abbrev s__law_letters : Stmt := top 28
abbrev N__law_letters : List Str := ["_law_box", "_law_left", "_law_k"]
abbrev P__law_letters : List Str := ["_law_box"]
theorem sc__law_letters : FnScope N__law_letters P__law_letters (defScope s__law_letters) := ⟨rfl, rfl, rfl, by decide +kernel, rfl, by decide +kernel, by decide +kernel⟩

abbrev s__law_places : Stmt := top 29
abbrev N__law_places : List Str := ["_law_tree_here", "_law_found", "_law_k", "_law_place", "_law_part"]
abbrev P__law_places : List Str := ["_law_tree_here"]
theorem sc__law_places : FnScope N__law_places P__law_places (defScope s__law_places) := ⟨rfl, rfl, rfl, by decide +kernel, rfl, by decide +kernel, by decide +kernel⟩

abbrev s__law_text : Stmt := top 30
abbrev N__law_text : List Str := ["_law_tree_here", "_law_kid"]
abbrev P__law_text : List Str := ["_law_tree_here"]
theorem sc__law_text : FnScope N__law_text P__law_text (defScope s__law_text) := ⟨rfl, rfl, rfl, by decide +kernel, rfl, by decide +kernel, by decide +kernel⟩

abbrev s_law : Stmt := top 31
abbrev N_law : List Str := ["_law_script", "_law_box", "_law_turn", "_law_tree_here", "_law_text_here"]
abbrev P_law : List Str := ["_law_script"]
theorem sc_law : FnScope N_law P_law (defScope s_law) := ⟨rfl, rfl, rfl, by decide +kernel, rfl, by decide +kernel, by decide +kernel⟩

structure Txt (K : PySem.W.Frag) (mg : Str → Option Value) : Prop where
  bool_ : mg "bool" = none
  int_ : mg "int" = none
  isinstance_ : mg "isinstance" = none
  len_ : mg "len" = none
  list_ : mg "list" = none
  range_ : mg "range" = none
  reversed_ : mg "reversed" = none
  str_ : mg "str" = none
  tuple_ : mg "tuple" = none
  LETTERS : ∃ a, mg "LETTERS" = some (.ref a) ∧ ∀ H, SqT K H a [.str "a", .str "b", .str "c", .str "d", .str "e", .str "f"]
  ANY : ∃ a, mg "ANY" = some (.ref a) ∧ ∀ H, SqT K H a [.str "any"]
  LEAF : ∃ a, mg "LEAF" = some (.ref a) ∧ ∀ H, SqT K H a [.str "leaf"]
  MOST_KIDS : ∃ t, mg "MOST_KIDS" = some (.int 3 t)
  MOST_PLACES : ∃ t, mg "MOST_PLACES" = some (.int 60 t)
  TREE_LEVELS : ∃ t, mg "TREE_LEVELS" = some (.int 12 t)
end TT

namespace TT
open PySem L2

/-! ### the box: [script's numbers left, the stirred number] -/
def BoxAt (H : Hp) (b q : Addr) : Prop := ∃ (z : Int) (ns : List Int), H b = some (.lst [.ref q, .int z]) ∧ H q = some (.lst (ns.map V.int)) ∧ ns.length ≤ 63
theorem BoxAt.ne {H : Hp} {b q : Addr} (h : BoxAt H b q) : b ≠ q := by
  obtain ⟨z, ns, h1, h2, _⟩ := h
  refine ne_of h1 h2 fun e => ?_
  injection e with e
  cases ns with
  | nil => simp at e
  | cons a r => simp at e
theorem ints_lay : ∀ ns : List Int, PyData.canLayAll0 (ns.map PyData.int) = true
  | [] => by simp [PyData.canLayAll0]
  | n :: ns => by simp [PyData.canLayAll0, PyData.canLay0, ints_lay ns]
theorem ints_depth : ∀ ns : List Int, PyData.depthAll (ns.map PyData.int) = 0
  | [] => by simp [PyData.depthAll]
  | n :: ns => by simp [PyData.depthAll, PyData.depth, ints_depth ns]
theorem shaped_of {d : PyData} (h1 : d.canLay0 = true) (h2 : d.depth ≤ 64) : SeqAt.shaped d = true := by
  show (d.canLay0 && decide (d.depth ≤ 64)) = true
  rw [Bool.and_eq_true]
  exact ⟨h1, decide_eq_true h2⟩
theorem ints_shaped (ns : List Int) : SeqAt.shaped (.list (ns.map PyData.int)) = true :=
  shaped_of (by simp only [PyData.canLay0]; exact ints_lay ns) (by simp only [PyData.depth, ints_depth]; decide)
theorem ints_dp {K : PySem.W.Frag} {H : Hp} : ∀ ns : List Int, DpAll K H (ns.map V.int) (ns.map PyData.int)
  | [] => .nil
  | n :: ns => .cons (.int n) (ints_dp ns)
theorem atI_zero {α : Type} (v : α) (xs : List α) : atI (v :: xs) 0 = some v := atI_nat (j := 0) rfl
theorem ixN_zero (n : Nat) : ixN (n + 1) 0 = some 0 := by
  unfold ixN
  rw [if_pos (by decide), if_pos (by omega)]
  rfl
theorem ixN_nat {n j : Nat} (h : j < n) : ixN n (j : Int) = some j := by
  unfold ixN
  rw [if_pos (by omega), if_pos (by omega)]
  simp
theorem seq_zero (n : Nat) : seqIndex? 0 (n + 1) = some 0 := (ixN_seq (ixN_zero n)).1
def spTake (K : PySem.W.Frag) : Sp := fun vs H Q _ => ∃ (b q : Addr) (m : Int), vs = [.ref b, .int m] ∧ BoxAt H b q ∧ 0 < m ∧ m ≤ 1000 ∧ ∀ (r : Int) (H' : Hp), 0 ≤ r → r < m → Fr [b, q] H H' → BoxAt H' b q → Q (.int r) H'
section
variable {P : Program} {w : World} {K : PySem.W.Frag} {mg : Str → Option Value} {base : Heap} {f : Addr} {fd : FuncData}
theorem ok_take (F : Fun K "_law_take" "_law_take" s__law_take f fd) : FnOk P w K mg base CX0 1 f fd P__law_take (spTake K) := by
  refine F.ok sc__law_take (fun vs H Q E h => ?_) (fun cdv A outer s H vs Q E hr h => ?_)
  · obtain ⟨b, q, m, rfl, _⟩ := h
    rfl
  obtain ⟨b, q, m, rfl, hB, h0, h1, k⟩ := h
  have nd := (sc__law_take).nd
  have hu := hr.units
  have nbq := hB.ne
  obtain ⟨z, ns, hb, hq, hl⟩ := hB
  refine ⟨_, pss_cons (ps_if (pt_cmpR (op_eqD hu) (pe_ix ix_list (pv 0) pe_int (fun _ _ => rfl)) (pe_lst pa_nil) (nomark _))
    (pss_cons (ps_asg (pe_op op_mod (pe_op op_mul (pe_ix ix_list (pv 0) pe_int (fun _ _ => rfl)) pe_int) pe_int) (pg_sub (pv 0) pe_int set_list))
    (pss_one (ps_ret (pe_op op_mod (pe_op op_fdiv (pe_ix ix_list (pv 0) pe_int (fun _ _ => rfl)) pe_int) (pv 1)))))
    (pss_nil))
  (pss_cons (ps_set (i := 2) nd rfl (Or.inl rfl) (pe_ix ix_list (pe_ix ix_list (pv 0) pe_int (fun _ _ => rfl)) pe_int (fun _ _ => rfl)))
  (pss_cons (ps_asg (pe_op op_fdiv (pv 2) (pv 1)) (pg_sub (pe_ix ix_list (pv 0) pe_int (fun _ _ => rfl)) pe_int set_list))
  (pss_cons (ps_if (PW.pt (pw_or (pt_cmpR op_eq (pe_ix ix_list (pe_ix ix_list (pv 0) pe_int (fun _ _ => rfl)) pe_int (fun _ _ => rfl)) pe_int (nomark _)) (pw_or1 (pt_cmpR op_eq (pe_ix ix_list (pe_ix ix_list (pv 0) pe_int (fun _ _ => rfl)) pe_int (fun _ _ => rfl)) (pe_un un_neg pe_int) (nomark _)))))
    (pss_one (ps_expr (pe_bm PySem.F.plainAttrs_list PySem.F.slot_list_pop PySem.F.type_list_pop mt_popAt (pe_ix ix_list (pv 0) pe_int (fun _ _ => rfl)) (pa_cons pe_int pa_nil))))
    (pss_nil))
  (pss_one (ps_ret (pe_op op_mod (pv 2) (pv 1))))))), ?_⟩
  -- if box[0] == []
  refine ⟨_, rfl, b, _, _, .ref q, rfl, rfl, SqL.of hb, rfl, Nat.zero_le _, fun e he => ?_⟩
  have nqe : q ≠ e := ne_of_none hq he
  have nbe : b ≠ e := ne_of_none hb he
  have hb1 : upd H e (.lst []) b = some (.lst [.ref q, .int z]) := by rw [upd_ne nbe]; exact hb
  have hq1 : upd H e (.lst []) q = some (.lst (ns.map V.int)) := by rw [upd_ne nqe]; exact hq
  have f1 : Fr [b, q] H (upd H e (.lst [])) := Fr.new he
  refine ⟨.list (ns.map PyData.int), .list [], .lst (SqL.of hq1) (ints_dp ns), .lst (SqL.of upd_same) .nil, ints_shaped ns, ints_shaped [], _, rfl, ?_⟩
  cases ns with
  | nil =>
    refine iteT ?_
    -- box[1] = box[1] * 48271 % 2147483647; return box[1] // 7 % many
    refine ⟨_, rfl, b, _, _, .int z, rfl, rfl, SqL.of hb1, rfl, _, _, rfl, rfl, .inr (by constructor <;> decide), _, _, rfl, rfl, (by show (0 : Int) < 2147483647; decide), ?_⟩
    refine ⟨_, rfl, b, _, _, 1, rfl, rfl, hb1, rfl, ?_⟩
    refine ⟨_, rfl, b, _, _, _, rfl, rfl, SqL.of upd_same, rfl, _, _, rfl, rfl, ⟨by decide, by decide⟩, _, rfl, _, _, rfl, rfl, h0, ?_⟩
    refine k _ _ (Int.emod_nonneg _ (by omega)) (Int.emod_lt_of_pos _ h0) (f1.trans (Fr.lst hb1 (by simp))) ⟨_, [], upd_same, by rw [upd_ne nbq.symm]; exact hq1, by simp⟩
  | cons n ns =>
    refine iteF ?_
    -- number = box[0][0]
    refine ⟨_, rfl, b, _, _, .ref q, rfl, rfl, SqL.of hb1, rfl, q, _, _, .int n, rfl, rfl, SqL.of hq1, atI_zero _ _, ?_⟩
    -- box[0][0] = number // many
    refine ⟨_, rfl, _, rfl, _, _, rfl, rfl, ⟨h0, by omega⟩, _, rfl, b, _, _, .ref q, rfl, rfl, SqL.of hb1, rfl, q, _, _, 0, rfl, rfl, hq1, ixN_zero _, ?_⟩
    have hb2 : upd (upd H e (.lst [])) q (.lst (((n / m) :: ns).map V.int)) b = some (.lst [.ref q, .int z]) := by rw [upd_ne nbq]; exact hb1
    have hq2 : upd (upd H e (.lst [])) q (.lst (((n / m) :: ns).map V.int)) q = some (.lst (((n / m) :: ns).map V.int)) := upd_same
    have f2 : Fr [b, q] H (upd (upd H e (.lst [])) q (.lst (((n / m) :: ns).map V.int))) := f1.trans (Fr.lst hq1 (by simp))
    have fin : ∀ H', Fr [b, q] H H' → BoxAt H' b q → Q (.int (n % m)) H' := fun H' ff hB => k _ _ (Int.emod_nonneg _ (by omega)) (Int.emod_lt_of_pos _ h0) ff hB
    have hl' : ns.length ≤ 62 := by simpa using hl
    have pop : ∀ (H2 : Hp), H2 = upd (upd H e (.lst [])) q (.lst (((n / m) :: ns).map V.int)) → Fr [b, q] H (upd H2 q (.lst (ns.map V.int))) ∧ BoxAt (upd H2 q (.lst (ns.map V.int))) b q := by
      rintro H2 rfl
      refine ⟨f2.trans (Fr.lst hq2 (by simp)), z, ns, by rw [upd_ne nbq]; exact hb2, upd_same, by omega⟩
    refine ⟨_, rfl, b, _, _, .ref q, rfl, rfl, SqL.of hb2, rfl, q, _, _, .int (n / m), rfl, rfl, SqL.of hq2, atI_zero _ _, rfl, _, rfl, ?_⟩
    refine ite2 (fun _ => ?_) (fun _ => ?_)
    · refine iteT ?_
      refine ⟨_, rfl, b, _, _, .ref q, rfl, rfl, SqL.of hb2, rfl, .inl ⟨rfl, _, SqL.of hq2⟩, q, _, _, 0, _, rfl, rfl, hq2, by decide, by decide, seq_zero _, rfl, ?_⟩
      obtain ⟨p1, p2⟩ := pop _ rfl
      exact ⟨_, rfl, _, rfl, _, _, rfl, rfl, h0, fin _ p1 p2⟩
    · refine ⟨_, rfl, b, _, _, .ref q, rfl, rfl, SqL.of hb2, rfl, q, _, _, .int (n / m), rfl, rfl, SqL.of hq2, atI_zero _ _, _, rfl, rfl, _, rfl, ?_⟩
      refine ite2 (fun _ => ?_) (fun _ => ?_)
      · refine ⟨_, rfl, b, _, _, .ref q, rfl, rfl, SqL.of hb2, rfl, .inl ⟨rfl, _, SqL.of hq2⟩, q, _, _, 0, _, rfl, rfl, hq2, by decide, by decide, seq_zero _, rfl, ?_⟩
        obtain ⟨p1, p2⟩ := pop _ rfl
        exact ⟨_, rfl, _, rfl, _, _, rfl, rfl, h0, fin _ p1 p2⟩
      · exact ⟨_, rfl, _, rfl, _, _, rfl, rfl, h0, fin _ f2 ⟨z, _, hb2, hq2, by simpa using hl⟩⟩
end
end TT

namespace TT
open PySem L2

/-! ### trees, patterns, builds: tips and labelled nodes -/
inductive Ge where
  | tip (ks : List NestedKey)
  | node (l : Str) (gs : List Ge)
namespace Ge
mutual
def key : Ge → NestedKey
  | .tip ks => .tup ks
  | .node l gs => .tup [.text l, .tup (keys gs)]
def keys : List Ge → List NestedKey
  | [] => []
  | g :: gs => key g :: keys gs
end
def data (g : Ge) : PyData := g.key.data
def datas (gs : List Ge) : List PyData := NestedKey.datas (keys gs)
theorem datas_cons (g : Ge) (gs : List Ge) : datas (g :: gs) = g.data :: datas gs := by simp only [datas, keys, NestedKey.datas, data]
theorem datas_nil : datas [] = [] := by simp only [datas, keys, NestedKey.datas]
theorem datas_map : ∀ gs : List Ge, datas gs = gs.map data
  | [] => datas_nil
  | g :: gs => by rw [datas_cons, datas_map gs, List.map_cons]
theorem keys_map : ∀ gs : List Ge, keys gs = gs.map key
  | [] => by simp [keys]
  | g :: gs => by simp only [keys, keys_map gs, List.map_cons]
theorem data_tip (ks : List NestedKey) : (tip ks).data = .tuple (NestedKey.datas ks) := by simp only [data, key, NestedKey.data]
theorem data_node (l : Str) (gs : List Ge) : (node l gs).data = .tuple [.str l, .tuple (datas gs)] := by simp only [data, key, NestedKey.data, NestedKey.datas, datas]
theorem tupy_data (g : Ge) : tupy g.data = true := nk_tupy _
theorem tupy_datas (gs : List Ge) : tupyAll (datas gs) = true := nk_tupyAll _
mutual
def size : Ge → Nat
  | .tip _ => 1
  | .node _ gs => 1 + sizes gs
def sizes : List Ge → Nat
  | [] => 0
  | g :: gs => size g + sizes gs
end
theorem size_pos (g : Ge) : 1 ≤ g.size := by cases g <;> simp [size]
mutual
def levels : Ge → Nat
  | .tip _ => 1
  | .node _ gs => 1 + levelsAll gs
def levelsAll : List Ge → Nat
  | [] => 0
  | g :: gs => max (levels g) (levelsAll gs)
end
theorem levels_pos (g : Ge) : 1 ≤ g.levels := by cases g <;> simp [levels]
theorem levels_mem : ∀ {gs : List Ge} {g : Ge}, g ∈ gs → g.levels ≤ levelsAll gs
  | _ :: _, _, .head _ => by simp only [levelsAll]; exact Nat.le_max_left _ _
  | _ :: gs, g, .tail _ h => by
    have := levels_mem (gs := gs) h
    simp only [levelsAll]
    omega
theorem sizes_append : ∀ gs hs : List Ge, sizes (gs ++ hs) = sizes gs + sizes hs
  | [], hs => by simp [sizes]
  | g :: gs, hs => by simp only [List.cons_append, sizes, sizes_append gs hs]; omega
theorem levelsAll_append : ∀ gs hs : List Ge, levelsAll (gs ++ hs) = max (levelsAll gs) (levelsAll hs)
  | [], hs => by simp [levelsAll]
  | g :: gs, hs => by simp only [List.cons_append, levelsAll, levelsAll_append gs hs]; omega
end Ge

def isL (l : Str) : Prop := ∃ c : Nat, 97 ≤ c ∧ c ≤ 102 ∧ l = ⟨#[c]⟩
def letters6 : List Str := ["a", "b", "c", "d", "e", "f"]
theorem isL_mem {l : Str} (h : isL l) : l ∈ letters6 := by
  obtain ⟨c, h1, h2, rfl⟩ := h
  have hc : c = 97 ∨ c = 98 ∨ c = 99 ∨ c = 100 ∨ c = 101 ∨ c = 102 := by omega
  rcases hc with rfl | rfl | rfl | rfl | rfl | rfl <;> decide +kernel
theorem isL_of {l : Str} (h : l ∈ letters6) : isL l := by
  unfold letters6 at h
  simp only [List.mem_cons, List.not_mem_nil, or_false] at h
  rcases h with rfl | rfl | rfl | rfl | rfl | rfl
  · exact ⟨97, by decide, by decide, rfl⟩
  · exact ⟨98, by decide, by decide, rfl⟩
  · exact ⟨99, by decide, by decide, rfl⟩
  · exact ⟨100, by decide, by decide, rfl⟩
  · exact ⟨101, by decide, by decide, rfl⟩
  · exact ⟨102, by decide, by decide, rfl⟩
theorem isL_ok {l : Str} (h : isL l) : PyData.strOk l = true := by
  have := isL_mem h
  unfold letters6 at this
  simp only [List.mem_cons, List.not_mem_nil, or_false] at this
  rcases this with rfl | rfl | rfl | rfl | rfl | rfl <;> decide +kernel

mutual
/-- labels are letters, at most three below each, tips as T says -/
def Wf (T : List NestedKey → Prop) : Ge → Prop
  | .tip ks => T ks
  | .node l gs => isL l ∧ gs.length ≤ 3 ∧ WfAll T gs
def WfAll (T : List NestedKey → Prop) : List Ge → Prop
  | [] => True
  | g :: gs => Wf T g ∧ WfAll T gs
end
theorem WfAll.mem {T : List NestedKey → Prop} : ∀ {gs : List Ge} {g : Ge}, WfAll T gs → g ∈ gs → Wf T g
  | _ :: _, _, h, .head _ => by simp only [WfAll] at h; exact h.1
  | _ :: gs, g, h, .tail _ m => by simp only [WfAll] at h; exact WfAll.mem h.2 m
theorem WfAll.of {T : List NestedKey → Prop} : ∀ {gs : List Ge}, (∀ g ∈ gs, Wf T g) → WfAll T gs
  | [], _ => by simp only [WfAll]
  | g :: gs, h => by simp only [WfAll]; exact ⟨h g List.mem_cons_self, WfAll.of fun x hx => h x (List.mem_cons_of_mem _ hx)⟩
theorem WfAll.append {T : List NestedKey → Prop} {gs hs : List Ge} (h : WfAll T gs) (h' : WfAll T hs) : WfAll T (gs ++ hs) :=
  WfAll.of fun g hg => by rcases List.mem_append.mp hg with q | q; exact h.mem q; exact h'.mem q
mutual
theorem Wf.imp {T T' : List NestedKey → Prop} (i : ∀ ks, T ks → T' ks) : ∀ {g : Ge}, Wf T g → Wf T' g
  | .tip ks, h => by simp only [Wf] at h ⊢; exact i _ h
  | .node l gs, h => by simp only [Wf] at h ⊢; exact ⟨h.1, h.2.1, WfAll.imp i h.2.2⟩
theorem WfAll.imp {T T' : List NestedKey → Prop} (i : ∀ ks, T ks → T' ks) : ∀ {gs : List Ge}, WfAll T gs → WfAll T' gs
  | [], _ => by simp only [WfAll]
  | g :: gs, h => by simp only [WfAll] at h ⊢; exact ⟨Wf.imp i h.1, WfAll.imp i h.2⟩
end
/-- a tree has no tips -/
abbrev NoTip : List NestedKey → Prop := fun _ => False
abbrev kAny : List NestedKey := [.text "any"]
abbrev kLeaf : List NestedKey := [.text "leaf"]
abbrev PatTip : List NestedKey → Prop := fun ks => ks = kAny ∨ ks = kLeaf
abbrev gAny : Ge := .tip kAny
abbrev gLeaf : Ge := .tip kLeaf
def kDo (s : Nat) (p : List Nat) : List NestedKey := [.text "do", .num s, .tup (p.map fun n => .num (n : Nat))]

/-! ### which fit -/
def Ge.lab : Ge → Str
  | .tip _ => "any"
  | .node l _ => l
def Ge.gs : Ge → List Ge
  | .tip _ => []
  | .node _ gs => gs
mutual
def fits : Ge → Ge → Bool
  | .tip ks, t => decide (ks = kAny) || t.gs.isEmpty
  | .node l ps, t => decide (l = t.lab) && fitsAll ps t.gs
def fitsAll : List Ge → List Ge → Bool
  | [], [] => true
  | p :: ps, t :: ts => fits p t && fitsAll ps ts
  | [], _ :: _ => false
  | _ :: _, [] => false
end
theorem fitsAll_len : ∀ {ps ts : List Ge}, ps.length ≠ ts.length → fitsAll ps ts = false
  | [], [], h => absurd rfl h
  | p :: ps, t :: ts, h => by
    have : fitsAll ps ts = false := fitsAll_len (fun e => h (by simp [e]))
    simp only [fitsAll, this, Bool.and_false]
  | [], _ :: _, _ => by simp only [fitsAll]
  | _ :: _, [], _ => by simp only [fitsAll]

/-! ### all places of a tree, all parts of a pattern: each ahead of those below -/
mutual
def places : Ge → List (List Nat × Ge)
  | .tip ks => [([], .tip ks)]
  | .node l gs => ([], .node l gs) :: placesFrom 0 gs
def placesFrom : Nat → List Ge → List (List Nat × Ge)
  | _, [] => []
  | k, g :: gs => (places g).map (fun x => (k :: x.1, x.2)) ++ placesFrom (k + 1) gs
end
mutual
def within : Ge → List Ge
  | .tip ks => [.tip ks]
  | .node l gs => .node l gs :: withinAll gs
def withinAll : List Ge → List Ge
  | [] => []
  | g :: gs => within g ++ withinAll gs
end
theorem withinAll_append : ∀ gs hs : List Ge, withinAll (gs ++ hs) = withinAll gs ++ withinAll hs
  | [], hs => by simp [withinAll]
  | g :: gs, hs => by simp only [List.cons_append, withinAll, withinAll_append gs hs, List.append_assoc]
mutual
theorem places_len : ∀ g : Ge, (places g).length = g.size
  | .tip ks => by simp [places, Ge.size]
  | .node l gs => by simp only [places, Ge.size, List.length_cons, placesFrom_len 0 gs]; omega
theorem placesFrom_len : ∀ (k : Nat) (gs : List Ge), (placesFrom k gs).length = Ge.sizes gs
  | _, [] => by simp [placesFrom, Ge.sizes]
  | k, g :: gs => by simp only [placesFrom, Ge.sizes, List.length_append, List.length_map, places_len g, placesFrom_len (k + 1) gs]
end
mutual
theorem within_len : ∀ g : Ge, (within g).length = g.size
  | .tip ks => by simp [within, Ge.size]
  | .node l gs => by simp only [within, Ge.size, List.length_cons, withinAll_len gs]; omega
theorem withinAll_len : ∀ (gs : List Ge), (withinAll gs).length = Ge.sizes gs
  | [] => by simp [withinAll, Ge.sizes]
  | g :: gs => by simp only [withinAll, Ge.sizes, List.length_append, within_len g, withinAll_len gs]
end

/-! ### data in the heap -/
section
variable {K : PySem.W.Frag} {H : Hp} {v : V}
theorem dp_tuple {ds : List PyData} (h : Dp K H v (.tuple ds)) : ∃ a vs, v = .ref a ∧ SqT K H a vs ∧ DpAll K H vs ds := by
  cases h with
  | tup hs ha => exact ⟨_, _, rfl, hs, ha⟩
theorem dp_str {x : Str} (h : Dp K H v (.str x)) : v = .str x := by cases h; rfl
theorem dp_int {i : Int} (h : Dp K H v (.int i)) : v = .int i := by cases h; rfl
theorem dp_non (h : Dp K H v .none) : v = .non := by cases h; rfl
theorem dpAll_1 {vs : List V} {d : PyData} (h : DpAll K H vs [d]) : ∃ v, vs = [v] ∧ Dp K H v d := by
  cases h with
  | cons a t => cases t; exact ⟨_, rfl, a⟩
theorem dpAll_2 {vs : List V} {d e : PyData} (h : DpAll K H vs [d, e]) : ∃ v u, vs = [v, u] ∧ Dp K H v d ∧ Dp K H u e := by
  cases h with
  | cons a t =>
    obtain ⟨u, rfl, b⟩ := dpAll_1 t
    exact ⟨_, _, rfl, a, b⟩
theorem dpAll_3 {vs : List V} {d e g : PyData} (h : DpAll K H vs [d, e, g]) : ∃ v u x, vs = [v, u, x] ∧ Dp K H v d ∧ Dp K H u e ∧ Dp K H x g := by
  cases h with
  | cons a t =>
    obtain ⟨u, x, rfl, b, c⟩ := dpAll_2 t
    exact ⟨_, _, _, rfl, a, b, c⟩
theorem dpAll_4 {vs : List V} {d e g i : PyData} (h : DpAll K H vs [d, e, g, i]) : ∃ v u x y, vs = [v, u, x, y] ∧ Dp K H v d ∧ Dp K H u e ∧ Dp K H x g ∧ Dp K H y i := by
  cases h with
  | cons a t =>
    obtain ⟨u, x, y, rfl, b, c, e⟩ := dpAll_3 t
    exact ⟨_, _, _, _, rfl, a, b, c, e⟩
theorem dp_node {l : Str} {gs : List Ge} (h : Dp K H v (Ge.node l gs).data) : ∃ a b vs, v = .ref a ∧ SqT K H a [.str l, .ref b] ∧ SqT K H b vs ∧ DpAll K H vs (Ge.datas gs) := by
  rw [Ge.data_node] at h
  obtain ⟨a, us, rfl, hs, ha⟩ := dp_tuple h
  obtain ⟨x, y, rfl, hx, hy⟩ := dpAll_2 ha
  cases dp_str hx
  obtain ⟨b, vs, rfl, hb, hv⟩ := dp_tuple hy
  exact ⟨a, b, vs, rfl, hs, hb, hv⟩
theorem dp_node_of {l : Str} {gs : List Ge} {a b : Addr} {vs : List V} (h1 : SqT K H a [.str l, .ref b]) (h2 : SqT K H b vs) (h3 : DpAll K H vs (Ge.datas gs)) : Dp K H (.ref a) (Ge.node l gs).data := by
  rw [Ge.data_node]
  exact .tup h1 (.cons (.str l) (.cons (.tup h2 h3) .nil))
theorem dp_tip {ks : List NestedKey} (h : Dp K H v (Ge.tip ks).data) : ∃ a vs, v = .ref a ∧ SqT K H a vs ∧ DpAll K H vs (NestedKey.datas ks) := by
  rw [Ge.data_tip] at h
  exact dp_tuple h
theorem dp_word {x : Str} (h : Dp K H v (Ge.tip [.text x]).data) : ∃ a, v = .ref a ∧ SqT K H a [.str x] := by
  obtain ⟨a, vs, rfl, hs, hv⟩ := dp_tip h
  simp only [NestedKey.datas, NestedKey.data] at hv
  obtain ⟨u, rfl, hu⟩ := dpAll_1 hv
  cases dp_str hu
  exact ⟨a, rfl, hs⟩
theorem dp_word_of {x : Str} {a : Addr} (h : SqT K H a [.str x]) : Dp K H (.ref a) (Ge.tip [.text x]).data := by
  rw [Ge.data_tip]
  simp only [NestedKey.datas, NestedKey.data]
  exact .tup h (.cons (.str x) .nil)
theorem dp_ref {g : Ge} (h : Dp K H v g.data) : ∃ a vs, v = .ref a ∧ SqT K H a vs := by
  cases g with
  | tip ks => obtain ⟨a, vs, e, hs, _⟩ := dp_tip h; exact ⟨a, vs, e, hs⟩
  | node l gs => obtain ⟨a, b, vs, e, hs, _⟩ := dp_node h; exact ⟨a, _, e, hs⟩
theorem Fr.ge {S : List Addr} {H' : Hp} {g : Ge} (e : Fr S H H') (h : Dp K H v g.data) : Dp K H' v g.data := e.dp _ _ g.tupy_data h
theorem Fr.ges {S : List Addr} {H' : Hp} {gs : List Ge} {vs : List V} (e : Fr S H H') (h : DpAll K H vs (Ge.datas gs)) : DpAll K H' vs (Ge.datas gs) := e.dpAll _ _ (Ge.tupy_datas gs) h
theorem ges_get {gs : List Ge} {vs : List V} {i : Nat} {u : V} (h : DpAll K H vs (Ge.datas gs)) (e : vs[i]? = some u) : ∃ g, gs[i]? = some g ∧ Dp K H u g.data := by
  obtain ⟨d, h1, h2⟩ := DpAll.get h e
  rw [Ge.datas_map, List.getElem?_map] at h1
  obtain ⟨g, hg, rfl⟩ := Option.map_eq_some_iff.mp h1
  exact ⟨g, hg, h2⟩
theorem ges_get' {gs : List Ge} {vs : List V} {i : Nat} {g : Ge} (h : DpAll K H vs (Ge.datas gs)) (e : gs[i]? = some g) : ∃ u, vs[i]? = some u ∧ Dp K H u g.data :=
  DpAll.get' h (by rw [Ge.datas_map, List.getElem?_map, e]; rfl)
theorem ges_len {gs : List Ge} {vs : List V} (h : DpAll K H vs (Ge.datas gs)) : vs.length = gs.length := by
  rw [DpAll.length h, Ge.datas_map, List.length_map]
theorem ges_snoc {gs : List Ge} {vs : List V} {g : Ge} {u : V} (h : DpAll K H vs (Ge.datas gs)) (a : Dp K H u g.data) : DpAll K H (vs ++ [u]) (Ge.datas (gs ++ [g])) := by
  have := DpAll.snoc h a
  rw [Ge.datas_map] at this ⊢
  rw [List.map_append]
  exact this
end
/-! ### equal data -/
mutual
theorem nk_eqv : ∀ a b : NestedKey, PyData.eqv a.data b.data = NestedKey.beq a b
  | .none, .none => by simp only [NestedKey.data, PyData.eqv, NestedKey.beq]
  | .num a, .num b => by simp only [NestedKey.data, PyData.eqv, NestedKey.beq]; exact Bool.beq_eq_decide_eq a b
  | .text a, .text b => by simp only [NestedKey.data, PyData.eqv, NestedKey.beq]; by_cases e : a = b <;> simp [e]
  | .tup a, .tup b => by simp only [NestedKey.data, PyData.eqv, NestedKey.beq]; exact nk_eqvAll a b
  | .none, .num _ | .none, .text _ | .none, .tup _ => by simp only [NestedKey.data, PyData.eqv, NestedKey.beq]
  | .num _, .none | .num _, .text _ | .num _, .tup _ => by simp only [NestedKey.data, PyData.eqv, NestedKey.beq]
  | .text _, .none | .text _, .num _ | .text _, .tup _ => by simp only [NestedKey.data, PyData.eqv, NestedKey.beq]
  | .tup _, .none | .tup _, .num _ | .tup _, .text _ => by simp only [NestedKey.data, PyData.eqv, NestedKey.beq]
theorem nk_eqvAll : ∀ a b : List NestedKey, PyData.eqvAll (NestedKey.datas a) (NestedKey.datas b) = NestedKey.beqAll a b
  | [], [] => by simp only [NestedKey.datas, PyData.eqvAll, NestedKey.beqAll]
  | a :: as, b :: bs => by simp only [NestedKey.datas, PyData.eqvAll, NestedKey.beqAll, nk_eqv a b, nk_eqvAll as bs]
  | [], _ :: _ => by simp only [NestedKey.datas, PyData.eqvAll, NestedKey.beqAll]
  | _ :: _, [] => by simp only [NestedKey.datas, PyData.eqvAll, NestedKey.beqAll]
end
theorem nk_eqv' (a b : NestedKey) : PyData.eqv a.data b.data = decide (a = b) := by rw [nk_eqv, NestedKey.decide_eq]
end TT

namespace TT
open PySem PySem.Spec PyProof.Rows L2
/-! The layer's rules with the written part as a letter of its own, so that they stand in a comprehension's block too. -/
def rLenK (K : PySem.W.Frag) : List V → Hp → VK → Prop := fun xs H Q => ∃ p ys, xs = [.ref p] ∧ (SqL K H p ys ∨ SqT K H p ys) ∧ Q (.int ys.length) H
def rListK (K : PySem.W.Frag) : List V → Hp → VK → Prop := fun xs H Q => ∃ p ys, xs = [.ref p] ∧ (SqL K H p ys ∨ SqT K H p ys) ∧ ∀ l, H l = none → Q (.ref l) (upd H l (.lst ys))
def rTupK (K : PySem.W.Frag) : List V → Hp → VK → Prop := fun xs H Q => ∃ p ys, xs = [.ref p] ∧ ((SqL K H p ys ∧ ∀ l, H l = none → Q (.ref l) (upd H l (.tup ys))) ∨ (SqT K H p ys ∧ Q (.ref p) H))
def rJoinK (K : PySem.W.Frag) : V → List V → Hp → VK → Prop := fun x xs H Q => ∃ a p, ∃ ys : List Str, x = .str a ∧ xs = [.ref p] ∧ (SqL K H p (ys.map V.str) ∨ SqT K H p (ys.map V.str)) ∧ (ys.map (·.length)).sum + ys.length * a.length ≤ 16777216 ∧ Q (.str (Txt.join a ys)) H
def rListN (P : Program) (w : World) (K : PySem.W.Frag) : List V → Hp → VK → Prop := fun ys H Q => ∃ d xs, ys = [.ref d] ∧ Nd P w K H d xs ∧ ∀ l, H l = none → Q (.ref l) (upd H l (.lst (xs.map fun x => .ref x.2.1)))
def rLenN (P : Program) (w : World) (K : PySem.W.Frag) : List V → Hp → VK → Prop := fun ys H Q => ∃ d xs, ys = [.ref d] ∧ Nd P w K H d xs ∧ Q (.int ((xs.length : Nat) : Int)) H
def tTruK (K : PySem.W.Frag) (ta : TE) : TT := fun σ H Q => ta σ H fun x H' => ∃ k, TruV K x H' k ∧ Q k H'
def rListS : List V → Hp → VK → Prop := fun ys H Q => ∃ z : Str, ys = [.str z] ∧ z.length ≤ sizeLine ∧ ∀ l, H l = none → Q (.ref l) (upd H l (.lst (z.cps.toList.map fun c => .str ⟨#[c]⟩)))
section
variable {X : Cx} (K : PySem.W.Frag)
theorem ix_listK (hK : X.K = K := by rfl) : IxR X (rIxL K) := by subst hK; exact ix_list
theorem ix_tupK (hK : X.K = K := by rfl) : IxR X (rIxT K) := by subst hK; exact ix_tup
theorem call_lenK (hK : X.K = K := by rfl) : CallR X (.builtin "len") (rLenK K) := by subst hK; exact call_len_seq
theorem call_listK (hK : X.K = K := by rfl) : CallR X (.type "list") (rListK K) := by subst hK; exact call_list_of
theorem call_tupK (hK : X.K = K := by rfl) : CallR X (.type "tuple") (rTupK K) := by subst hK; exact call_tuple_of
theorem call_isiK' (hK : X.K = K := by rfl) : CallR X (.builtin "isinstance") (rIsi K) := by subst hK; exact call_isi
theorem op_inK (hK : X.K = K := by rfl) : OpR X (compareOp .In) (rIn K false) := by subst hK; exact op_in_seq
theorem op_notInK (hK : X.K = K := by rfl) : OpR X (compareOp .NotIn) (rIn K true) := by subst hK; exact op_notIn_seq
theorem op_catK (hK : X.K = K := by rfl) : OpR X (binaryOp .Add) (rCatA K) := by subst hK; exact op_catA
theorem op_repK (hK : X.K = K := by rfl) : OpR X (binaryOp .Mult) (rRepT K) := by subst hK; exact op_repT
theorem sl_tupK (hK : X.K = K := by rfl) : SlR X (rSlA K) := by subst hK; exact sl_tupA
theorem sl_listK (hK : X.K = K := by rfl) : SlR X (rSlL K) := by subst hK; exact sl_list
theorem cr_sumK (hc : X.calm = true) (hK : X.K = K := by rfl) : CallR X (.builtin "sum") (rSum K) := by subst hK; exact cr_sum hc
theorem cr_allK (hc : X.calm = true) (hK : X.K = K := by rfl) : CallR X (.builtin "all") (rAll K) := by subst hK; exact cr_all hc
theorem op_eqK (hu : X.A.units + 64 < cLine) (hK : X.K = K := by rfl) : OpR X (compareOp .Eq) (rEqD K) := by subst hK; exact op_eqD hu
theorem op_neK (hu : X.A.units + 64 < cLine) (hK : X.K = K := by rfl) : OpR X (compareOp .NotEq) (rNeD K) := by subst hK; exact op_neD hu
theorem op_inDK (hu : X.A.units + 65 < cLine) (hK : X.K = K := by rfl) : OpR X (compareOp .In) (rInD K) := by subst hK; exact op_inD hu
theorem op_notInDK (hu : X.A.units + 65 < cLine) (hK : X.K = K := by rfl) : OpR X (compareOp .NotIn) (rNotInD K) := by subst hK; exact op_notInD hu
theorem mt_joinK (hK : X.K = K := by rfl) : MtR X "str.join" (rJoinK K) := by subst hK; exact mt_join
end
theorem call_listNK {X : Cx} (P : Program) (w : World) (K : PySem.W.Frag) (hc : X.calm = true) (h1 : X.prog = P := by rfl) (h2 : X.w = w := by rfl) (hK : X.K = K := by rfl) : CallR X (.type "list") (rListN P w K) := by subst h1 h2 hK; exact call_listN hc
theorem call_lenNK {X : Cx} (P : Program) (w : World) (K : PySem.W.Frag) (h1 : X.prog = P := by rfl) (h2 : X.w = w := by rfl) (hK : X.K = K := by rfl) : CallR X (.builtin "len") (rLenN P w K) := by subst h1 h2 hK; exact call_lenN
section
variable {X : Cx} {a e o : Expr} {es : List Expr} {ta to td ty te : TE} {t : TA} {tg l : Expr} {tl : TE} {name : Str} {apos cpos pos : Pos} {T id : String} {r : V → List V → Hp → VK → Prop}
theorem pt_truthK (K : PySem.W.Frag) (ha : PE X a ta) (he : ∀ whole, isTrue a X.env whole = (do let v ← whole; standAt a.pos; holding [v] (truthy v)) := by intro _; rfl) (hK : X.K = K := by rfl) : PT X a (tTruK K ta) := by
  subst hK
  exact pt_truth ha he
theorem pi_listK (K : PySem.W.Frag) (hl : PE X l tl) (hK : X.K = K := by rfl) : PI X tg l (iList K tl) := by subst hK; exact pi_list hl
theorem pi_tupK (K : PySem.W.Frag) (hl : PE X l tl) (hK : X.K = K := by rfl) : PI X tg l (iTup K tl) := by subst hK; exact pi_tup hl
theorem pi_enumK {p pos tpos : Pos} {elts : List Expr} {kk : Nat} (K : PySem.W.Frag) (hg : Gl X "enumerate") (hm : X.mg "enumerate" = none) {ta' : TA} (ha : PA X [e] ta') (hs : starEach [e] X.env = [(false, eval e X.env)] := by rfl) (hK : X.K = K := by rfl) :
    PI X (.Tuple elts kk tpos) (.Call (.Name "enumerate" p) [e] [] pos) (iEnum K ta') := by subst hK; exact pi_enum hg hm ha hs
theorem pi_zipK {e2 : Expr} {p pos tpos : Pos} {elts : List Expr} {kk : Nat} (K : PySem.W.Frag) (hg : Gl X "zip") (hm : X.mg "zip" = none) {ta' : TA} (ha : PA X [e, e2] ta')
    (hs : starEach [e, e2] X.env = (false, eval e X.env) :: starEach [e2] X.env := by rfl) (hpl : (backTo pos (starEach [e2] X.env)).any (·.1) = false := by rfl) (hK : X.K = K := by rfl) :
    PI X (.Tuple elts kk tpos) (.Call (.Name "zip" p) [e, e2] [] pos) (RZ.iZipA K ta') := by subst hK; exact RZ.pi_zipA hg hm ha hs hpl
theorem pe_bmK (K : PySem.W.Frag) (pa : PlainAttrs T) (slot : Slot T name id) (hty : typeOf (.builtin id) = pure (.type "method_descriptor")) (hm : MtR X id r) (ho : PE X o to) (ha : PA X (e :: es) t) (hK : X.K = K := by rfl)
    (hbase : attributeBase o name X.env (eval o X.env) = eval o X.env := by rfl)
    (hfew : ((backTo cpos (starEach (e :: es) X.env)).all (fun x => !x.1) && (backToKw cpos (keywordEach [] X.env)).all (fun x => x.1.isSome)
      && decide ((e :: es).length + ([] : List Keyword).length + (if ([] : List Keyword).isEmpty then 0 else 1) < 30)) = true := by rfl)
    (hline : (apos.endLine == cpos.line) = true := by rfl) (hs : starEach (e :: es) X.env = (false, eval e X.env) :: starEach es X.env := by rfl) (hplain : (backTo cpos (starEach es X.env)).any (·.1) = false := by rfl) :
    PE X (.Call (.Attribute o name apos) (e :: es) [] cpos) (tBM K T r to t) := by subst hK; exact pe_bm pa slot hty hm ho ha hbase hfew hline hs hplain
theorem pe_bm0K (K : PySem.W.Frag) (pa : PlainAttrs T) (slot : Slot T name id) (hty : typeOf (.builtin id) = pure (.type "method_descriptor")) (hm : MtR X id r) (ho : PE X o to) (hK : X.K = K := by rfl)
    (hbase : attributeBase o name X.env (eval o X.env) = eval o X.env := by rfl) (hline : (apos.endLine == cpos.line) = true := by rfl) : PE X (.Call (.Attribute o name apos) [] [] cpos) (tBM0 K T r to) := by subst hK; exact pe_bm0 pa slot hty hm ho hbase hline
theorem pe_joinK (K : PySem.W.Frag) (ho : PE X o to) (he : PE X e te) (hK : X.K = K := by rfl) (hs : starEach [e] X.env = [(false, eval e X.env)] := by rfl) (hbase : attributeBase o "join" X.env (eval o X.env) = eval o X.env := by rfl) (hline : (apos.endLine == pos.line) = true := by rfl) :
    PE X (.Call (.Attribute o "join" apos) [e] [] pos) (tM1 (rJoinK K) to te) := by subst hK; exact pe_join ho he hs hbase hline
theorem pg_tupK {k : Nat} {t : TGs} {n : Nat} (K : PySem.W.Frag) (hc : X.calm = true) (h : PGs X es t) (hK : X.K = K := by rfl)
    (hn : (assignEach es X.env).length = n := by rfl) (hst : (assignEach es X.env).findIdx? (·.1) = none := by rfl) : PG X (.Tuple es k pos) (gTup K n t) := by subst hK; exact pg_tup hc h hn hst
end
/-- list of a text: its signs -/
theorem call_listS {X : Cx} (hc : X.calm = true) : CallR X (.type "list") rListS := by
  intro pins s σ H ys us Q I r h
  obtain ⟨z, rfl, hz, q⟩ := h
  obtain ⟨u, rfl, rx⟩ := vals1 r
  obtain ⟨t, rfl⟩ := rx
  refine PySem.call_list_str (I.ok.hd hc) z t (fun h' tk acc' c' kp hS hacc => ?_) hz
  refine ⟨.ref s.heap.objs.size, _, I.laid (a := s.heap.objs.size) (o := .lst (z.cps.toList.map fun c => .str ⟨#[c]⟩)) (t' := tk) kp (Nat.le_refl _) ⟨by rw [List.length_map]; exact hz, acc'.toList, c', ?_, by simpa using hS⟩, rfl, q _ (I.hok.fresh (Nat.le_refl _))⟩
  have all : ∀ (n : Nat) (as : List V) (bs : List Value), as.length = n → bs.length = n → (∀ (j : Nat) (a : V) (b : Value), as[j]? = some a → bs[j]? = some b → RelV a b) → Vals as bs := by
    intro n
    induction n with
    | zero => intro as bs e1 e2 _; cases as <;> cases bs <;> simp_all; exact .nil
    | succ n ih =>
      intro as bs e1 e2 hj
      cases as with
      | nil => simp at e1
      | cons a as =>
        cases bs with
        | nil => simp at e2
        | cons b bs => exact .cons (hj 0 a b rfl rfl) (ih as bs (by simpa using e1) (by simpa using e2) fun j a' b' h1 h2 => hj (j + 1) a' b' (by simpa using h1) (by simpa using h2))
  refine all z.cps.size _ _ (by simp) (by rw [Array.length_toList, hacc.1]) fun j a b ha hb => ?_
  obtain ⟨c, t', hc', eb⟩ := hacc.2 j b (by rw [← Array.getElem?_toList]; exact hb)
  rw [List.getElem?_map, Array.getElem?_toList, hc'] at ha
  cases ha
  exact ⟨t', eb⟩

/-- t + u, as some tuple -/
def rCatP (K : PySem.W.Frag) : R2 := fun x y H Q => ∃ a b xs ys, x = .ref a ∧ y = .ref b ∧ SqT K H a xs ∧ SqT K H b ys ∧ xs.length + ys.length ≤ sizeLine ∧ ∀ (p : Addr) (H' : Hp), TT.Fr [] H H' → SqT K H' p (xs ++ ys) → Q (.ref p) H'
theorem op_catP {X : Cx} (K : PySem.W.Frag) (hK : X.K = K := by rfl) : OpR X (binaryOp .Add) (rCatP K) := by
  subst hK
  intro pins s σ H x y v u Q I rx ry h
  obtain ⟨a, b, xs, ys, rfl, rfl, ha, hb, hz, q⟩ := h
  refine op_catA pins s σ H _ _ v u Q I rx ry ⟨a, b, xs, ys, rfl, rfl, ha, hb, hz, fun e => ?_, fun _ e => ?_, fun _ _ p hp => q p _ (TT.Fr.new hp) (SqT.of upd_same)⟩
  · subst e
    exact q b H (TT.Fr.refl _ _) (by simpa using hb)
  · subst e
    exact q a H (TT.Fr.refl _ _) (by simpa using ha)
/-- t[lo:hi], as some tuple -/
def rSlP (K : PySem.W.Frag) : V → Option Int → Option Int → Hp → VK → Prop := fun x lo hi H Q => ∃ a xs, x = .ref a ∧ SqT K H a xs ∧ ∀ (p : Addr) (H' : Hp), TT.Fr [] H H' → SqT K H' p (cutV xs lo hi) → Q (.ref p) H'
end TT


namespace TT
open PySem L2

theorem BoxAt.fr0 {H H' : Hp} {b q : Addr} (h : BoxAt H b q) (f : Fr [] H H') : BoxAt H' b q := by
  obtain ⟨z, ns, h1, h2, h3⟩ := h
  exact ⟨z, ns, f.keep _ _ (by simp) h1, f.keep _ _ (by simp) h2, h3⟩
theorem BoxAt.fr {S : List Addr} {H H' : Hp} {b q : Addr} (h : BoxAt H b q) (f : Fr S H H') (hb : b ∉ S) (hq : q ∉ S) : BoxAt H' b q := by
  obtain ⟨z, ns, h1, h2, h3⟩ := h
  exact ⟨z, ns, f.keep _ _ hb h1, f.keep _ _ hq h2, h3⟩
theorem BoxAt.upd {H : Hp} {b q a : Addr} {o : HO} (h : BoxAt H b q) (ha : a ∉ [b, q]) : BoxAt (L2.upd H a o) b q := by
  obtain ⟨z, ns, h1, h2, h3⟩ := h
  simp only [List.mem_cons, List.not_mem_nil, or_false, not_or] at ha
  exact ⟨z, ns, by rw [upd_ne (Ne.symm ha.1)]; exact h1, by rw [upd_ne (Ne.symm ha.2)]; exact h2, h3⟩
theorem BoxAt.nb {H : Hp} {b q a : Addr} (h : BoxAt H b q) (ha : H a = none) : a ∉ [b, q] := by
  obtain ⟨z, ns, h1, h2, h3⟩ := h
  simp [(ne_of_none h1 ha).symm, (ne_of_none h2 ha).symm]
def spBegun (K : PySem.W.Frag) : Sp := fun vs H Q _ => ∃ (a : Addr) (ns : List Int), vs = [.ref a] ∧ SqL K H a (ns.map V.int) ∧ ns.length ≤ 63 ∧
  ∀ (b q : Addr) (H' : Hp), Fr [] H H' → H b = none → H q = none → BoxAt H' b q → Q (.ref b) H'
section
variable {P : Program} {w : World} {K : PySem.W.Frag} {mg : Str → Option Value} {base : Heap} {f : Addr} {fd : FuncData}
theorem ok_begun (F : Fun K "_law_begun" "_law_begun" s__law_begun f fd) (T : Txt K mg) : FnOk P w K mg base CX0 1 f fd P__law_begun (spBegun K) := by
  refine F.ok sc__law_begun (fun vs H Q E h => ?_) (fun cdv A outer s H vs Q E hr h => ?_)
  · obtain ⟨a, ns, rfl, _⟩ := h
    rfl
  obtain ⟨a, ns, rfl, hS, hl, k⟩ := h
  have nd := (sc__law_begun).nd
  refine ⟨_, pss_cons (ps_set (i := 1) nd rfl (Or.inl rfl) pe_int)
  (pss_cons (ps_for PassesOwn.never rfl (pi_listK K (pv 0)) (pg_name (i := 2) nd rfl (Or.inl rfl))
    (pss_one (ps_set (i := 1) nd rfl (Or.inl rfl) (pe_op op_mod (pe_op op_add (pe_op op_add (pe_op op_mul (pv 1) pe_int) (pe_op op_mul (pv 2) pe_int)) pe_int) pe_int))))
  (pss_one (ps_ret (pe_lst (pa_cons (pe_callTy (call_listK K) (by rfl) T.list_ (by decide +kernel) (pa_cons (pv 0) pa_nil)) (pa_cons (pe_op op_mul (pv 1) (pe_callTy call_int1 (by rfl) T.int_ (by decide +kernel) (pa_cons (pe_cmpR op_gt (pe_callB (call_lenK K) (by rfl) T.len_ PySem.boot_len (pa_cons (pv 0) pa_nil)) pe_int (nomark _)) pa_nil))) pa_nil)))))), ?_⟩
  refine ⟨_, rfl, a, rfl, ⟨_, hS⟩, for_list (K := K) (a := a) (xs := ns.map V.int) (fun i σ H' => ∃ (z : Int) (v : Option V), σ = [some (.ref a), some (.int z), v] ∧ H' = H ∧ -(2 ^ 64) < z ∧ z < 2 ^ 64)
    ⟨0, none, rfl, rfl, by decide, by decide⟩ (fun i σ H' _ ⟨z, v, _, e, _⟩ => by rw [e]; exact hS) ?_ ?_⟩
  · rintro i y σ H' hi ⟨z, v, rfl, rfl, h1, h2⟩
    obtain ⟨u, rfl⟩ : ∃ u, y = V.int u := by
      rw [List.getElem?_map] at hi
      obtain ⟨u, _, e⟩ := Option.map_eq_some_iff.mp hi
      exact ⟨u, e.symm⟩
    refine ⟨_, rfl, _, _, rfl, rfl, .inr ⟨by decide, by decide⟩, _, rfl, _, _, rfl, rfl, .inr ⟨by decide, by decide⟩, _, _, rfl, rfl, _, _, rfl, rfl, _, _, rfl, rfl, (by show (0 : Int) < 2147483647; decide), ?_⟩
    refine ⟨_, _, rfl, rfl, ?_, ?_⟩
    · have := Int.emod_nonneg (z * 48271 + u * 69621 + 11) (show (2147483647 : Int) ≠ 0 by decide)
      omega
    · have := Int.emod_lt_of_pos (z * 48271 + u * 69621 + 11) (show (0 : Int) < 2147483647 by decide)
      omega
  · rintro σ H' ⟨z, v, rfl, rfl, h1, h2⟩
    refine ⟨_, rfl, a, _, rfl, .inl hS, fun q hq => ?_⟩
    have f1 : Fr [] H' (upd H' q (.lst (ns.map V.int))) := Fr.new hq
    refine ⟨_, rfl, _, rfl, a, _, rfl, .inl (f1.sqL0 hS), _, _, rfl, rfl, .inr ⟨_, rfl, ?_⟩⟩
    refine ⟨_, _, rfl, rfl, .inl ⟨h1, h2⟩, (by show 2 ≤ sizeLine; decide), fun b hb => ?_⟩
    have nqb : q ≠ b := ne_of_none upd_same hb
    refine k b q _ (f1.trans (Fr.new hb)) (f1.free hb) hq ⟨_, ns, upd_same, by rw [upd_ne nqb, upd_same], hl⟩
end

/-! ### the letters of a case: a text of some of a to f -/
def LettersOk (z : Str) : Prop := 1 ≤ z.length ∧ z.length ≤ 6 ∧ ∀ c ∈ z.cps.toList, 97 ≤ c ∧ c ≤ 102
def spLetters (K : PySem.W.Frag) : Sp := fun vs H Q _ => ∃ (b q : Addr), vs = [.ref b] ∧ BoxAt H b q ∧ ∀ (z : Str) (H' : Hp), LettersOk z → Fr [b, q] H H' → BoxAt H' b q → Q (.str z) H'
def signV (c : Nat) : V := .str ⟨#[c]⟩
def lets6 : List Nat := [97, 98, 99, 100, 101, 102]
theorem four_at (i j k l r : Int) (h0 : 0 ≤ r) (h4 : r < 4) : ∃ n, atI [V.int i, .int j, .int k, .int l] r = some (.int n) ∧ (n = i ∨ n = j ∨ n = k ∨ n = l) := by
  have hr : r = 0 ∨ r = 1 ∨ r = 2 ∨ r = 3 := by omega
  rcases hr with rfl | rfl | rfl | rfl
  · exact ⟨i, rfl, .inl rfl⟩
  · exact ⟨j, rfl, .inr (.inl rfl)⟩
  · exact ⟨k, rfl, .inr (.inr (.inl rfl))⟩
  · exact ⟨l, rfl, .inr (.inr (.inr rfl))⟩
theorem map_erase {α β : Type} (f : α → β) : ∀ (l : List α) (i : Nat), (l.eraseIdx i).map f = (l.map f).eraseIdx i
  | [], _ => rfl
  | _ :: _, 0 => rfl
  | a :: l, i + 1 => by simp only [List.eraseIdx_cons_succ, List.map_cons, map_erase f l i]
theorem joinL_nil : ∀ ps : List (List Nat), TL.joinL [] ps = ps.flatten
  | [] => rfl
  | [p] => by simp [TL.joinL]
  | p :: q :: r => by
    show p ++ ([] ++ TL.joinL [] (q :: r)) = _
    rw [joinL_nil (q :: r)]
    simp
theorem join1 (cs : List Nat) : TL.tl (Txt.join (Str.ofString "") (cs.map fun c => (⟨#[c]⟩ : Str))) = cs := by
  rw [TL.join_eq, TL.tl_join]
  have e : TL.tl (Str.ofString "") = [] := by decide +kernel
  rw [e, joinL_nil, List.map_map]
  induction cs with
  | nil => rfl
  | cons c cs ih =>
    rw [List.map_cons, List.flatten_cons, ih]
    rfl
theorem ok_letters (F : Fun K "_law_letters" "_law_letters" s__law_letters f fd) (T : Txt K mg) (c_law_take : Callee P w K mg base 1 "_law_take" P__law_take (spTake K)) : FnOk P w K mg base CX0 2 f fd P__law_letters (spLetters K) := by
  refine F.ok sc__law_letters (fun vs H Q E h => ?_) (fun cdv A outer s H vs Q E hr h => ?_)
  · obtain ⟨b, q, rfl, _⟩ := h
    rfl
  obtain ⟨b, q, rfl, hB, k⟩ := h
  have nd := (sc__law_letters).nd
  refine ⟨_, pss_cons (ps_set (i := 1) nd rfl (Or.inr rfl) (pe_callTy (call_listS rfl) (by rfl) T.list_ (by decide +kernel) (pa_cons pe_str pa_nil)))
  (pss_one (ps_ret (pe_joinK K pe_str (pe_lc (own := [("_law_k", 2)]) (g := gName 2) (tt := tYes) (by rfl) nd (pi_range1 (by rfl) T.range_ (pa_cons (pe_ix (ix_listK K) (pe_lst (pa_cons pe_int (pa_cons pe_int (pa_cons pe_int (pa_cons pe_int pa_nil))))) (pe_own c_law_take hr (pa_cons (pv 0) (pa_cons pe_int pa_nil))) (fun _ _ => rfl)) pa_nil)) (blkOk_by (N := N__law_letters) (sc := defScope s__law_letters) (own := [("_law_k", 2)]) (by decide +kernel)) (fun _ _ _ _ _ => (pg_name (i := 2) nd rfl (Or.inl rfl))) (fun _ _ _ _ _ => pts_nil) (fun _ _ _ _ _ => (pe_bmK K PySem.F.plainAttrs_list PySem.F.slot_list_pop PySem.F.type_list_pop mt_popAt (pv 1) (pa_cons (pe_own c_law_take hr (pa_cons (pv 0) (pa_cons (pe_callB (call_lenK K) (by rfl) T.len_ PySem.boot_len (pa_cons (pv 1) pa_nil)) pa_nil))) pa_nil))))))), ?_⟩
  refine ⟨_, rfl, (by decide +kernel), fun l hl => ?_⟩
  have nbl : b ≠ l := by obtain ⟨z, ns, h1, h2, _⟩ := hB; exact ne_of_none h1 hl
  have nql : q ≠ l := by obtain ⟨z, ns, h1, h2, _⟩ := hB; exact ne_of_none h2 hl
  have f0 : Fr [] H (upd H l (.lst (lets6.map signV))) := Fr.new hl
  have hB0 : BoxAt (upd H l (.lst (lets6.map signV))) b q := hB.fr0 f0
  -- the list [1, 2, 3, 6], its place by a draw
  refine ⟨⟨_, rfl⟩, (by show 4 ≤ sizeLine; decide), fun p hp => ?_⟩
  have f1 := (Fr.new (S := [b, q]) (o := .lst [.int 1, .int 2, .int 3, .int 6]) hp)
  have nlp : l ≠ p := ne_of_none upd_same hp
  refine ⟨_, rfl, b, q, 4, rfl, hB0.fr0 (Fr.new hp), by decide, by decide, fun r H1 h0 h4 f2 hB1 => ?_⟩
  have nbp : p ∉ [b, q] := by
    obtain ⟨z, ns, h1, h2, _⟩ := hB0
    have n1 := ne_of_none h1 hp
    have n2 := ne_of_none h2 hp
    simp [n1.symm, n2.symm]
  have nl : l ∉ [b, q] := by simp [nbl.symm, nql.symm]
  obtain ⟨n, hn, hv⟩ := four_at 1 2 3 6 r h0 h4
  refine ⟨p, _, _, _, rfl, rfl, SqL.of (f2.keep _ _ nbp upd_same), hn, n, rfl, by omega, by omega, fun D hD => ?_⟩
  have fH1 : Fr [b, q] H H1 := (f0.mono0.trans f1).trans f2
  have hl1 : H1 l = some (.lst (lets6.map signV)) := f2.keep _ _ nl (by rw [upd_ne nlp]; exact upd_same)
  have nlD : l ≠ D := ne_of_none hl1 hD
  refine lc_range (lo := 0) (n := n.toNat) (fun i H' => ∃ (left cs : List Nat), Fr [b, q] H H' ∧ BoxAt H' b q ∧ H' l = some (.lst (left.map signV)) ∧ H' D = some (.lst (cs.map signV)) ∧ left.length = 6 - i ∧ cs.length = i ∧ (∀ c ∈ left, 97 ≤ c ∧ c ≤ 102) ∧ ∀ c ∈ cs, 97 ≤ c ∧ c ≤ 102)
    ⟨lets6, [], fH1.trans (Fr.new hD), hB1.fr0 (Fr.new hD), by rw [upd_ne nlD]; exact hl1, upd_same, rfl, rfl, by decide, by simp⟩ ?_ ?_
  · rintro i H' hi ⟨left, cs, ff, hBi, hli, hDi, e1, e2, ok1, ok2⟩
    have hne : 0 < left.length := by omega
    refine ⟨rfl, _, rfl, .inl ⟨rfl, _, SqL.of hli⟩, _, rfl, _, rfl, l, _, rfl, .inl (SqL.of hli), b, q, _, rfl, hBi, ?_, ?_, fun r' H2 g0 g1 f3 hB2 => ?_⟩
    · rw [List.length_map]; omega
    · rw [List.length_map]; omega
    rw [List.length_map] at g1
    have hl2 := f3.keep _ _ nl hli
    have hr' : r'.toNat < left.length := by omega
    have er : r' = ((r'.toNat : Nat) : Int) := by omega
    have nD : D ∉ [b, q] := by
      have hx := hB1
      obtain ⟨z, ns, h1, h2, _⟩ := hx
      simp [(ne_of_none h1 hD).symm, (ne_of_none h2 hD).symm]
    have hD2 := f3.keep _ _ nD hDi
    refine ⟨l, _, r', r'.toNat, signV left[r'.toNat], rfl, rfl, hl2, by omega, by omega, ?_, ?_, _, (by rw [upd_ne nlD.symm]; exact hD2), ?_, ?_⟩
    · rw [List.length_map]
      have := (ixN_seq (ixN_nat hr')).1
      rw [← er] at this
      exact this
    · rw [List.getElem?_map, List.getElem?_eq_getElem hr']; rfl
    · rw [List.length_map]; exact small1000 (by omega)
    · refine ⟨left.eraseIdx r'.toNat, cs ++ [left[r'.toNat]], ?_, ?_, ?_, ?_, ?_, ?_, ?_, ?_⟩
      · exact ((ff.trans f3).mut hl).mut (fH1.freeS nD hD)
      · exact (hB2.upd nl).upd nD
      · rw [upd_ne nlD, upd_same, map_erase]
      · rw [upd_same, List.map_append]; rfl
      · rw [List.length_eraseIdx]; simp [hr']; omega
      · simp [e2]
      · intro c hc
        exact ok1 c (List.mem_of_mem_eraseIdx hc)
      · intro c hc
        rcases List.mem_append.mp hc with hc | hc
        · exact ok2 c hc
        · simp at hc; subst hc; exact ok1 _ (List.getElem_mem _)
  · rintro H' ⟨left, cs, ff, hBi, hli, hDi, e1, e2, ok1, ok2⟩
    refine ⟨_, D, cs.map (fun c => ⟨#[c]⟩), rfl, rfl, .inl ?_, ?_, ?_⟩
    · rw [List.map_map]; exact SqL.of hDi
    · have e3 : ∀ l : List Nat, ((l.map (fun c => (⟨#[c]⟩ : Str))).map (·.length)).sum = l.length := by
        intro l
        induction l with
        | nil => rfl
        | cons c l ih => simp only [List.map_cons, List.sum_cons, List.length_cons, ih]; show 1 + l.length = _; omega
      rw [e3, List.length_map]
      show cs.length + cs.length * 0 ≤ 16777216
      omega
    · have el := join1 cs
      refine k _ _ ⟨?_, ?_, ?_⟩ ff hBi
      · rw [TL.len_tl, el]; omega
      · rw [TL.len_tl, el]; omega
      · intro c hc
        exact ok2 c (by rw [← el]; exact hc)
end TT


namespace TT
open PySem L2

theorem atI_of {α : Type} {xs : List α} {r : Int} (h0 : 0 ≤ r) (h : r < xs.length) : ∃ v, atI xs r = some v ∧ v ∈ xs := by
  obtain ⟨j, rfl⟩ : ∃ j : Nat, r = (j : Int) := ⟨r.toNat, by omega⟩
  have hj : j < xs.length := by omega
  exact ⟨xs[j], atI_nat (List.getElem?_eq_getElem hj), List.getElem_mem _⟩
theorem sub23 {b q e : Addr} : ∀ x ∈ [b, q], x ∈ [b, q, e] := fun x hx => by
  rcases List.mem_cons.mp hx with h | h
  · exact h ▸ List.mem_cons_self
  · exact List.mem_cons_of_mem _ ((List.mem_singleton.mp h) ▸ List.mem_cons_self)
theorem LettersOk.at {z : Str} (h : LettersOk z) {r : Int} (h0 : 0 ≤ r) (h1 : r < z.length) : ∃ c, atI z.cps.toList r = some c ∧ isL ⟨#[c]⟩ := by
  obtain ⟨c, e, hc⟩ := atI_of (xs := z.cps.toList) h0 (by rw [TL.len_tl] at h1; exact h1)
  obtain ⟨a, b⟩ := h.2.2 c hc
  exact ⟨c, e, c, a, b, rfl⟩
theorem LettersOk.len {z : Str} (h : LettersOk z) : z.length ≤ sizeLine := Nat.le_of_lt (small1000 (by have := h.2.1; omega))

def spGrown (K : PySem.W.Frag) (n : Nat) : Sp := fun vs H Q _ => ∃ (b q e : Addr) (z : Str) (d m : Int), vs = [.ref b, .str z, .ref e, .int d] ∧ BoxAt H b q ∧ e ∉ [b, q] ∧ H e = some (.lst [.int m]) ∧ LettersOk z ∧ 1 ≤ d ∧ d ≤ n ∧ 1 ≤ m ∧
  ∀ (g : Ge) (v : V) (H' : Hp), Wf NoTip g → (g.levels : Int) ≤ d → (g.size : Int) ≤ m → Fr [b, q, e] H H' → BoxAt H' b q → H' e = some (.lst [.int (m - g.size)]) → Dp K H' v g.data → Q v H'
theorem ok_grown (F : Fun K "_law_grown" "_law_grown" s__law_grown f fd) (T : Txt K mg) (c_law_take : Callee P w K mg base 1 "_law_take" P__law_take (spTake K)) (mf : mg "_law_grown" = some (.ref f)) (bf : Binds K fd P__law_grown []) :
    ∀ n : Nat, FnOk P w K mg base CX0 (n + 1) f fd P__law_grown (spGrown K n)
  | 0 => by
    have no : ∀ vs H Q E, ¬ spGrown K 0 vs H Q E := fun vs H Q E h => by
      obtain ⟨b, q, e, z, d, m, _, _, _, _, _, h1, h2, _⟩ := h
      omega
    exact ⟨fun vs H Q E h => absurd h (no vs H Q E), fun A outer s H args us vs Q E _ _ _ _ h => absurd h (no vs H Q E)⟩
  | n + 1 => by
    have c_law_grown : Callee P w K mg base (n + 1) "_law_grown" P__law_grown (spGrown K n) := ⟨f, fd, ok_grown F T c_law_take mf bf n, mf, F.kp, bf⟩
    refine F.ok sc__law_grown (fun vs H Q E h => ?_) (fun cdv A outer s H vs Q E hr h => ?_)
    · obtain ⟨b, q, e, z, d, m, rfl, _⟩ := h
      rfl
    obtain ⟨b, q, e, z, d, m, rfl, hB, hne, he, hz, d1, dn, m1, k⟩ := h
    have nd := (sc__law_grown).nd
    refine ⟨_, pss_cons (ps_asg (pe_op op_sub (pe_ix (ix_listK K) (pv 2) pe_int (fun _ _ => rfl)) pe_int) (pg_sub (pv 2) pe_int set_list))
  (pss_cons (ps_set (i := 4) nd rfl (Or.inl rfl) (pe_lst pa_nil))
  (pss_cons (ps_for PassesOwn.never rfl (pi_range1 (by rfl) T.range_ (pa_cons (pe_own c_law_take hr (pa_cons (pv 0) (pa_cons pe_int pa_nil))) pa_nil)) (pg_name (i := 5) nd rfl (Or.inl rfl))
    (pss_one (ps_if (PW.pt (pw_and (pt_cmpR op_gt (pv 3) pe_int (nomark _)) (pw_and1 (pt_cmpR op_gt (pe_ix (ix_listK K) (pv 2) pe_int (fun _ _ => rfl)) pe_int (nomark _)))))
      (pss_one (ps_expr (pe_bmK K PySem.F.plainAttrs_list PySem.F.slot_list_append PySem.F.type_list_append mt_append (pv 4) (pa_cons (pe_own c_law_grown hr (pa_cons (pv 0) (pa_cons (pv 1) (pa_cons (pv 2) (pa_cons (pe_op op_sub (pv 3) pe_int) pa_nil))))) pa_nil))))
      (pss_nil))))
  (pss_one (ps_ret (pe_tup (pa_cons (pe_ix ix_str (pv 1) (pe_own c_law_take hr (pa_cons (pv 0) (pa_cons (pe_callB call_len_str (by rfl) T.len_ PySem.boot_len (pa_cons (pv 1) pa_nil)) pa_nil))) (fun _ _ => rfl)) (pa_cons (pe_callTy (call_tupK K) (by rfl) T.tuple_ (by decide +kernel) (pa_cons (pv 4) pa_nil)) pa_nil))))))), ?_⟩
    have hbe : b ∉ [e] ∧ q ∉ [e] := by
      simp only [List.mem_cons, List.not_mem_nil, or_false, not_or] at hne ⊢
      exact ⟨Ne.symm hne.1, Ne.symm hne.2⟩
    -- left[0] = left[0] - 1; kids = []
    refine ⟨_, rfl, e, _, _, .int m, rfl, rfl, SqL.of he, rfl, _, _, rfl, rfl, _, rfl, e, _, _, 0, rfl, rfl, he, rfl, ?_⟩
    have f1 : Fr [b, q, e] H (upd H e (.lst [.int (m - 1)])) := Fr.lst he (by simp)
    have hB1 : BoxAt (upd H e (.lst [.int (m - 1)])) b q := hB.upd hne
    refine ⟨Nat.zero_le _, fun kd hkd => ?_⟩
    have nek : e ≠ kd := ne_of_none upd_same hkd
    have hkd0 : H kd = none := by rw [upd_ne nek.symm] at hkd; exact hkd
    have nkb : kd ∉ [b, q] := hB.nb hkd0
    refine ⟨_, rfl, b, q, 4, rfl, hB1.upd nkb, by decide, by decide, fun r H2 h0 h4 f2 hB2 => ⟨r, rfl, by omega, by omega, ?_⟩⟩
    refine for_range (lo := 0) (n := r.toNat) (fun i σ H' => ∃ (gs : List Ge) (us : List V) (u : Option V), σ = [some (.ref b), some (.str z), some (.ref e), some (.int d), some (.ref kd), u] ∧ Fr [b, q, e] H H' ∧ BoxAt H' b q ∧
        H' e = some (.lst [.int (m - 1 - Ge.sizes gs)]) ∧ (Ge.sizes gs : Int) ≤ m - 1 ∧ H' kd = some (.lst us) ∧ DpAll K H' us (Ge.datas gs) ∧ gs.length ≤ i ∧ WfAll NoTip gs ∧ (Ge.levelsAll gs : Int) ≤ d - 1) ?_ ?_ ?_
    · refine ⟨[], [], none, rfl, ((f1.mut hkd0)).trans (f2.mono sub23), hB2, ?_, by simp [Ge.sizes] <;> omega, f2.keep _ _ nkb upd_same, by rw [Ge.datas_nil]; exact .nil, by simp, by simp [WfAll], by simp [Ge.levelsAll] <;> omega⟩
      have := f2.keep e _ hne (show upd (upd H e (.lst [.int (m - 1)])) kd (.lst []) e = some (.lst [.int (m - 1)]) by rw [upd_ne nek, upd_same])
      simpa [Ge.sizes] using this
    · rintro i σ H' hi ⟨gs, us, u, rfl, ff, hBi, hei, hsz, hki, hdp, hlen, hwf, hlv⟩
      refine ⟨_, rfl, _, _, rfl, rfl, _, rfl, ?_⟩
      refine ite2 (fun c1 => ?_) (fun _ => ?_)
      · have d2 : 1 < d := of_decide_eq_true c1
        refine ⟨_, rfl, e, _, _, _, rfl, rfl, SqL.of hei, rfl, _, _, rfl, rfl, _, rfl, ?_⟩
        refine ite2 (fun c2 => ?_) (fun _ => ?_)
        · have m2 : 0 < m - 1 - Ge.sizes gs := of_decide_eq_true c2
          refine ⟨_, rfl, .inl ⟨rfl, _, SqL.of hki⟩, _, rfl, _, rfl, _, rfl, _, rfl, _, _, rfl, rfl, b, q, e, z, d - 1, _, rfl, hBi, hne, hei, hz, by omega, by omega, by omega, fun g v H3 wf lv sz f3 hB3 he3 hv => ?_⟩
          have nk3 : kd ∉ [b, q, e] := by simp only [List.mem_cons, List.not_mem_nil, or_false, not_or] at nkb ⊢; exact ⟨nkb.1, nkb.2, nek.symm⟩
          have hk3 := f3.keep _ _ nk3 hki
          have ul : us.length < 1000 := by
            have h7 := ges_len hdp
            omega
          refine ⟨kd, us, v, rfl, rfl, hk3, Nat.lt_of_lt_of_le ul (by decide), ?_⟩
          have ft : Fr [kd] H3 (upd H3 kd (.lst (us ++ [v]))) := Fr.lst hk3 (by simp)
          refine ⟨gs ++ [g], us ++ [v], _, rfl, (ff.trans f3).mut hkd0, hB3.upd nkb, ?_, ?_, upd_same, ?_, ?_, ?_, ?_⟩
          · rw [upd_ne nek, he3, Ge.sizes_append]
            simp [Ge.sizes] <;> omega
          · rw [Ge.sizes_append]; simp [Ge.sizes] <;> omega
          · exact ft.ges (ges_snoc (f3.ges hdp) hv)
          · simp <;> omega
          · exact hwf.append (by simp only [WfAll]; exact ⟨wf, True.intro⟩)
          · rw [Ge.levelsAll_append]; simp [Ge.levelsAll] <;> omega
        · exact ⟨gs, us, _, rfl, ff, hBi, hei, hsz, hki, hdp, by omega, hwf, hlv⟩
      · exact ⟨gs, us, _, rfl, ff, hBi, hei, hsz, hki, hdp, by omega, hwf, hlv⟩
    · rintro σ H' ⟨gs, us, u, rfl, ff, hBi, hei, hsz, hki, hdp, hlen, hwf, hlv⟩
      have z1 := hz.1
      have z2 := hz.2.1
      refine ⟨_, rfl, _, rfl, _, rfl, z, rfl, hz.len, b, q, _, rfl, hBi, by omega, by omega, fun r' H3 g0 g1 f3 hB3 => ?_⟩
      obtain ⟨c, ec, hc⟩ := hz.at g0 g1
      have nk3 : kd ∉ [b, q] := nkb
      have hk3 := f3.keep _ _ nkb hki
      have he3 := f3.keep _ _ hne hei
      refine ⟨z, r', c, rfl, rfl, hz.len, ec, _, rfl, kd, us, rfl, .inl ⟨SqL.of hk3, fun t ht => ⟨(by show 2 ≤ sizeLine; decide), fun p hp => ?_⟩⟩⟩
      have ft : Fr [] H3 (upd H3 t (.tup us)) := Fr.new ht
      have fp : Fr [] (upd H3 t (.tup us)) (upd (upd H3 t (.tup us)) p (.tup [.str ⟨#[c]⟩, .ref t])) := Fr.new hp
      have ntp : t ≠ p := ne_of_none upd_same hp
      have fl := ft.trans fp
      refine k (.node ⟨#[c]⟩ gs) _ _ ?_ ?_ ?_ ((ff.trans (f3.mono sub23)).trans fl.mono0) (hB3.fr0 fl) ?_ ?_
      · simp only [Wf]
        exact ⟨hc, by omega, hwf⟩
      · simp only [Ge.levels]; omega
      · simp only [Ge.size]; omega
      · have e5 := fl.keep _ _ (by simp) he3
        rw [e5]
        simp [Ge.size] <;> omega
      · exact dp_node_of (SqT.of upd_same) (SqT.of (by rw [upd_ne ntp]; exact upd_same)) (fl.ges (f3.ges hdp))

def spTree (K : PySem.W.Frag) : Sp := fun vs H Q _ => ∃ (b q : Addr) (z : Str), vs = [.ref b, .str z] ∧ BoxAt H b q ∧ LettersOk z ∧
  ∀ (g : Ge) (v : V) (H' : Hp), Wf NoTip g → g.levels ≤ 12 → g.size ≤ 60 → Fr [b, q] H H' → BoxAt H' b q → Dp K H' v g.data → Q v H'
theorem two_at (i j r : Int) (h0 : 0 ≤ r) (h4 : r < 2) : ∃ n, atI [V.int i, .int j] r = some (.int n) ∧ (n = i ∨ n = j) := by
  have hr : r = 0 ∨ r = 1 := by omega
  rcases hr with rfl | rfl
  · exact ⟨i, rfl, .inl rfl⟩
  · exact ⟨j, rfl, .inr rfl⟩
theorem ok_tree (F : Fun K "_law_tree" "_law_tree" s__law_tree f fd) (T : Txt K mg) (c_law_take : Callee P w K mg base 1 "_law_take" P__law_take (spTake K)) (c_law_grown : Callee P w K mg base 13 "_law_grown" P__law_grown (spGrown K 12)) :
    FnOk P w K mg base CX0 14 f fd P__law_tree (spTree K) := by
  refine F.ok sc__law_tree (fun vs H Q E h => ?_) (fun cdv A outer s H vs Q E hr h => ?_)
  · obtain ⟨b, q, z, rfl, _⟩ := h
    rfl
  obtain ⟨b, q, z, rfl, hB, hz, k⟩ := h
  have nd := (sc__law_tree).nd
  refine ⟨_, pss_cons (ps_set (i := 2) nd rfl (Or.inl rfl) (pe_ix (ix_listK K) (pe_lst (pa_cons pe_int (pa_cons pe_int (pa_cons pe_int (pa_cons pe_int pa_nil))))) (pe_own c_law_take hr (pa_cons (pv 0) (pa_cons pe_int pa_nil))) (fun _ _ => rfl)))
  (pss_one (ps_ret (pe_own c_law_grown hr (pa_cons (pv 0) (pa_cons (pv 1) (pa_cons (pe_lst (pa_cons (pv 2) pa_nil)) (pa_cons (pe_ix (ix_listK K) (pe_lst (pa_cons pe_int (pa_cons pe_int pa_nil))) (pe_own c_law_take hr (pa_cons (pv 0) (pa_cons pe_int pa_nil))) (fun _ _ => rfl)) pa_nil))))))), ?_⟩
  refine ⟨(by show 4 ≤ sizeLine; decide), fun p hp => ?_⟩
  have n1 := hB.nb hp
  refine ⟨_, rfl, b, q, 4, rfl, hB.upd n1, by decide, by decide, fun r H1 h0 h4 f1 hB1 => ?_⟩
  obtain ⟨m, em, hm⟩ := four_at 1 6 14 60 r h0 h4
  refine ⟨p, _, _, _, rfl, rfl, SqL.of (f1.keep _ _ n1 upd_same), em, ?_⟩
  refine ⟨_, rfl, _, rfl, _, rfl, (by show 1 ≤ sizeLine; decide), fun e he => ?_⟩
  have ne := hB1.nb he
  refine ⟨(by show 2 ≤ sizeLine; decide), fun p2 hp2 => ?_⟩
  have hB2 := hB1.upd (o := .lst [.int m]) ne
  have n2 := hB2.nb hp2
  have nep : e ≠ p2 := ne_of_none upd_same hp2
  refine ⟨_, rfl, b, q, 2, rfl, hB2.upd n2, by decide, by decide, fun r' H2 g0 g2 f2 hB3 => ?_⟩
  obtain ⟨d, ed, hd⟩ := two_at 4 12 r' g0 g2
  have fa : Fr [b, q] H H1 := (Fr.new hp).trans f1
  have fb : Fr [b, q] H1 H2 := ((Fr.new he).trans (Fr.new hp2)).trans f2
  have he2 := f2.keep e _ ne (show upd (upd H1 e (.lst [.int m])) p2 (.lst [.int 4, .int 12]) e = some (.lst [.int m]) by rw [upd_ne nep, upd_same])
  have he0 : H e = none := fa.freeS ne he
  refine ⟨p2, _, _, _, rfl, rfl, SqL.of (f2.keep _ _ n2 upd_same), ed, b, q, e, z, d, m, rfl, hB3, ne, he2, hz, by omega, by omega, by omega, fun g v H' wf lv sz f3 hB4 _ hv => ?_⟩
  refine k g v H' wf (by omega) (by omega) ?_ hB4 hv
  have fc := fa.trans fb
  refine ⟨fun a o na ha => ?_, fun a xs ha => f3.tup _ _ (fc.tup _ _ ha), fun a o u ha => f3.frz _ _ _ (fc.frz _ _ _ ha)⟩
  have nae : a ≠ e := ne_of_none ha he0
  refine f3.keep _ _ ?_ (fc.keep _ _ na ha)
  simp only [List.mem_cons, List.not_mem_nil, or_false, not_or] at na ⊢
  exact ⟨na.1, na.2, nae⟩
end TT


namespace TT
open PySem L2

theorem nkdatas_len : ∀ ks : List NestedKey, (NestedKey.datas ks).length = ks.length
  | [] => by simp [NestedKey.datas]
  | k :: ks => by simp [NestedKey.datas, nkdatas_len ks]
theorem take_succ' {α : Type} {l : List α} {i : Nat} {x : α} (h : l[i]? = some x) : l.take (i + 1) = l.take i ++ [x] := by
  rw [List.take_succ, h]; rfl
theorem isL_do {l : Str} (h : isL l) : ¬ V.str l = V.str "do" := by
  obtain ⟨c, h1, h2, rfl⟩ := h
  intro e
  injection e with e
  have e1 : (⟨#[c]⟩ : Str).length = ("do" : Str).length := by rw [e]
  have e2 : ("do" : Str).length = 2 := by decide +kernel
  rw [e2] at e1
  exact absurd e1 (by show ¬ (1 : Nat) = 2; decide)
theorem sz1000 {n : Nat} (h : n ≤ 1000) : n ≤ sizeLine := Nat.le_of_lt (small1000 h)

/-! ### how many parts -/
abbrev Tip13 : List NestedKey → Prop := fun ks => ks.length = 1 ∨ ks.length = 3
def spParts (K : PySem.W.Frag) (n : Nat) : Sp := fun vs H Q _ => ∃ (v : V) (g : Ge), vs = [v] ∧ Dp K H v g.data ∧ Wf Tip13 g ∧ g.levels ≤ n ∧ ∀ H', Fr [] H H' → Q (.int (g.size : Nat)) H'

/-! ### all parts of a pattern -/
def spWithin (K : PySem.W.Frag) (n : Nat) : Sp := fun vs H Q _ => ∃ (v : V) (g : Ge), vs = [v] ∧ Dp K H v g.data ∧ Wf PatTip g ∧ g.levels ≤ n ∧ g.size ≤ 1000 ∧
  ∀ (l : Addr) (us : List V) H', Fr [] H H' → H l = none → H' l = some (.lst us) → DpAll K H' us (Ge.datas (within g)) → Q (.ref l) H'
theorem within_mem : ∀ {gs : List Ge} {g : Ge}, g ∈ gs → g.size ≤ Ge.sizes gs
  | _ :: _, _, .head _ => by simp only [Ge.sizes]; omega
  | _ :: gs, g, .tail _ h => by
    have := within_mem (gs := gs) h
    simp only [Ge.sizes]; omega
theorem sizes_take : ∀ (gs : List Ge) (i : Nat), Ge.sizes (gs.take i) ≤ Ge.sizes gs
  | [], _ => by simp [Ge.sizes]
  | g :: gs, 0 => by simp [Ge.sizes]
  | g :: gs, i + 1 => by simp only [List.take_succ_cons, Ge.sizes]; have := sizes_take gs i; omega
end TT


namespace TT
open PySem L2

/-! ### what data may be compared -/
mutual
theorem lay_ge {T : List NestedKey → Prop} (hT : ∀ ks, T ks → PyData.canLayAll0 (NestedKey.datas ks) = true ∧ PyData.depthAll (NestedKey.datas ks) ≤ 1) : ∀ g : Ge, Wf T g → g.data.canLay0 = true ∧ g.data.depth ≤ 2 * g.levels
  | .tip ks, h => by
    simp only [Wf] at h
    have q := hT ks h
    rw [Ge.data_tip]
    simp only [PyData.canLay0, PyData.depth, Ge.levels]
    exact ⟨q.1, by omega⟩
  | .node l gs, h => by
    simp only [Wf] at h
    have q := lay_ges hT gs h.2.2
    rw [Ge.data_node]
    simp only [PyData.canLay0, PyData.canLayAll0, PyData.depth, PyData.depthAll, Ge.levels, isL_ok h.1, q.1, Bool.and_self, true_and]
    omega
theorem lay_ges {T : List NestedKey → Prop} (hT : ∀ ks, T ks → PyData.canLayAll0 (NestedKey.datas ks) = true ∧ PyData.depthAll (NestedKey.datas ks) ≤ 1) : ∀ gs : List Ge, WfAll T gs → PyData.canLayAll0 (Ge.datas gs) = true ∧ PyData.depthAll (Ge.datas gs) ≤ 2 * Ge.levelsAll gs
  | [], _ => by rw [Ge.datas_nil]; simp [PyData.canLayAll0, PyData.depthAll, Ge.levelsAll]
  | g :: gs, h => by
    simp only [WfAll] at h
    have q1 := lay_ge hT g h.1
    have q2 := lay_ges hT gs h.2
    rw [Ge.datas_cons]
    simp only [PyData.canLayAll0, PyData.depthAll, Ge.levelsAll, q1.1, q2.1, Bool.and_self, true_and]
    omega
end
theorem noTip_lay : ∀ ks, NoTip ks → PyData.canLayAll0 (NestedKey.datas ks) = true ∧ PyData.depthAll (NestedKey.datas ks) ≤ 1 := fun _ h => h.elim
theorem patTip_lay : ∀ ks, PatTip ks → PyData.canLayAll0 (NestedKey.datas ks) = true ∧ PyData.depthAll (NestedKey.datas ks) ≤ 1 := fun ks h => by
  rcases h with rfl | rfl <;> (simp only [NestedKey.datas, NestedKey.data, PyData.canLayAll0, PyData.canLay0, PyData.depthAll, PyData.depth]; decide +kernel)
theorem shaped_ge {T : List NestedKey → Prop} (hT : ∀ ks, T ks → PyData.canLayAll0 (NestedKey.datas ks) = true ∧ PyData.depthAll (NestedKey.datas ks) ≤ 1) {g : Ge} (h : Wf T g) (hl : g.levels ≤ 30) : SeqAt.shaped g.data = true :=
  have q := lay_ge hT g h
  shaped_of q.1 (by omega)
theorem shaped_ges {T : List NestedKey → Prop} (hT : ∀ ks, T ks → PyData.canLayAll0 (NestedKey.datas ks) = true ∧ PyData.depthAll (NestedKey.datas ks) ≤ 1) {gs : List Ge} (h : WfAll T gs) (hl : Ge.levelsAll gs ≤ 30) : SeqAt.shaped (.tuple (Ge.datas gs)) = true :=
  have q := lay_ges hT gs h
  shaped_of (by simp only [PyData.canLay0]; exact q.1) (by simp only [PyData.depth]; omega)
theorem shaped_tup0 : SeqAt.shaped (.tuple []) = true := shaped_of (by simp [PyData.canLay0, PyData.canLayAll0]) (by simp [PyData.depth, PyData.depthAll])
theorem eqv_nil (gs : List Ge) : PyData.eqv (.tuple (Ge.datas gs)) (.tuple []) = gs.isEmpty := by
  cases gs with
  | nil => rw [Ge.datas_nil]; simp [PyData.eqv, PyData.eqvAll]
  | cons g gs => rw [Ge.datas_cons]; simp [PyData.eqv, PyData.eqvAll]
theorem eqv_ints_nil (ns : List Int) : PyData.eqv (.list (ns.map PyData.int)) (.list []) = ns.isEmpty := by
  cases ns with
  | nil => simp [PyData.eqv, PyData.eqvAll]
  | cons n ns => simp [PyData.eqv, PyData.eqvAll]

/-! ### whether a pattern fits -/
theorem fitsAll_snoc : ∀ {ps ts : List Ge} (p t : Ge), ps.length = ts.length → fitsAll (ps ++ [p]) (ts ++ [t]) = (fitsAll ps ts && fits p t)
  | [], [], p, t, _ => by simp [fitsAll]
  | a :: ps, b :: ts, p, t, h => by simp only [List.cons_append, fitsAll, fitsAll_snoc p t (by simpa using h), Bool.and_assoc]
  | [], _ :: _, _, _, h => by simp at h
  | _ :: _, [], _, _, h => by simp at h
def spFits (K : PySem.W.Frag) (n : Nat) : Sp := fun vs H Q _ => ∃ (x y : V) (p t : Ge), vs = [x, y] ∧ Dp K H x p.data ∧ Dp K H y t.data ∧ Wf PatTip p ∧ Wf NoTip t ∧ p.levels ≤ n ∧ t.levels ≤ 30 ∧ ∀ H', Fr [] H H' → Q (.bl (fits p t)) H'
end TT


namespace TT
open PySem L2

/-! ### all places of a tree, with what stands there -/
def plKey (x : List Nat × Ge) : NestedKey := .tup [.tup (x.1.map fun n => .num (n : Nat)), x.2.key]
def plData (x : List Nat × Ge) : PyData := .tuple [.tuple (x.1.map fun n => .int (n : Nat)), x.2.data]
theorem numsData (p : List Nat) : NestedKey.datas (p.map fun n => NestedKey.num (n : Nat)) = p.map fun n => PyData.int (n : Nat) := by
  induction p with
  | nil => simp [NestedKey.datas]
  | cons n p ih => simp only [List.map_cons, NestedKey.datas, NestedKey.data, ih]
theorem plData_key (x : List Nat × Ge) : plData x = (plKey x).data := by
  unfold plData plKey
  simp only [NestedKey.data, NestedKey.datas, numsData, Ge.data]
theorem tupy_pl (x : List Nat × Ge) : tupy (plData x) = true := by rw [plData_key]; exact nk_tupy _
theorem tupy_pls : ∀ xs : List (List Nat × Ge), tupyAll (xs.map plData) = true
  | [] => rfl
  | x :: xs => by simp only [List.map_cons, tupyAll, tupy_pl x, tupy_pls xs, Bool.and_self]
theorem placesFrom_append : ∀ (k : Nat) (gs hs : List Ge), placesFrom k (gs ++ hs) = placesFrom k gs ++ placesFrom (k + gs.length) hs
  | k, [], hs => by simp [placesFrom]
  | k, g :: gs, hs => by
    simp only [List.cons_append, placesFrom, placesFrom_append (k + 1) gs hs, List.append_assoc, List.length_cons]
    rw [show k + 1 + gs.length = k + (gs.length + 1) by omega]
theorem dp_ints {K : PySem.W.Frag} {H : Hp} {v : V} {p : List Nat} (h : Dp K H v (.tuple (p.map fun n => PyData.int (n : Nat)))) : ∃ a, v = .ref a ∧ SqT K H a (p.map fun n => V.int (n : Nat)) := by
  obtain ⟨a, vs, rfl, hs, ha⟩ := dp_tuple h
  have : ∀ (p : List Nat) (vs : List V), DpAll K H vs (p.map fun n => PyData.int (n : Nat)) → vs = p.map fun n => V.int (n : Nat) := by
    intro p
    induction p with
    | nil => intro vs h; cases h; rfl
    | cons n p ih =>
      intro vs h
      cases h with
      | cons h1 h2 => rw [dp_int h1, ih _ h2]; rfl
  rw [this p vs ha] at hs
  exact ⟨a, rfl, hs⟩
theorem dpAll_ints {K : PySem.W.Frag} {H : Hp} : ∀ p : List Nat, DpAll K H (p.map fun n => V.int (n : Nat)) (p.map fun n => PyData.int (n : Nat))
  | [] => .nil
  | n :: p => .cons (.int _) (dpAll_ints p)
theorem dp_pl {K : PySem.W.Frag} {H : Hp} {v : V} {x : List Nat × Ge} (h : Dp K H v (plData x)) : ∃ a b u, v = .ref a ∧ SqT K H a [.ref b, u] ∧ SqT K H b (x.1.map fun n => V.int (n : Nat)) ∧ Dp K H u x.2.data := by
  obtain ⟨a, vs, rfl, hs, ha⟩ := dp_tuple h
  obtain ⟨x1, x2, rfl, h1, h2⟩ := dpAll_2 ha
  obtain ⟨b, rfl, hb⟩ := dp_ints h1
  exact ⟨a, b, x2, rfl, hs, hb, h2⟩
theorem dp_pl_of {K : PySem.W.Frag} {H : Hp} {a b : Addr} {u : V} {x : List Nat × Ge} (h1 : SqT K H a [.ref b, u]) (h2 : SqT K H b (x.1.map fun n => V.int (n : Nat))) (h3 : Dp K H u x.2.data) : Dp K H (.ref a) (plData x) :=
  .tup h1 (.cons (.tup h2 (dpAll_ints _)) (.cons h3 .nil))
mutual
theorem places_short : ∀ (g : Ge) (x : List Nat × Ge), x ∈ places g → x.1.length + 1 ≤ g.levels
  | .tip ks, x, h => by simp [places] at h; subst h; simp [Ge.levels]
  | .node l gs, x, h => by
    simp only [places, List.mem_cons] at h
    rcases h with rfl | h
    · simp [Ge.levels]
    · have := placesFrom_short 0 gs x h
      simp only [Ge.levels]
      omega
theorem placesFrom_short : ∀ (k : Nat) (gs : List Ge) (x : List Nat × Ge), x ∈ placesFrom k gs → x.1.length ≤ Ge.levelsAll gs
  | _, [], x, h => by simp [placesFrom] at h
  | k, g :: gs, x, h => by
    simp only [placesFrom, List.mem_append, List.mem_map] at h
    simp only [Ge.levelsAll]
    rcases h with ⟨y, hy, rfl⟩ | h
    · have := places_short g y hy
      simp only [List.length_cons]
      omega
    · have := placesFrom_short (k + 1) gs x h
      omega
end
def spPlaces (K : PySem.W.Frag) (n : Nat) : Sp := fun vs H Q _ => ∃ (v : V) (g : Ge), vs = [v] ∧ Dp K H v g.data ∧ Wf NoTip g ∧ g.levels ≤ n ∧ g.levels ≤ 100 ∧ g.size ≤ 1000 ∧
  ∀ (l : Addr) (us : List V) H', Fr [] H H' → H l = none → H' l = some (.lst us) → DpAll K H' us ((places g).map plData) → Q (.ref l) H'
theorem ok_places (F : Fun K "_law_places" "_law_places" s__law_places f fd) (T : Txt K mg) (mf : mg "_law_places" = some (.ref f)) (bf : Binds K fd P__law_places []) :
    ∀ n : Nat, FnOk P w K mg base CX0 (n + 1) f fd P__law_places (spPlaces K n)
  | 0 => by
    have no : ∀ vs H Q E, ¬ spPlaces K 0 vs H Q E := fun vs H Q E h => by
      obtain ⟨v, g, _, _, _, h1, _⟩ := h
      have := g.levels_pos
      omega
    exact ⟨fun vs H Q E h => absurd h (no vs H Q E), fun A outer s H args us vs Q E _ _ _ _ h => absurd h (no vs H Q E)⟩
  | n + 1 => by
    have c_law_places : Callee P w K mg base (n + 1) "_law_places" P__law_places (spPlaces K n) := ⟨f, fd, ok_places F T mf bf n, mf, F.kp, bf⟩
    refine F.ok sc__law_places (fun vs H Q E h => ?_) (fun cdv A outer s H vs Q E hr h => ?_)
    · obtain ⟨v, g, rfl, _⟩ := h
      rfl
    obtain ⟨v, g, rfl, hv, wf, lv, lc, sz, k⟩ := h
    have nd := (sc__law_places).nd
    refine ⟨_, pss_cons (ps_set (i := 1) nd rfl (Or.inl rfl) (pe_lst (pa_cons (pe_tup (pa_cons (pe_tup pa_nil) (pa_cons (pv 0) pa_nil))) pa_nil)))
  (pss_cons (ps_for PassesOwn.never rfl (pi_range1 (by rfl) T.range_ (pa_cons (pe_callB (call_lenK K) (by rfl) T.len_ PySem.boot_len (pa_cons (pe_ix (ix_tupK K) (pv 0) pe_int (fun _ _ => rfl)) pa_nil)) pa_nil)) (pg_name (i := 2) nd rfl (Or.inr rfl))
    (pss_one (ps_expr (pe_bmK K PySem.F.plainAttrs_list PySem.F.slot_list_extend PySem.F.type_list_extend mt_extend (pv 1) (pa_cons (pe_lc (own := [("_law_place", 3), ("_law_part", 4)]) (g := gTup K 2 (gCons (gName 3) (gCons (gName 4) gNil))) (tt := tYes) (by rfl) nd (pi_listK K (pe_own c_law_places hr (pa_cons (pe_ix (ix_tupK K) (pe_ix (ix_tupK K) (pv 0) pe_int (fun _ _ => rfl)) (pv 2) (fun _ _ => rfl)) pa_nil))) (blkOk_by (N := N__law_places) (sc := defScope s__law_places) (own := [("_law_place", 3), ("_law_part", 4)]) (by decide +kernel)) (fun _ _ _ _ _ => (pg_tupK K rfl (pgs_cons (pg_name (i := 3) nd rfl (Or.inl rfl)) (pgs_cons (pg_name (i := 4) nd rfl (Or.inl rfl)) pgs_nil)))) (fun _ _ _ _ _ => pts_nil) (fun _ _ _ _ _ => (pe_tup (pa_cons (pe_op (op_catP K) (pe_tup (pa_cons (pv 2) pa_nil)) (pv 3)) (pa_cons (pv 4) pa_nil))))) pa_nil)))))
  (pss_one (ps_ret (pv 1)))), ?_⟩
    cases g with
    | tip ks => exact False.elim (by simpa [Wf] using wf)
    | node lb gs =>
    obtain ⟨a, b, us, rfl, hs, hb, hd⟩ := dp_node hv
    simp only [Wf] at wf
    simp only [Ge.levels] at lv lc
    simp only [Ge.size] at sz
    have eu : us.length = gs.length := ges_len hd
    have w3 := wf.2.1
    -- found = [((), tree)]
    refine ⟨Nat.zero_le _, fun t0 ht0 => ⟨_, rfl, (by show 2 ≤ sizeLine; decide), fun t1 ht1 => ⟨(by show 1 ≤ sizeLine; decide), fun l hl => ?_⟩⟩⟩
    have f0 : Fr [] H (upd H t0 (.tup [])) := Fr.new ht0
    have f1 : Fr [] (upd H t0 (.tup [])) (upd (upd H t0 (.tup [])) t1 (.tup [.ref t0, .ref a])) := Fr.new ht1
    have f2 : Fr [] (upd (upd H t0 (.tup [])) t1 (.tup [.ref t0, .ref a])) (upd (upd (upd H t0 (.tup [])) t1 (.tup [.ref t0, .ref a])) l (.lst [.ref t1])) := Fr.new hl
    have ff0 := (f0.trans f1).trans f2
    have hl0 : H l = none := (f0.trans f1).free hl
    have n01 : t0 ≠ t1 := ne_of_none upd_same ht1
    refine ⟨_, rfl, a, _, _, .ref b, rfl, rfl, ff0.sqT hs, rfl, b, us, rfl, .inr (ff0.sqT hb), _, rfl, by omega, by omega, ?_⟩
    refine for_range (lo := 0) (n := us.length) (fun i σ H' => ∃ (xs : List V) (u u3 u4 : Option V), σ = [some (.ref a), some (.ref l), u, u3, u4] ∧ Fr [] H H' ∧ H' l = some (.lst xs) ∧ DpAll K H' xs ((([], .node lb gs) :: placesFrom 0 (gs.take i)).map plData)) ?_ ?_ ?_
    · refine ⟨_, none, none, none, rfl, ff0, upd_same, ?_⟩
      rw [List.take_zero, show placesFrom 0 [] = [] by simp only [placesFrom]]
      exact .cons (dp_pl_of (f2.sqT (SqT.of upd_same)) ((f1.trans f2).sqT (SqT.of upd_same)) (ff0.ge hv)) .nil
    · rintro i σ H' hi ⟨xs, u, u3, u4, rfl, ff, hli, hdp⟩
      obtain ⟨x, hxi⟩ : ∃ x, us[i]? = some x := ⟨us[i], List.getElem?_eq_getElem hi⟩
      obtain ⟨g, hg, hgx⟩ := ges_get hd hxi
      have ax : atI us (0 + (i : Int)) = some x := by rw [Int.zero_add]; exact atI_nat hxi
      have mg' : g ∈ gs := List.mem_of_getElem? hg
      have lg := Ge.levels_mem mg'
      have sg := within_mem mg'
      refine ⟨_, rfl, .inl ⟨rfl, _, SqL.of hli⟩, _, rfl, a, _, _, .ref b, rfl, rfl, ff.sqT hs, rfl, _, rfl, b, us, _, x, rfl, rfl, ff.sqT hb, ax, x, g, rfl, ff.ge hgx, wf.2.2.mem mg', by omega, by omega, by omega, fun l2 ys H2 f3 hl2 hl2i hdy => ?_⟩
      refine ⟨l2, rfl, ⟨_, SqL.of hl2i⟩, fun D hD => ?_⟩
      have nlD : l2 ≠ D := ne_of_none hl2i hD
      refine lc_list (K := K) (a := l2) (xs := ys) (fun j H3 => ∃ zs : List V, Fr [] H2 H3 ∧ H3 D = some (.lst zs) ∧ DpAll K H3 zs ((((places g).take j).map fun x => (i :: x.1, x.2)).map plData)) ⟨[], Fr.new hD, upd_same, by simp; exact .nil⟩ (fun j H3 _ p => by obtain ⟨zs, f4, _⟩ := p; exact SqL.of (f4.keep _ _ (by simp) hl2i)) ?_ ?_
      · rintro j y H3 hy ⟨zs, f4, hDz, hdz⟩
        obtain ⟨dy, hdy1, hdy2⟩ := DpAll.get hdy hy
        rw [List.getElem?_map] at hdy1
        obtain ⟨pl, hpl, rfl⟩ := Option.map_eq_some_iff.mp hdy1
        obtain ⟨c, e, q, rfl, hc, he, hq⟩ := dp_pl (f4.dp _ _ (tupy_pl pl) hdy2)
        have hlen : pl.1.length ≤ 100 := by
          have := places_short g pl (List.mem_of_getElem? hpl)
          omega
        refine ⟨c, _, rfl, hc, rfl, _, _, rfl, _, _, rfl, rfl, rfl, ?_⟩
        refine ⟨_, rfl, (by show 1 ≤ sizeLine; decide), fun t ht => ?_⟩
        have f5 : Fr [] H3 (upd H3 t (.tup [.int (0 + (i : Int))])) := Fr.new ht
        refine ⟨_, rfl, t, e, _, _, rfl, rfl, SqT.of upd_same, f5.sqT he, sz1000 (by simp; omega), fun p H4 f6 hp => ?_⟩
        refine ⟨_, rfl, (by show 2 ≤ sizeLine; decide), fun t2 ht2 => ?_⟩
        have f7 : Fr [] H4 (upd H4 t2 (.tup [.ref p, q])) := Fr.new ht2
        have f8 := (f5.trans f6).trans f7
        have hD8 := f8.keep D _ (by simp) hDz
        have zl : zs.length ≤ 1000 := by
          rw [DpAll.length hdz, List.length_map, List.length_map, List.length_take, places_len]
          omega
        refine ⟨zs, hD8, small1000 zl, zs ++ [.ref t2], (f4.trans f8).mut hD, upd_same, ?_⟩
        have fD : Fr [D] (upd H4 t2 (.tup [.ref p, q])) (upd (upd H4 t2 (.tup [.ref p, q])) D (.lst (zs ++ [.ref t2]))) := Fr.lst hD8 (by simp)
        rw [take_succ' hpl, List.map_append, List.map_append]
        refine DpAll.append (fD.dpAll _ _ (tupy_pls _) (f8.dpAll _ _ (tupy_pls _) hdz)) (.cons ?_ .nil)
        have hp' : SqT K H4 p ((i :: pl.1).map fun n => V.int (n : Nat)) := by simpa using hp
        exact dp_pl_of (x := (i :: pl.1, pl.2)) (fD.sqT (SqT.of upd_same)) (fD.sqT (f7.sqT hp')) (fD.ge (f8.ge hq))
      · rintro H3 ⟨zs, f4, hDz, hdz⟩
        have ey : ys.length = (places g).length := by rw [DpAll.length hdy, List.length_map]
        rw [ey, List.take_length] at hdz
        have f9 := (ff.trans f3).trans f4
        have nl2 : l ∉ ([] : List Addr) := by simp
        have hl3 := (f3.trans f4).keep l _ nl2 hli
        have e1 : xs.length = 1 + Ge.sizes (gs.take i) := by
          rw [DpAll.length hdp, List.length_map, List.length_cons, placesFrom_len]; omega
        have e2 : zs.length = g.size := by rw [DpAll.length hdz, List.length_map, List.length_map, places_len]
        have e3 := sizes_take gs (i + 1)
        rw [take_succ' hg, Ge.sizes_append] at e3
        simp only [Ge.sizes] at e3
        refine ⟨l, D, xs, zs, rfl, rfl, hl3, hDz, sz1000 (by omega), ?_⟩
        have fl : Fr [l] H3 (upd H3 l (.lst (xs ++ zs))) := Fr.lst hl3 (by simp)
        refine ⟨xs ++ zs, _, _, _, rfl, f9.mut hl0, upd_same, ?_⟩
        rw [take_succ' hg, placesFrom_append, ← List.cons_append, List.map_append]
        refine DpAll.append (fl.dpAll _ _ (tupy_pls _) ((f3.trans f4).dpAll _ _ (tupy_pls _) hdp)) ?_
        have e4 : placesFrom (0 + (gs.take i).length) [g] = (places g).map fun x => (i :: x.1, x.2) := by
          have : (gs.take i).length = i := by rw [List.length_take]; omega
          rw [this]
          simp [placesFrom]
        rw [e4]
        exact fl.dpAll _ _ (tupy_pls _) hdz
    · rintro σ H' ⟨xs, u, u3, u4, rfl, ff, hli, hdp⟩
      rw [eu, List.take_length] at hdp
      refine ⟨_, rfl, ?_⟩
      refine k l xs H' ff hl0 hli ?_
      rw [show places (.node lb gs) = ([], .node lb gs) :: placesFrom 0 gs by simp only [places]]
      exact hdp
end TT


namespace TT
open PySem L2

/-! ### paths that stand in a pattern -/
def pathData (p : List Nat) : PyData := .tuple (p.map fun n => .int (n : Nat))
theorem tupyAll_ints : ∀ p : List Nat, tupyAll (p.map fun n => PyData.int (n : Nat)) = true
  | [] => rfl
  | n :: p => by simp only [List.map_cons, tupyAll, tupy, tupyAll_ints p, Bool.and_self]
theorem tupy_path (p : List Nat) : tupy (pathData p) = true := by simp only [pathData, tupy, tupyAll_ints]
theorem tupy_paths : ∀ ps : List (List Nat), tupyAll (ps.map pathData) = true
  | [] => rfl
  | p :: ps => by simp only [List.map_cons, tupyAll, tupy_path p, tupy_paths ps, Bool.and_self]
def PathOk (g : Ge) : List Nat → Prop
  | [k] => ∃ h, g.gs[k]? = some h
  | [k, j] => ∃ h i, g.gs[k]? = some h ∧ h.gs[j]? = some i
  | _ => False
def spPaths (K : PySem.W.Frag) : Sp := fun vs H Q _ => ∃ (v : V) (g : Ge), vs = [v] ∧ Dp K H v g.data ∧ Wf PatTip g ∧
  ∀ (l : Addr) (us : List V) (ps : List (List Nat)) H', Fr [] H H' → H l = none → H' l = some (.lst us) → DpAll K H' us (ps.map pathData) → (∀ p ∈ ps, PathOk g p) → ps.length ≤ 12 → Q (.ref l) H'
theorem patTip_1 {ks : List NestedKey} (h : PatTip ks) : ks.length = 1 := by rcases h with rfl | rfl <;> rfl
end TT


namespace TT
open PySem L2

/-! ### a pattern -/
def spPattern (K : PySem.W.Frag) (n : Nat) : Sp := fun vs H Q _ => ∃ (b q : Addr) (z : Str) (d : Int), vs = [.ref b, .str z, .int d] ∧ BoxAt H b q ∧ LettersOk z ∧ 1 ≤ d ∧ d ≤ n ∧
  ∀ (g : Ge) (v : V) (H' : Hp), Wf PatTip g → (g.levels : Int) ≤ d → Fr [b, q] H H' → BoxAt H' b q → Dp K H' v g.data → Q v H'
theorem four_ref (a b c d : Addr) (r : Int) (h0 : 0 ≤ r) (h4 : r < 4) : ∃ e, atI [V.ref a, .ref b, .ref c, .ref d] r = some (.ref e) ∧ (e = a ∨ e = b ∨ e = c ∨ e = d) := by
  have hr : r = 0 ∨ r = 1 ∨ r = 2 ∨ r = 3 := by omega
  rcases hr with rfl | rfl | rfl | rfl
  · exact ⟨a, rfl, .inl rfl⟩
  · exact ⟨b, rfl, .inr (.inl rfl)⟩
  · exact ⟨c, rfl, .inr (.inr (.inl rfl))⟩
  · exact ⟨d, rfl, .inr (.inr (.inr rfl))⟩

end TT


namespace TT
open PySem L2

/-! ### a build -/
abbrev BuTip (ss : List Int) (ps : List (List Nat)) : List NestedKey → Prop := fun ks => ∃ s ∈ ss, ∃ p ∈ ps, ks = [.text "do", .num s, .tup (p.map fun n => .num (n : Nat))]
theorem path_lay : ∀ ps : List (List Nat), PyData.canLayAll0 (ps.map pathData) = true ∧ PyData.depthAll (ps.map pathData) ≤ 1
  | [] => by simp [PyData.canLayAll0, PyData.depthAll]
  | p :: ps => by
    have h := path_lay ps
    have e : ∀ p : List Nat, PyData.canLayAll0 (p.map fun n => PyData.int (n : Nat)) = true ∧ PyData.depthAll (p.map fun n => PyData.int (n : Nat)) = 0 := by
      intro p
      induction p with
      | nil => simp [PyData.canLayAll0, PyData.depthAll]
      | cons n p ih => simp [PyData.canLayAll0, PyData.canLay0, PyData.depthAll, PyData.depth, ih.1, ih.2]
    simp only [List.map_cons, PyData.canLayAll0, PyData.depthAll, pathData, PyData.canLay0, PyData.depth, (e p).1, (e p).2, h.1, Bool.and_self, true_and]
    omega
theorem paths_shaped (ps : List (List Nat)) : SeqAt.shaped (.list (ps.map pathData)) = true :=
  shaped_of (by simp only [PyData.canLay0]; exact (path_lay ps).1) (by simp only [PyData.depth]; have := (path_lay ps).2; omega)
theorem eqv_paths (ps : List (List Nat)) : PyData.eqv (.list (ps.map pathData)) (.list []) = ps.isEmpty := by
  cases ps with
  | nil => simp [PyData.eqv, PyData.eqvAll]
  | cons n ns => simp [PyData.eqv, PyData.eqvAll]
def spBuild (K : PySem.W.Frag) (n : Nat) : Sp := fun vs H Q _ => ∃ (b q sA pA : Addr) (z : Str) (d : Int) (ss : List Int) (us : List V) (ps : List (List Nat)), vs = [.ref b, .str z, .ref sA, .ref pA, .int d] ∧ BoxAt H b q ∧ LettersOk z ∧
  H sA = some (.lst (ss.map V.int)) ∧ sA ∉ [b, q] ∧ 1 ≤ ss.length ∧ ss.length ≤ 6 ∧ H pA = some (.lst us) ∧ pA ∉ [b, q] ∧ DpAll K H us (ps.map pathData) ∧ ps.length ≤ 12 ∧ 1 ≤ d ∧ d ≤ n ∧
  ∀ (g : Ge) (v : V) (H' : Hp), Wf (BuTip ss ps) g → (g.levels : Int) ≤ d → Fr [b, q] H H' → BoxAt H' b q → Dp K H' v g.data → Q v H'
end TT


namespace TT
open PySem L2

theorem cutV_whole {xs : List V} {lo hi : Option Int} (h : HT.sIx xs.length 0 lo = 0 ∧ HT.sIx xs.length xs.length hi = xs.length) : cutV xs lo hi = xs := by
  unfold cutV
  rw [h.1, h.2]
  simp
theorem sl_tupP {X : Cx} (K : PySem.W.Frag) (hK : X.K = K := by rfl) : SlR X (rSlP K) := by
  subst hK
  intro pins s σ H x v vl vu lo hi sl Q I rx hs pl pu h
  obtain ⟨a, xs, rfl, ha, q⟩ := h
  exact sl_tupA pins s σ H _ v vl vu lo hi sl Q I rx hs pl pu ⟨a, xs, rfl, ha, fun hw => q a H (Fr.refl _ _) (by rw [cutV_whole hw]; exact ha), fun _ p hp => q p _ (Fr.new hp) (SqT.of upd_same)⟩

/-! ### a rule -/
structure Ru where
  st : Int
  spot : NestedKey
  pat : Ge
  bu : Ge
def Ru.key (r : Ru) : NestedKey := .tup [.num r.st, r.spot, r.pat.key, r.bu.key]
def Ru.data (r : Ru) : PyData := .tuple [.int r.st, r.spot.data, r.pat.data, r.bu.data]
theorem Ru.data_key (r : Ru) : r.data = r.key.data := by simp only [Ru.data, Ru.key, NestedKey.data, NestedKey.datas, Ge.data]
theorem tupy_ru (r : Ru) : tupy r.data = true := by rw [Ru.data_key]; exact nk_tupy _
theorem tupy_rus : ∀ rs : List Ru, tupyAll (rs.map Ru.data) = true
  | [] => rfl
  | r :: rs => by simp only [List.map_cons, tupyAll, tupy_ru r, tupy_rus rs, Bool.and_self]
abbrev kTop : NestedKey := .tup [.text "top"]
def SpotOk (k : NestedKey) : Prop := k = .none ∨ k = kTop ∨ (∃ l, isL l ∧ k = .tup [.text "under", .text l]) ∨ ∃ j : Int, 0 ≤ j ∧ j ≤ 2 ∧ k = .tup [.text "kid", .num j]
abbrev DoTip (p : Ge) : List NestedKey → Prop := fun ks => ∃ s : Int, 0 ≤ s ∧ s ≤ 5 ∧ ∃ π, PathOk p π ∧ ks = [.text "do", .num s, .tup (π.map fun n => .num (n : Nat))]
structure RuOk (r : Ru) : Prop where
  st0 : 0 ≤ r.st
  st5 : r.st ≤ 5
  spot : SpotOk r.spot
  pat : Wf PatTip r.pat
  ps : r.pat.size ≤ 7
  pl : r.pat.levels ≤ 3
  bu : Wf (DoTip r.pat) r.bu
  bs : r.bu.size ≤ 12
  bl : r.bu.levels ≤ 4
def spRule (K : PySem.W.Frag) : Sp := fun vs H Q _ => ∃ (b q sA : Addr) (z : Str) (ss : List Int), vs = [.ref b, .str z, .ref sA] ∧ BoxAt H b q ∧ LettersOk z ∧ H sA = some (.lst (ss.map V.int)) ∧ sA ∉ [b, q] ∧ 1 ≤ ss.length ∧ ss.length ≤ 6 ∧ (∀ s ∈ ss, 0 ≤ s ∧ s ≤ 5) ∧
  ∀ (r : Ru) (v : V) (H' : Hp), RuOk r → Fr [b, q] H H' → BoxAt H' b q → Dp K H' v r.data → Q v H'
theorem levels_sizes2 {T : List NestedKey → Prop} : ∀ {gs : List Ge}, WfAll T gs → Ge.levelsAll gs ≤ 1 → Ge.sizes gs = gs.length
  | [], _, _ => by simp [Ge.sizes]
  | g :: gs, h, hl => by
    simp only [WfAll] at h
    simp only [Ge.levelsAll] at hl
    have ih := levels_sizes2 h.2 (by omega)
    have : g.size = 1 := by
      cases g with
      | tip ks => simp only [Ge.size]
      | node l hs =>
        have hl2 : (Ge.node l hs).levels ≤ 1 := by omega
        simp only [Ge.levels] at hl2
        cases hs with
        | nil => simp only [Ge.size, Ge.sizes]
        | cons x xs =>
          simp only [Ge.levelsAll] at hl2
          have := x.levels_pos
          omega
    simp only [Ge.sizes, List.length_cons, ih, this]
    omega
theorem size_of_levels2 {T : List NestedKey → Prop} {g : Ge} (h : Wf T g) (hl : g.levels ≤ 2) : g.size ≤ 4 := by
  cases g with
  | tip ks => simp only [Ge.size]; omega
  | node l gs =>
    simp only [Wf] at h
    simp only [Ge.levels] at hl
    have := levels_sizes2 h.2.2 (by omega)
    simp only [Ge.size, this]
    omega
theorem many_kids {T : List NestedKey → Prop} {l : Str} {gs : List Ge} (h : Wf T (.node l gs)) (hl : (Ge.node l gs).levels ≤ 3) (hs : 7 < (Ge.node l gs).size) : 2 ≤ gs.length := by
  simp only [Wf] at h
  simp only [Ge.levels] at hl
  simp only [Ge.size] at hs
  match gs, h, hl, hs with
  | [], _, _, hs => simp [Ge.sizes] at hs
  | [g], h, hl, hs =>
    simp only [Ge.levelsAll] at hl
    have := size_of_levels2 (h.2.2.mem List.mem_cons_self) (by omega)
    simp only [Ge.sizes] at hs
    omega
  | _ :: _ :: _, _, _, _ => simp
theorem six_at (a b c : Addr) (r : Int) (h0 : 0 ≤ r) (h6 : r < 6) : ∃ v, atI [V.non, .non, .non, .ref a, .ref b, .ref c] r = some v ∧ (v = .non ∨ v = .ref a ∨ v = .ref b ∨ v = .ref c) := by
  have hr : r = 0 ∨ r = 1 ∨ r = 2 ∨ r = 3 ∨ r = 4 ∨ r = 5 := by omega
  rcases hr with rfl | rfl | rfl | rfl | rfl | rfl
  · exact ⟨_, rfl, .inl rfl⟩
  · exact ⟨_, rfl, .inl rfl⟩
  · exact ⟨_, rfl, .inl rfl⟩
  · exact ⟨_, rfl, .inr (.inl rfl)⟩
  · exact ⟨_, rfl, .inr (.inr (.inl rfl))⟩
  · exact ⟨_, rfl, .inr (.inr (.inr rfl))⟩
theorem patTip_13 : ∀ ks, PatTip ks → Tip13 ks := fun ks h => .inl (patTip_1 h)
theorem buTip_13 {ss ps} : ∀ ks, BuTip ss ps ks → Tip13 ks := fun ks h => by obtain ⟨s, _, p, _, rfl⟩ := h; exact .inr rfl
theorem flat_rep (k : Nat) (v : V) : (List.replicate k [v]).flatten = List.replicate k v := by
  induction k with
  | zero => rfl
  | succ k ih => rw [List.replicate_succ, List.flatten_cons, ih]; rfl
theorem datas_rep {K : PySem.W.Frag} {H : Hp} {v : V} {g : Ge} (h : Dp K H v g.data) : ∀ k : Nat, DpAll K H (List.replicate k v) (Ge.datas (List.replicate k g))
  | 0 => by rw [show List.replicate 0 g = [] from rfl, Ge.datas_nil]; exact .nil
  | k + 1 => by rw [List.replicate_succ, List.replicate_succ, Ge.datas_cons]; exact .cons h (datas_rep h k)
theorem sizes_rep (g : Ge) : ∀ k : Nat, Ge.sizes (List.replicate k g) = k * g.size
  | 0 => by simp [Ge.sizes]
  | k + 1 => by rw [List.replicate_succ]; simp only [Ge.sizes, sizes_rep g k, Nat.succ_mul]; omega
theorem levels_rep (g : Ge) : ∀ k : Nat, Ge.levelsAll (List.replicate k g) ≤ g.levels
  | 0 => by simp [Ge.levelsAll]
  | k + 1 => by rw [List.replicate_succ]; simp only [Ge.levelsAll]; have := levels_rep g k; omega
theorem dp_spot {K : PySem.W.Frag} {H H' : Hp} {S} (f : Fr S H H') {v : V} {k : NestedKey} (h : Dp K H v k.data) : Dp K H' v k.data := f.dp _ _ (nk_tupy k) h
end TT


namespace TT
open PySem L2

theorem tyx_tup {K : PySem.W.Frag} {H : Hp} {a : Addr} {xs : List V} (h : SqT K H a xs) : TyX K H (.ref a) (.type "tuple") := by
  rcases h with (h | ⟨o, h⟩) | ⟨o, its, n, h, hc, _⟩
  · exact .base (.tup h)
  · exact .fTuple h
  · exact .kTuple h hc
abbrev vL6 : List V := [.str "a", .str "b", .str "c", .str "d", .str "e", .str "f"]
theorem inV_letters {l : Str} (h : isL l) : inV (.str l) vL6 = true := by
  have := isL_mem h
  unfold letters6 at this
  simp only [List.mem_cons, List.not_mem_nil, or_false] at this
  rcases this with rfl | rfl | rfl | rfl | rfl | rfl <;> decide +kernel

/-! ### numbers -/
def spNumber : Sp := fun vs H Q _ => ∃ (i m : Int), vs = [.int i, .int m] ∧ 0 ≤ i ∧ i ≤ m ∧ Q (.bl true) H

/-! ### forms -/
def spForm (K : PySem.W.Frag) : Sp := fun vs H Q _ => ∃ (v : V) (l : Str) (gs : List Ge), vs = [v] ∧ Dp K H v (Ge.node l gs).data ∧ isL l ∧ gs.length ≤ 3 ∧ Q (.bl true) H
theorem ok_form (F : Fun K "has_form" "has_form" s_has_form f fd) (T : Txt K mg) : FnOk P w K mg base CX0 1 f fd P_has_form (spForm K) := by
  refine F.ok sc_has_form (fun vs H Q E h => ?_) (fun cdv A outer s H vs Q E hr h => ?_)
  · obtain ⟨v, l, gs, rfl, _⟩ := h
    rfl
  obtain ⟨v, l, gs, rfl, hv, hl, h3, k⟩ := h
  have nd := (sc_has_form).nd
  obtain ⟨aL, mL, sL⟩ := T.LETTERS
  obtain ⟨a, b, us, rfl, hs, hb, hd⟩ := dp_node hv
  have eu : us.length = gs.length := ges_len hd
  refine ⟨_, pss_cons (ps_if (PW.pt (pw_or (pt_not (pt_val (pe_callB (call_isiK' K) (by rfl) T.isinstance_ (by decide +kernel) (pa_cons (pv 0) (pa_cons (pe_bltn (v := .ty "tuple") (by rfl) T.tuple_ (by decide +kernel) rfl) pa_nil))))) (pw_or1 (pt_cmpR op_ne (pe_callB (call_lenK K) (by rfl) T.len_ PySem.boot_len (pa_cons (pv 0) pa_nil)) pe_int (nomark _)))))
    (pss_one (ps_ret pe_bl))
    (pss_nil))
  (pss_cons (ps_asg (pv 0) (pg_tupK K rfl (pgs_cons (pg_name (i := 1) nd rfl (Or.inl rfl)) (pgs_cons (pg_name (i := 2) nd rfl (Or.inl rfl)) pgs_nil))))
  (pss_one (ps_ret (pe_and (pe_cmpR (op_inK K) (pv 1) (pe_globR mL) (by rfl)) (pe_and (pe_callB (call_isiK' K) (by rfl) T.isinstance_ (by decide +kernel) (pa_cons (pv 2) (pa_cons (pe_bltn (v := .ty "tuple") (by rfl) T.tuple_ (by decide +kernel) rfl) pa_nil))) (pe_one (pe_cmpR op_le (pe_callB (call_lenK K) (by rfl) T.len_ PySem.boot_len (pa_cons (pv 2) pa_nil)) (pe_globI T.MOST_KIDS) (nomark _)))))))), ?_⟩
  refine ⟨_, rfl, _, .ty "tuple", _, _, true, rfl, .ty _, tyx_tup hs, kit_ty (by decide +kernel), _, rfl, iteF ?_⟩
  refine ⟨_, rfl, a, _, rfl, .inr hs, rfl, _, rfl, ?_⟩
  refine ite2 (fun c => absurd c (by show ¬ (!decide (V.int 2 = V.int 2)) = true; decide)) (fun _ => ?_)
  refine ⟨_, rfl, a, _, rfl, hs, rfl, _, _, rfl, _, _, rfl, rfl, ?_⟩
  refine ⟨_, rfl, aL, vL6, rfl, .inr (sL H), rfl, rfl, _, rfl, ?_⟩
  have e1 : (if false = true then !inV (.str l) vL6 else inV (.str l) vL6) = true := by rw [if_neg (by decide)]; exact inV_letters hl
  rw [e1]
  refine iteT ⟨_, rfl, _, .ty "tuple", _, _, true, rfl, .ty _, tyx_tup hb, kit_ty (by decide +kernel), _, rfl, iteT ?_⟩
  refine ⟨_, rfl, b, us, rfl, .inr hb, _, _, rfl, rfl, ?_⟩
  show Q (.bl (decide (((us.length : Nat) : Int) ≤ 3))) H
  rw [decide_eq_true (show ((us.length : Nat) : Int) ≤ 3 by omega)]
  exact k

/-! ### bare patterns, kids within -/
def isTip : Ge → Bool
  | .tip _ => true
  | .node _ _ => false
def spBare (K : PySem.W.Frag) : Sp := fun vs H Q _ => ∃ (v : V) (g : Ge), vs = [v] ∧ Dp K H v g.data ∧ Wf PatTip g ∧ g.levels ≤ 30 ∧ Q (.bl (isTip g)) H
theorem eqv_ge (g h : Ge) : PyData.eqv g.data h.data = decide (g.key = h.key) := nk_eqv' _ _
def spKids (K : PySem.W.Frag) : Sp := fun vs H Q _ => ∃ (v : V) (g : Ge), vs = [v] ∧ Dp K H v g.data ∧ Wf PatTip g ∧ g.levels ≤ 30 ∧ ∀ (c : Addr) (us : List V) H', Fr [] H H' → SqT K H' c us → DpAll K H' us (Ge.datas g.gs) → Q (.ref c) H'

/-! ### paths, dos -/
def RestOk : Ge → List Nat → Prop
  | _, [] => True
  | g, k :: r => ∃ h, g.gs[k]? = some h ∧ RestOk h r
theorem PathOk.rest {g : Ge} : ∀ {p : List Nat}, PathOk g p → RestOk g p ∧ 1 ≤ p.length ∧ p.length ≤ 2
  | [k], h => by obtain ⟨x, hx⟩ := h; exact ⟨⟨x, hx, True.intro⟩, by simp, by simp⟩
  | [k, j], h => by obtain ⟨x, y, hx, hy⟩ := h; exact ⟨⟨x, hx, y, hy, True.intro⟩, by simp, by simp⟩
  | [], h => h.elim
  | _ :: _ :: _ :: _, h => h.elim
theorem gs_mem {T : List NestedKey → Prop} {g h : Ge} {k : Nat} (wf : Wf T g) (e : g.gs[k]? = some h) : Wf T h ∧ h.levels < g.levels := by
  cases g with
  | tip ks => simp [Ge.gs] at e
  | node l gs =>
    simp only [Ge.gs] at e
    simp only [Wf] at wf
    have m := List.mem_of_getElem? e
    have := Ge.levels_mem m
    exact ⟨wf.2.2.mem m, by simp only [Ge.levels]; omega⟩
def spPath (K : PySem.W.Frag) : Sp := fun vs H Q _ => ∃ (x v : V) (p : List Nat) (g : Ge), vs = [x, v] ∧ Dp K H x (pathData p) ∧ Dp K H v g.data ∧ Wf PatTip g ∧ g.levels ≤ 30 ∧ PathOk g p ∧ ∀ H', Fr [] H H' → Q (.bl true) H'
abbrev DoT (p : Ge) : List NestedKey → Prop := DoTip p
def spDo (K : PySem.W.Frag) : Sp := fun vs H Q _ => ∃ (x v : V) (h g : Ge), vs = [x, v] ∧ Dp K H x h.data ∧ Dp K H v g.data ∧ Wf PatTip g ∧ g.levels ≤ 30 ∧ Wf (DoTip g) h ∧ ∀ H', Fr [] H H' → Q (.bl (isTip h)) H'

/-! ### spots -/
def spSpot (K : PySem.W.Frag) : Sp := fun vs H Q _ => ∃ (v : V) (ks : NestedKey), vs = [v] ∧ Dp K H v ks.data ∧ SpotOk ks ∧ ∀ H', Fr [] H H' → Q (.bl true) H'
theorem spot_shaped {ks : NestedKey} (h : SpotOk ks) : SeqAt.shaped ks.data = true := by
  rcases h with rfl | rfl | ⟨l, hl, rfl⟩ | ⟨j, _, _, rfl⟩
  · decide +kernel
  · decide +kernel
  · refine shaped_of ?_ ?_
    · simp only [NestedKey.data, NestedKey.datas, PyData.canLay0, PyData.canLayAll0, isL_ok hl, Bool.and_true]
      decide +kernel
    · simp only [NestedKey.data, NestedKey.datas, PyData.depth, PyData.depthAll]; omega
  · refine shaped_of ?_ ?_
    · simp only [NestedKey.data, NestedKey.datas, PyData.canLay0, PyData.canLayAll0, Bool.and_true]
      decide +kernel
    · simp only [NestedKey.data, NestedKey.datas, PyData.depth, PyData.depthAll]; omega
end TT

namespace TT
open PySem L2

/-! ### the texts of trees, patterns, builds, by signs -/
def numTxt : NestedKey → List Nat
  | .num i => TL.numL i.toNat
  | _ => []
def tipTxt : List NestedKey → List Nat
  | [.text w] => if w = "any" then [63] else [46]
  | [_, .num s, .tup ps] => TL.numL s.toNat ++ 58 :: TL.joinL [46] (ps.map numTxt)
  | _ => []
mutual
def txt : Ge → List Nat
  | .tip ks => tipTxt ks
  | .node l [] => TL.tl l
  | .node l (g :: gs) => TL.tl l ++ 40 :: TL.joinL [44] (txt g :: txts gs) ++ [41]
def txts : List Ge → List (List Nat)
  | [] => []
  | g :: gs => txt g :: txts gs
end
theorem txts_map : ∀ gs : List Ge, txts gs = gs.map txt
  | [] => by simp [txts]
  | g :: gs => by rw [txts, txts_map gs, List.map_cons]
theorem txt_node (l : Str) {gs : List Ge} (h : gs ≠ []) : txt (.node l gs) = TL.tl l ++ 40 :: TL.joinL [44] (txts gs) ++ [41] := by
  cases gs with
  | nil => exact absurd rfl h
  | cons g gs => simp only [txt, txts]
theorem txt_leaf (l : Str) : txt (.node l []) = TL.tl l := by simp only [txt]
theorem joinL_cons (S p : List Nat) {qs : List (List Nat)} (h : qs ≠ []) : TL.joinL S (p :: qs) = p ++ (S ++ TL.joinL S qs) := by
  cases qs with
  | nil => exact absurd rfl h
  | cons q r => rfl
theorem isL_len {l : Str} (h : isL l) : (TL.tl l).length = 1 := by
  obtain ⟨c, _, _, rfl⟩ := h
  rfl
theorem joinL_len (S : List Nat) : ∀ ps : List (List Nat), (TL.joinL S ps).length + (if ps = [] then 0 else S.length) = (ps.map List.length).sum + ps.length * S.length
  | [] => by simp [TL.joinL]
  | [p] => by simp [TL.joinL]
  | p :: q :: r => by
    have ih := joinL_len S (q :: r)
    rw [joinL_cons S p (by simp)]
    simp only [if_neg (List.cons_ne_nil _ _)] at ih ⊢
    simp only [List.length_append, List.map_cons, List.sum_cons, List.length_cons, Nat.add_mul, Nat.one_mul] at ih ⊢
    omega
mutual
theorem txt_len {T : List NestedKey → Prop} (hT : ∀ ks, T ks → (tipTxt ks).length ≤ 5) : ∀ g : Ge, Wf T g → (txt g).length + 1 ≤ 6 * g.size
  | .tip ks, h => by
    simp only [Wf] at h
    have := hT ks h
    simp only [txt, Ge.size]; omega
  | .node l [], h => by
    simp only [Wf] at h
    simp only [txt, Ge.size, isL_len h.1]; omega
  | .node l (g :: gs), h => by
    have w := h
    simp only [Wf] at w
    have q := txts_len hT (g :: gs) w.2.2
    have e := joinL_len [44] (txts (g :: gs))
    rw [if_neg (by simp [txts])] at e
    rw [txt_node l (List.cons_ne_nil g gs)]
    simp only [List.length_append, List.length_cons, List.length_nil, isL_len w.1, Ge.size] at e ⊢
    rw [txts_map, List.length_map] at e
    rw [txts_map] at q ⊢
    omega
theorem txts_len {T : List NestedKey → Prop} (hT : ∀ ks, T ks → (tipTxt ks).length ≤ 5) : ∀ gs : List Ge, WfAll T gs → ((txts gs).map List.length).sum + gs.length ≤ 6 * Ge.sizes gs
  | [], _ => by simp [txts, Ge.sizes]
  | g :: gs, h => by
    simp only [WfAll] at h
    have a := txt_len hT g h.1
    have b := txts_len hT gs h.2
    simp only [txts, List.map_cons, List.sum_cons, List.length_cons, Ge.sizes]
    omega
end

/-! ### reading, by small steps -/
def isF (c : Nat) : Bool := decide (97 ≤ c) && decide (c ≤ 102)
inductive Cfg where
  | E (L : List Str) (R : List (List Ge)) (r : List Nat)
  | A (L : List Str) (R : List (List Ge)) (r : List Nat)
inductive Rs where
  | ok (g : Ge)
  | bad (left : Nat)
inductive Nx where
  | go (c : Cfg)
  | done (r : Rs)
/-- what a part that has no brackets is: the part, how many signs -/
def endd (br : List Nat → Option (Ge × Nat)) : List Nat → Option (Ge × Nat)
  | c :: r => if isF c then some (.node ⟨#[c]⟩ [], 1) else br (c :: r)
  | [] => br []
def opn : List Nat → Option (Nat × List Nat)
  | c :: 40 :: r => if isF c then some (c, r) else none
  | _ => none
def stp (br : List Nat → Option (Ge × Nat)) : Cfg → Nx
  | .E L R r => match opn r with
    | some (c, r') => .go (.E (⟨#[c]⟩ :: L) ([] :: R) r')
    | none => match R, endd br r with
      | t :: R, some (g, m) => .go (.A L ((t ++ [g]) :: R) (r.drop m))
      | _, _ => .done (.bad r.length)
  | .A (l :: L) (k :: t :: R) (41 :: r) => .go (.A L ((t ++ [.node l k]) :: R) r)
  | .A [] ((g :: _) :: _) [] => .done (.ok g)
  | .A (l :: L) R (44 :: r) => .go (.E (l :: L) R r)
  | .A _ _ r => .done (.bad r.length)
def fin (br : List Nat → Option (Ge × Nat)) : Nat → Cfg → Option Rs
  | 0, _ => none
  | n + 1, c => match stp br c with
    | .go c' => fin br n c'
    | .done r => some r
section
variable {br : List Nat → Option (Ge × Nat)}
theorem stp_open {L : List Str} {R : List (List Ge)} {c : Nat} {r : List Nat} (h : isF c = true) : stp br (.E L R (c :: 40 :: r)) = .go (.E (⟨#[c]⟩ :: L) ([] :: R) r) := by simp only [stp, opn, if_pos h]
/-- no bracket is opened here -/
def noOpen (r : List Nat) : Prop := ∀ c r', r = c :: 40 :: r' → isF c = false
theorem opn_none {r : List Nat} (h : noOpen r) : opn r = none := by
  unfold opn
  split
  · rename_i c r'
    rw [h c r' rfl]
    rfl
  · rfl
theorem stp_endd {L : List Str} {t : List Ge} {R : List (List Ge)} {r : List Nat} (h : noOpen r) : stp br (.E L (t :: R) r) = match endd br r with
    | some (g, m) => .go (.A L ((t ++ [g]) :: R) (r.drop m))
    | none => .done (.bad r.length) := by
  simp only [stp, opn_none h]
  cases endd br r <;> rfl
theorem stp_shut {L : List Str} {l : Str} {k t : List Ge} {R : List (List Ge)} {r : List Nat} : stp br (.A (l :: L) (k :: t :: R) (41 :: r)) = .go (.A L ((t ++ [.node l k]) :: R) r) := by simp only [stp]
theorem stp_comma {L : List Str} {l : Str} {R : List (List Ge)} {r : List Nat} : stp br (.A (l :: L) R (44 :: r)) = .go (.E (l :: L) R r) := by
  cases R with
  | nil => simp only [stp]
  | cons k R => cases R <;> simp only [stp]
theorem stp_end {g : Ge} {k : List Ge} {R : List (List Ge)} : stp br (.A [] ((g :: k) :: R) []) = .done (.ok g) := by simp only [stp]
theorem stp_late {R : List (List Ge)} {c : Nat} {r : List Nat} : stp br (.A [] R (c :: r)) = .done (.bad (c :: r).length) := by
  cases R with
  | nil => simp only [stp]
  | cons k R => simp only [stp]
/-- neither a comma nor a bracket -/
theorem stp_else {L : List Str} {l : Str} {R : List (List Ge)} {r : List Nat} (h1 : ∀ r', r ≠ 41 :: r') (h2 : ∀ r', r ≠ 44 :: r') : stp br (.A (l :: L) R r) = .done (.bad r.length) := by
  rw [stp]
  · intro l' L' k t R' r' _ _ e; exact h1 r' e
  · intro g k R' e; cases e
  · intro l' L' r' _ e; exact h2 r' e
end
/-! ### a text that is written is read -/
inductive Goes (br : List Nat → Option (Ge × Nat)) : Nat → Cfg → Cfg → Prop
  | refl (c : Cfg) : Goes br 0 c c
  | step {c d e : Cfg} {n : Nat} : stp br c = .go d → Goes br n d e → Goes br (n + 1) c e
theorem Goes.trans {br : List Nat → Option (Ge × Nat)} {m n : Nat} {c d e : Cfg} (a : Goes br m c d) (b : Goes br n d e) : Goes br (m + n) c e := by
  induction a with
  | refl => rw [Nat.zero_add]; exact b
  | step h _ ih => rw [Nat.add_right_comm]; exact .step h (ih b)
theorem Goes.fin {br : List Nat → Option (Ge × Nat)} {m n : Nat} {c d : Cfg} {r : Rs} (a : Goes br m c d) (h : fin br n d = some r) : TT.fin br (m + n) c = some r := by
  induction a with
  | refl => rw [Nat.zero_add]; exact h
  | step e _ ih =>
    rw [Nat.add_right_comm]
    simp only [TT.fin, e]
    exact ih h
/-- what may follow a part: nothing, a comma, a bracket's end -/
def Behind : List Nat → Prop
  | [] => True
  | c :: _ => c = 44 ∨ c = 41
/-- the tips are read back, whatever stands behind -/
def Reads (br : List Nat → Option (Ge × Nat)) (T : List NestedKey → Prop) : Prop :=
  ∀ ks r, T ks → Behind r → br (tipTxt ks ++ r) = some (.tip ks, (tipTxt ks).length) ∧ noOpen (tipTxt ks ++ r) ∧ ∃ c q, tipTxt ks = c :: q ∧ isF c = false
theorem isL_sign {l : Str} (h : isL l) : ∃ c, l = ⟨#[c]⟩ ∧ TL.tl l = [c] ∧ isF c = true := by
  obtain ⟨c, h1, h2, rfl⟩ := h
  exact ⟨c, rfl, rfl, by simp [isF, h1, h2]⟩
mutual
theorem goes_txt {br : List Nat → Option (Ge × Nat)} {T : List NestedKey → Prop} (hb : Reads br T) : ∀ (g : Ge) (L : List Str) (t : List Ge) (R : List (List Ge)) (r : List Nat), Wf T g → Behind r →
    ∃ n, Goes br n (.E L (t :: R) (txt g ++ r)) (.A L ((t ++ [g]) :: R) r)
  | .tip ks, L, t, R, r, h, hr => by
    simp only [Wf] at h
    obtain ⟨h1, h2, c, q, e, hc⟩ := hb ks r h hr
    refine ⟨1, .step ?_ (.refl _)⟩
    simp only [txt]
    rw [stp_endd h2]
    have e2 : endd br (tipTxt ks ++ r) = some (.tip ks, (tipTxt ks).length) := by
      rw [← h1, e]
      simp only [List.cons_append, endd, hc, Bool.false_eq_true, if_false]
    rw [e2]
    simp
  | .node l [], L, t, R, r, h, hr => by
    simp only [Wf] at h
    obtain ⟨c, rfl, e, hc⟩ := isL_sign h.1
    refine ⟨1, .step ?_ (.refl _)⟩
    rw [txt_leaf, e]
    have no : noOpen ([c] ++ r) := by
      intro c' r' e
      injection e with e1 e2
      subst e2
      rcases hr with z | z <;> cases z
    rw [stp_endd no]
    simp [endd, hc]
  | .node l (g :: gs), L, t, R, r, h, hr => by
    simp only [Wf] at h
    obtain ⟨c, rfl, e, hc⟩ := isL_sign h.1
    obtain ⟨n, hg⟩ := goes_txts hb (g :: gs) ⟨#[c]⟩ L [] (t :: R) (41 :: r) (by simp) h.2.2 (.inr rfl)
    refine ⟨1 + (n + 1), ?_⟩
    have e1 : txt (.node ⟨#[c]⟩ (g :: gs)) ++ r = c :: 40 :: (TL.joinL [44] (txts (g :: gs)) ++ 41 :: r) := by
      rw [txt_node _ (List.cons_ne_nil g gs), e]
      simp
    rw [e1]
    refine Goes.trans (m := 1) (.step (stp_open hc) (.refl _)) (Goes.trans hg (.step ?_ (.refl _)))
    rw [List.nil_append]
    exact stp_shut
theorem goes_txts {br : List Nat → Option (Ge × Nat)} {T : List NestedKey → Prop} (hb : Reads br T) : ∀ (gs : List Ge) (l : Str) (L : List Str) (t : List Ge) (R : List (List Ge)) (r : List Nat), gs ≠ [] → WfAll T gs → Behind r →
    ∃ n, Goes br n (.E (l :: L) (t :: R) (TL.joinL [44] (txts gs) ++ r)) (.A (l :: L) ((t ++ gs) :: R) r)
  | [], _, _, _, _, _, hn, _, _ => absurd rfl hn
  | [g], l, L, t, R, r, _, h, hr => by
    simp only [WfAll] at h
    simp only [txts, TL.joinL]
    exact goes_txt hb g (l :: L) t R r h.1 hr
  | g :: k :: gs, l, L, t, R, r, _, h, hr => by
    simp only [WfAll] at h
    obtain ⟨n1, h1⟩ := goes_txt hb g (l :: L) t R (44 :: (TL.joinL [44] (txts (k :: gs)) ++ r)) h.1 (.inl rfl)
    obtain ⟨n2, h2⟩ := goes_txts hb (k :: gs) l L (t ++ [g]) R r (by simp) (by simp only [WfAll]; exact h.2) hr
    refine ⟨n1 + (1 + n2), ?_⟩
    have e : TL.joinL [44] (txts (g :: k :: gs)) ++ r = txt g ++ 44 :: (TL.joinL [44] (txts (k :: gs)) ++ r) := by
      rw [txts, joinL_cons _ _ (by simp [txts])]
      simp
    rw [e]
    refine h1.trans (Goes.trans (m := 1) (.step stp_comma (.refl _)) ?_)
    have e3 : t ++ g :: k :: gs = t ++ [g] ++ k :: gs := by simp
    rw [e3]
    exact h2
end
theorem fin_txt {br : List Nat → Option (Ge × Nat)} {T : List NestedKey → Prop} (hb : Reads br T) {g : Ge} (h : Wf T g) : ∃ n, fin br n (.E [] [[]] (txt g)) = some (.ok g) := by
  obtain ⟨n, hg⟩ := goes_txt hb g [] [] [] [] h trivial
  rw [List.append_nil] at hg
  refine ⟨n + 1, hg.fin ?_⟩
  simp only [fin, List.nil_append]
  rw [stp_end]
/-- no tips at all -/
def brNone : List Nat → Option (Ge × Nat) := fun _ => none
theorem reads_none : Reads brNone NoTip := fun _ _ h => h.elim
end TT


namespace TT
open PySem PySem.Spec PyProof.Rows L2

/-! ### texts of values -/
def zt (l : List Nat) : Str := ⟨l.toArray⟩
theorem tl_zt (l : List Nat) : TL.tl (zt l) = l := rfl
theorem zt_of {z : Str} {l : List Nat} (h : TL.tl z = l) : z = zt l := TL.ext_tl (by rw [h, tl_zt])
theorem zt_len (l : List Nat) : (zt l).length = l.length := by rw [TL.len_tl, tl_zt]
theorem zt_app (l m : List Nat) : zt l ++ zt m = zt (l ++ m) := zt_of (by rw [TL.tl_append]; rfl)
theorem zt_join (S : List Nat) (ps : List (List Nat)) : PySem.Txt.join (zt S) (ps.map zt) = zt (TL.joinL S ps) := by
  apply zt_of
  rw [TL.join_eq, TL.tl_join, tl_zt, List.map_map]
  have e : ∀ qs : List (List Nat), qs.map (TL.tl ∘ zt) = qs := fun qs => by
    induction qs with
    | nil => rfl
    | cons q qs ih => rw [List.map_cons, ih]; rfl
  rw [e]
theorem zt_lens (ps : List (List Nat)) : ((ps.map zt).map (·.length)).sum = (ps.map List.length).sum := by
  rw [List.map_map]
  rfl
theorem isL_zt {l : Str} : l = zt (TL.tl l) := zt_of rfl

/-! ### tips: any, leaf, a do of figures -/
def PTip (ks : List NestedKey) : Prop := ks = kAny ∨ ks = kLeaf ∨ ∃ (s : Nat) (p : List Nat), ks = kDo s p ∧ s ≤ 9 ∧ (∀ n ∈ p, n ≤ 9) ∧ p.length ≤ 2
theorem nums_lay : ∀ p : List Nat, PyData.canLayAll0 (NestedKey.datas (p.map fun n => NestedKey.num (n : Nat))) = true ∧ PyData.depthAll (NestedKey.datas (p.map fun n => NestedKey.num (n : Nat))) = 0
  | [] => by simp [NestedKey.datas, PyData.canLayAll0, PyData.depthAll]
  | n :: p => by
    have q := nums_lay p
    simp only [List.map_cons, NestedKey.datas, NestedKey.data, PyData.canLayAll0, PyData.canLay0, PyData.depthAll, PyData.depth, q.1, q.2]
    decide
theorem ptip_lay : ∀ ks, PTip ks → PyData.canLayAll0 (NestedKey.datas ks) = true ∧ PyData.depthAll (NestedKey.datas ks) ≤ 1 := fun ks h => by
  rcases h with rfl | rfl | ⟨s, p, rfl, _, _, _⟩
  · exact patTip_lay _ (.inl rfl)
  · exact patTip_lay _ (.inr rfl)
  · have q := nums_lay p
    simp only [kDo, NestedKey.datas, NestedKey.data, PyData.canLayAll0, PyData.canLay0, PyData.depthAll, PyData.depth, q.1, q.2]
    constructor
    · decide +kernel
    · decide
theorem joinL_two (s : Nat) {p : List Nat} (h : p.length ≤ 2) (h9 : ∀ n ∈ p, n ≤ 9) : TL.joinL [46] ((p.map fun n => NestedKey.num (n : Nat)).map numTxt) = TL.joinL [46] (p.map fun n => [48 + n]) := by
  rw [List.map_map]
  congr 1
  refine List.map_congr_left fun n hn => ?_
  simp only [Function.comp, numTxt, Int.toNat_natCast]
  exact TL.numL_lt (by have := h9 n hn; omega)
theorem tip_do {s : Nat} {p : List Nat} (hs : s ≤ 9) (h : p.length ≤ 2) (h9 : ∀ n ∈ p, n ≤ 9) : tipTxt (kDo s p) = (48 + s) :: 58 :: TL.joinL [46] (p.map fun n => [48 + n]) := by
  simp only [kDo, tipTxt, Int.toNat_natCast]
  rw [TL.numL_lt (by omega), joinL_two s h h9]
  rfl
theorem ptip_len : ∀ ks, PTip ks → (tipTxt ks).length ≤ 5 := fun ks h => by
  rcases h with rfl | rfl | ⟨s, p, rfl, hs, h9, hl⟩
  · simp [tipTxt]
  · simp only [tipTxt]
    split <;> decide
  · rw [tip_do hs hl h9]
    match p, hl with
    | [], _ => simp [TL.joinL]
    | [a], _ => simp [TL.joinL]
    | [a, b], _ => simp [TL.joinL]
theorem nkKeys (s : Nat) (p : List Nat) : NestedKey.datas (kDo s p) = [.str "do", .int (s : Nat), .tuple (p.map fun n => PyData.int (n : Nat))] := by
  simp only [kDo, NestedKey.datas, NestedKey.data, numsData]

theorem num_zt {n : Nat} (h : n ≤ 9) : Str.ofString (toString ((n : Nat) : Int)) = zt [48 + n] := zt_of (by rw [TL.tl_num, TL.numL_lt (by omega)])
theorem log_small {n : Nat} (h : n ≤ 9) : ((n : Nat) : Int).natAbs.log2 < 1920 := by
  rw [Int.natAbs_natCast]
  have : n = 0 ∨ n = 1 ∨ n = 2 ∨ n = 3 ∨ n = 4 ∨ n = 5 ∨ n = 6 ∨ n = 7 ∨ n = 8 ∨ n = 9 := by omega
  rcases this with rfl | rfl | rfl | rfl | rfl | rfl | rfl | rfl | rfl | rfl <;> decide
section
variable {P : Program} {w : World} {K : PySem.W.Frag} {mg : Str → Option Value} {base : Heap} {f : Addr} {fd : FuncData}
def spPT (K : PySem.W.Frag) (n : Nat) : Sp := fun vs H Q _ => ∃ (v : V) (g : Ge), vs = [v] ∧ Dp K H v g.data ∧ Wf PTip g ∧ g.levels ≤ n ∧ g.levels ≤ 30 ∧ g.size ≤ 1000 ∧ ∀ H', Fr [] H H' → Q (.str (zt (txt g))) H'
theorem ok_ptext (F : Fun K "part_text" "part_text" s_part_text f fd) (T : Txt K mg) (mf : mg "part_text" = some (.ref f)) (bf : Binds K fd P_part_text []) :
    ∀ n : Nat, FnOk P w K mg base CX0 (n + 1) f fd P_part_text (spPT K n)
  | 0 => by
    have no : ∀ vs H Q E, ¬ spPT K 0 vs H Q E := fun vs H Q E h => by
      obtain ⟨v, g, _, _, _, h1, _⟩ := h
      have := g.levels_pos
      omega
    exact ⟨fun vs H Q E h => absurd h (no vs H Q E), fun A outer s H args us vs Q E _ _ _ _ h => absurd h (no vs H Q E)⟩
  | n + 1 => by
    have cpart_text : Callee P w K mg base (n + 1) "part_text" P_part_text (spPT K n) := ⟨f, fd, ok_ptext F T mf bf n, mf, F.kp, bf⟩
    refine F.ok sc_part_text (fun vs H Q E h => ?_) (fun cdv A outer s H vs Q E hr h => ?_)
    · obtain ⟨v, g, rfl, _⟩ := h
      rfl
    obtain ⟨v, g, rfl, hv, wf, lv, l30, sz, k⟩ := h
    have nd := (sc_part_text).nd
    have hu := hr.units
    obtain ⟨aA, mA, sA⟩ := T.ANY
    obtain ⟨aF, mF, sF⟩ := T.LEAF
    refine ⟨_, pss_cons (ps_if (pt_cmpR (op_eqK K hu) (pv 0) (pe_globR mA) (nomark _))
    (pss_one (ps_ret pe_str))
    (pss_nil))
  (pss_cons (ps_if (pt_cmpR (op_eqK K hu) (pv 0) (pe_globR mF) (nomark _))
    (pss_one (ps_ret pe_str))
    (pss_nil))
  (pss_cons (ps_if (pt_cmpR op_eq (pe_ix (ix_tupK K) (pv 0) pe_int (fun _ _ => rfl)) pe_str (nomark _))
    (pss_cons (ps_asg (pv 0) (pg_tupK K rfl (pgs_cons (pg_name (i := 1) nd rfl (Or.inl rfl)) (pgs_cons (pg_name (i := 2) nd rfl (Or.inl rfl)) (pgs_cons (pg_name (i := 3) nd rfl (Or.inl rfl)) pgs_nil)))))
    (pss_one (ps_ret (pe_op op_add_str (pe_joined (.cons (pe_fmt (pv 2)) (.cons pe_str .nil))) (pe_joinK K pe_str (pe_lc (own := [("number", 6)]) (g := gName 6) (tt := tYes) (by rfl) nd (pi_tupK K (pv 3)) (blkOk_by (N := N_part_text) (sc := defScope s_part_text) (own := [("number", 6)]) (by decide +kernel)) (fun _ _ _ _ _ => (pg_name (i := 6) nd rfl (Or.inl rfl))) (fun _ _ _ _ _ => pts_nil) (fun _ _ _ _ _ => (pe_callTy call_str_int (by rfl) T.str_ (by decide +kernel) (pa_cons (pv 6) pa_nil)))))))))
    (pss_nil))
  (pss_cons (ps_asg (pv 0) (pg_tupK K rfl (pgs_cons (pg_name (i := 4) nd rfl (Or.inl rfl)) (pgs_cons (pg_name (i := 5) nd rfl (Or.inl rfl)) pgs_nil))))
  (pss_one (ps_ret (pe_ifExp (pt_truthK K (pv 5)) (pe_op op_add_str (pe_op op_add_str (pe_op op_add_str (pv 4) pe_str) (pe_joinK K pe_str (pe_lc (own := [("kid", 7)]) (g := gName 7) (tt := tYes) (by rfl) nd (pi_tupK K (pv 5)) (blkOk_by (N := N_part_text) (sc := defScope s_part_text) (own := [("kid", 7)]) (by decide +kernel)) (fun _ _ _ _ _ => (pg_name (i := 7) nd rfl (Or.inl rfl))) (fun _ _ _ _ _ => pts_nil) (fun _ _ _ _ _ => (pe_own cpart_text hr (pa_cons (pv 7) pa_nil)))))) pe_str) (pv 4))))))), ?_⟩
    have dA : Dp K H (.ref aA) gAny.data := dp_word_of (sA H)
    have dF : Dp K H (.ref aF) gLeaf.data := dp_word_of (sF H)
    have shA : SeqAt.shaped gAny.data = true := shaped_ge patTip_lay (T := PatTip) (by simp only [Wf]; exact .inl rfl) (by simp only [Ge.levels]; decide)
    have shF : SeqAt.shaped gLeaf.data = true := shaped_ge patTip_lay (T := PatTip) (by simp only [Wf]; exact .inr rfl) (by simp only [Ge.levels]; decide)
    have shp := shaped_ge ptip_lay wf l30
    refine ⟨_, rfl, g.data, gAny.data, hv, dA, shp, shA, _, rfl, ?_⟩
    rw [eqv_ge]
    refine ite2 (fun c => ?_) (fun c1 => ?_)
    · have e := of_decide_eq_true c
      cases g with
      | node l gs =>
        simp only [Ge.key] at e
        injection e with e
        injection e with _ e
        cases e
      | tip ks =>
        simp only [Ge.key] at e
        injection e with e
        subst e
        have := k H (Fr.refl _ _)
        simp only [txt, tipTxt, if_true] at this
        exact this
    refine ⟨_, rfl, g.data, gLeaf.data, hv, dF, shp, shF, _, rfl, ?_⟩
    rw [eqv_ge]
    refine ite2 (fun c => ?_) (fun c2 => ?_)
    · have e := of_decide_eq_true c
      cases g with
      | node l gs =>
        simp only [Ge.key] at e
        injection e with e
        injection e with _ e
        cases e
      | tip ks =>
        simp only [Ge.key] at e
        injection e with e
        subst e
        have q := k H (Fr.refl _ _)
        have : txt (.tip kLeaf) = [46] := by
          simp only [txt, tipTxt]
          rw [if_neg (by decide +kernel)]
        rw [this] at q
        exact q
    cases g with
    | tip ks =>
      simp only [Wf] at wf
      rcases wf with rfl | rfl | ⟨s, p, rfl, hs9, h9, hl⟩
      · exact absurd (decide_eq_true rfl) c1
      · exact absurd (decide_eq_true rfl) c2
      obtain ⟨a, us, rfl, hs, hd⟩ := dp_tip hv
      rw [nkKeys] at hd
      obtain ⟨x1, x2, x3, rfl, d1, d2, d3⟩ := dpAll_3 hd
      cases dp_str d1
      cases dp_int d2
      obtain ⟨b, ps, rfl, hb, hp⟩ := dp_tuple d3
      refine ⟨_, rfl, a, _, _, .str "do", rfl, rfl, hs, rfl, rfl, _, rfl, ?_⟩
      refine iteT ⟨_, rfl, a, _, rfl, hs, rfl, _, _, rfl, _, _, rfl, _, _, rfl, rfl, ?_⟩
      refine ⟨_, rfl, .inr ⟨_, rfl, log_small hs9, ?_⟩⟩
      rw [num_zt hs9]
      refine ⟨_, rfl, ?_, _, rfl, ?_, ?_⟩
      · rw [sizeLine_eq]; show (zt [48 + s]).length ≤ _; rw [zt_len]; show 1 ≤ _; decide
      · rw [sizeLine_eq]; show (zt [48 + s, 58]).length ≤ _; rw [zt_len]; show 2 ≤ _; decide
      have lp : ps.length = p.length := by rw [DpAll.length hp, List.length_map]
      refine ⟨⟨_, rfl⟩, _, rfl, b, rfl, ⟨_, hb⟩, fun D hD => ?_⟩
      refine lc_tup (K := K) (a := b) (xs := ps) (fun i H' => Fr [] H H' ∧ H' D = some (.lst ((((p.take i).map fun n => [48 + n]).map zt).map V.str))) ⟨Fr.new hD, by rw [upd_same]; simp⟩ (fun i H' _ p => p.1.sqT hb) ?_ ?_
      · rintro i x H' hx ⟨ff, hDi⟩
        obtain ⟨d, hdi, hdx⟩ := DpAll.get hp hx
        rw [List.getElem?_map] at hdi
        obtain ⟨m, hm, rfl⟩ := Option.map_eq_some_iff.mp hdi
        cases dp_int hdx
        have m9 := h9 m (List.mem_of_getElem? hm)
        refine ⟨rfl, _, rfl, _, rfl, log_small m9, ?_⟩
        rw [num_zt m9]
        refine ⟨_, hDi, ?_, ff.mut hD, ?_⟩
        · rw [List.length_map, List.length_map, List.length_map]
          exact small1000 (by rw [List.length_take]; omega)
        · rw [upd_same, take_succ' hm]
          simp
      · rintro H' ⟨ff, hDi⟩
        rw [lp, List.take_length] at hDi
        refine ⟨_, D, (p.map fun n => [48 + n]).map zt, rfl, rfl, .inl (SqL.of hDi), ?_, ?_⟩
        · rw [zt_lens, List.map_map, List.length_map, List.length_map]
          have e : ∀ q : List Nat, (q.map (List.length ∘ fun n => [48 + n])).sum = q.length := fun q => by
            induction q with
            | nil => rfl
            | cons a q ih => simp only [List.map_cons, List.sum_cons, ih, List.length_cons, Function.comp, List.length_nil]; omega
          rw [e]
          show _ + p.length * 1 ≤ _
          omega
        · have ej : PySem.Txt.join (Str.ofString ".") ((p.map fun n => [48 + n]).map zt) = zt (TL.joinL [46] (p.map fun n => [48 + n])) := zt_join [46] _
          have jl := joinL_len [46] (p.map fun n => [48 + n])
          have e2 : txt (.tip (kDo s p)) = (48 + s) :: 58 :: TL.joinL [46] (p.map fun n => [48 + n]) := by
            rw [txt, tip_do hs9 hl h9]
          refine ⟨_, _, rfl, rfl, ?_, ?_⟩
          · rw [ej, zt_len, sizeLine_eq]
            have : (p.map fun n => [48 + n]).length ≤ 2 := by rw [List.length_map]; exact hl
            have e3 : ((p.map fun n => [48 + n]).map List.length).sum ≤ 2 := by
              match p, hl with
              | [], _ => decide
              | [a], _ => show 1 + 0 ≤ 2; decide
              | [a, b], _ => show 1 + (1 + 0) ≤ 2; decide
            simp only [List.length_singleton] at jl
            show (zt [48 + s, 58]).length + _ ≤ _
            rw [zt_len]
            simp only [List.length_cons, List.length_nil]
            omega
          · rw [ej]
            have q := k H' ff
            rw [e2] at q
            have e4 : zt [48 + s, 58] ++ zt (TL.joinL [46] (p.map fun n => [48 + n])) = zt ((48 + s) :: 58 :: TL.joinL [46] (p.map fun n => [48 + n])) := zt_app _ _
            rw [← e4] at q
            exact q
    | node l gs =>
      obtain ⟨a, b, us, rfl, hs, hb, hd⟩ := dp_node hv
      have wn := wf
      simp only [Wf] at wn
      simp only [Ge.levels] at lv l30
      simp only [Ge.size] at sz
      have eu : us.length = gs.length := ges_len hd
      obtain ⟨cl, rfl, el, _⟩ := isL_sign wn.1
      refine ⟨_, rfl, a, _, _, .str ⟨#[cl]⟩, rfl, rfl, hs, rfl, rfl, _, rfl, ?_⟩
      refine ite2 (fun c => absurd (of_decide_eq_true c) (isL_do wn.1)) (fun _ => ?_)
      refine ⟨_, rfl, a, _, rfl, hs, rfl, _, _, rfl, _, _, rfl, rfl, ?_⟩
      refine ⟨_, rfl, !us.isEmpty, .inr (.inl ⟨us, hb, rfl⟩), ?_⟩
      refine ite2 (fun c => ?_) (fun c => ?_)
      · have gne : gs ≠ [] := by
          intro e
          subst e
          cases us with
          | nil => simp at c
          | cons _ _ => simp at eu
        have h3 := wn.2.1
        have tlen := txts_len ptip_len gs wn.2.2
        have jl := joinL_len [44] (txts gs)
        rw [if_neg (by intro e; rw [txts_map] at e; exact gne (List.map_eq_nil_iff.mp e))] at jl
        simp only [List.length_singleton] at jl
        have tl2 : (txts gs).length = gs.length := by rw [txts_map, List.length_map]
        refine ⟨_, rfl, _, _, rfl, rfl, (by show 1 + 1 ≤ sizeLine; decide), ⟨_, rfl⟩, _, rfl, b, rfl, ⟨_, hb⟩, fun D hD => ?_⟩
        refine lc_tup (K := K) (a := b) (xs := us) (fun i H' => Fr [] H H' ∧ H' D = some (.lst (((txts (gs.take i)).map zt).map V.str))) ⟨Fr.new hD, by rw [upd_same]; simp [txts]⟩ (fun i H' _ p => p.1.sqT hb) ?_ ?_
        · rintro i x H' hx ⟨ff, hDi⟩
          obtain ⟨g, hg, hgx⟩ := ges_get hd hx
          have hmem : g ∈ gs := List.mem_of_getElem? hg
          have hlv := Ge.levels_mem hmem
          have hsz : g.size ≤ Ge.sizes gs := by
            have q := congrArg Ge.sizes (List.take_append_drop i gs)
            rw [Ge.sizes_append, List.drop_eq_getElem_cons (List.getElem?_eq_some_iff.mp hg).1] at q
            simp only [Ge.sizes] at q
            have e : gs[i]'((List.getElem?_eq_some_iff.mp hg).1) = g := (List.getElem?_eq_some_iff.mp hg).2
            rw [e] at q
            omega
          refine ⟨rfl, _, rfl, x, g, rfl, ff.ge hgx, wn.2.2.mem hmem, by omega, by omega, by omega, fun H2 f2 => ?_⟩
          have hD2 := f2.keep D _ (by simp) hDi
          refine ⟨_, hD2, ?_, ((ff.trans f2).mut hD), ?_⟩
          · rw [List.length_map, List.length_map, txts_map, List.length_map]
            exact small1000 (by rw [List.length_take]; omega)
          · rw [upd_same, take_succ' hg, txts_map, txts_map]
            simp
        · rintro H' ⟨ff, hDi⟩
          rw [eu, List.take_length] at hDi
          refine ⟨_, D, (txts gs).map zt, rfl, rfl, .inl (SqL.of hDi), ?_, ?_⟩
          · rw [zt_lens, List.length_map, tl2]
            show _ + gs.length * 1 ≤ _
            omega
          · have ej : PySem.Txt.join (Str.ofString ",") ((txts gs).map zt) = zt (TL.joinL [44] (txts gs)) := zt_join [44] (txts gs)
            refine ⟨_, _, rfl, rfl, ?_, _, _, rfl, rfl, ?_, ?_⟩
            · rw [ej, zt_len, TL.len_tl, TL.tl_append, sizeLine_eq]
              show 2 + _ ≤ _
              omega
            · rw [ej, TL.len_tl, TL.tl_append, TL.tl_append, tl_zt, sizeLine_eq]
              show ([cl] ++ [40] ++ TL.joinL [44] (txts gs)).length + 1 ≤ _
              simp only [List.length_append, List.length_singleton]
              omega
            · rw [ej]
              have e : (⟨#[cl]⟩ : Str) ++ Str.ofString "(" ++ zt (TL.joinL [44] (txts gs)) ++ Str.ofString ")" = zt (txt (.node ⟨#[cl]⟩ gs)) := by
                apply zt_of
                rw [TL.tl_append, TL.tl_append, TL.tl_append, txt_node _ gne, tl_zt]
                show [cl] ++ [40] ++ TL.joinL [44] (txts gs) ++ [41] = [cl] ++ 40 :: TL.joinL [44] (txts gs) ++ [41]
                simp
              have q := k H' ff
              rw [← e] at q
              exact q
      · have gne : gs = [] := by
          cases us with
          | nil => exact List.eq_nil_of_length_eq_zero eu.symm
          | cons u us => exact absurd rfl c
        subst gne
        have q := k H (Fr.refl _ _)
        rw [txt_leaf, ← isL_zt] at q
        exact ⟨_, rfl, q⟩
end
end TT

namespace TT
open PySem PySem.Spec PyProof.Rows L2

theorem small20k {n : Nat} (h : n ≤ 100000) : n < sizeLine := by
  rw [sizeLine_eq]; omega
theorem iteT' {c : Bool} {A B : Prop} (hc : c = true) (h : A) : if c = true then A else B := by rw [if_pos hc]; exact h
theorem iteF' {c : Bool} {A B : Prop} (hc : ¬ c = true) (h : B) : if c = true then A else B := by rw [if_neg hc]; exact h
/-! ### slices and signs of a text -/
theorem tl_cut (z : Str) (i j : Nat) : TL.tl (cutS z (some (i : Int)) (some (j : Int))) = ((TL.tl z).drop i).take (j - i) := by
  show (z.cps.toList.drop (HT.sIx z.length 0 (some (i : Int)))).take (HT.sIx z.length z.length (some (j : Int)) - HT.sIx z.length 0 (some (i : Int))) = _
  rw [HT.sIx_nat, HT.sIx_nat]
  have e : z.length = z.cps.toList.length := TL.len_tl z
  generalize hl : z.cps.toList = l at e
  show _ = (List.drop i (TL.tl z)).take (j - i)
  have e2 : TL.tl z = l := hl
  rw [e2, e]
  by_cases h : i ≤ l.length
  · rw [Nat.min_eq_left h]
    by_cases h2 : j ≤ l.length
    · rw [Nat.min_eq_left h2]
    · rw [Nat.min_eq_right (show l.length ≤ j by omega), List.take_of_length_le (by rw [List.length_drop]; omega), List.take_of_length_le (by rw [List.length_drop]; omega)]
  · rw [Nat.min_eq_right (show l.length ≤ i by omega), List.drop_eq_nil_of_le (Nat.le_refl _), List.drop_eq_nil_of_le (show l.length ≤ i by omega), List.take_nil, List.take_nil]
theorem cut_1 (z : Str) (i : Nat) : cutS z (some (i : Int)) (some ((i : Int) + 1)) = ⟨(((TL.tl z).drop i).take 1).toArray⟩ := by
  apply TL.ext_tl
  have := tl_cut z i (i + 1)
  rw [show i + 1 - i = 1 by omega] at this
  exact this
theorem cut_2 (z : Str) (i : Nat) : cutS z (some ((i : Int) + 1)) (some ((i : Int) + 2)) = ⟨((((TL.tl z).drop i).drop 1).take 1).toArray⟩ := by
  apply TL.ext_tl
  have := tl_cut z (i + 1) (i + 2)
  rw [show i + 2 - (i + 1) = 1 by omega] at this
  rw [List.drop_drop]
  exact this
abbrev sL6 : List V := [.str "a", .str "b", .str "c", .str "d", .str "e", .str "f"]
theorem inV_str (x : Str) : inV (.str x) sL6 = decide (x ∈ letters6) := by
  have e : ∀ y : Str, eqV (.str y) (.str x) = decide (y = x) := fun y => by
    first
      | rfl
      | simp [eqV]
  simp only [inV, sL6, List.any_cons, List.any_nil, e, letters6, List.mem_cons, List.not_mem_nil, or_false]
  by_cases h1 : x = "a"
  · simp [h1]
  by_cases h2 : x = "b"
  · simp [h2]
  by_cases h3 : x = "c"
  · simp [h3]
  by_cases h4 : x = "d"
  · simp [h4]
  by_cases h5 : x = "e"
  · simp [h5]
  by_cases h6 : x = "f"
  · simp [h6]
  simp [h1, h2, h3, h4, h5, h6, Ne.symm h1, Ne.symm h2, Ne.symm h3, Ne.symm h4, Ne.symm h5, Ne.symm h6, eq_comm]
def headF : List Nat → Bool
  | c :: _ => isF c
  | [] => false
def headIs (d : Nat) : List Nat → Bool
  | c :: _ => decide (c = d)
  | [] => false
theorem inV_sign (r : List Nat) : inV (.str ⟨(r.take 1).toArray⟩) sL6 = headF r := by
  rw [inV_str]
  cases r with
  | nil => exact decide_eq_false (by decide +kernel)
  | cons c r =>
    show decide ((⟨#[c]⟩ : Str) ∈ letters6) = isF c
    by_cases h : isF c = true
    · rw [h]
      simp only [isF, Bool.and_eq_true, decide_eq_true_eq] at h
      exact decide_eq_true (isL_mem ⟨c, h.1, h.2, rfl⟩)
    · rw [Bool.not_eq_true] at h
      rw [h]
      refine decide_eq_false fun m => ?_
      obtain ⟨d, h1, h2, e⟩ := isL_of m
      have e2 : [c] = [d] := congrArg TL.tl e
      injection e2 with e2
      subst e2
      simp [isF, h1, h2] at h
theorem sign_eq (r : List Nat) (d : Nat) : decide (V.str ⟨(r.take 1).toArray⟩ = V.str ⟨#[d]⟩) = headIs d r := by
  cases r with
  | nil =>
    refine decide_eq_false fun e => ?_
    injection e with e
    have e2 : ([] : List Nat) = [d] := congrArg TL.tl e
    cases e2
  | cons c r =>
    show decide (V.str ⟨#[c]⟩ = V.str ⟨#[d]⟩) = decide (c = d)
    by_cases h : c = d
    · subst h; simp
    · rw [decide_eq_false h]
      refine decide_eq_false fun e => h ?_
      injection e with e
      have e2 : [c] = [d] := congrArg TL.tl e
      injection e2

/-! ### what a reading holds in the heap: labels whose brackets are open, rows of kids -/
inductive RowsP (K : PySem.W.Frag) (H0 H : Hp) (la ra : Addr) : List Addr → List (List Ge) → Prop
  | nil : RowsP K H0 H la ra [] []
  | cons {a : Addr} {As : List Addr} {k : List Ge} {R : List (List Ge)} {us : List V} (n : a ∉ As) (h1 : a ≠ la) (h2 : a ≠ ra) (h0 : H0 a = none) (h : H a = some (.lst us)) (hd : DpAll K H us (Ge.datas k)) (r : RowsP K H0 H la ra As R) : RowsP K H0 H la ra (a :: As) (k :: R)
theorem RowsP.fr {K : PySem.W.Frag} {H0 H H' : Hp} {la ra : Addr} {S : List Addr} (f : Fr S H H') : ∀ {As : List Addr} {R : List (List Ge)}, RowsP K H0 H la ra As R → (∀ a ∈ As, a ∉ S) → RowsP K H0 H' la ra As R
  | _, _, .nil, _ => .nil
  | _, _, .cons n h1 h2 h0 h hd r, hs => .cons n h1 h2 h0 (f.keep _ _ (hs _ List.mem_cons_self) h) (f.ges hd) (RowsP.fr f r fun a ha => hs a (List.mem_cons_of_mem _ ha))
theorem RowsP.ne {K : PySem.W.Frag} {H0 H : Hp} {la ra : Addr} : ∀ {As : List Addr} {R : List (List Ge)}, RowsP K H0 H la ra As R → ∀ a ∈ As, a ≠ la ∧ a ≠ ra ∧ H0 a = none ∧ ∃ us, H a = some (.lst us)
  | _, _, .nil, _, h => by cases h
  | _, _, .cons n h1 h2 h0 h hd r, a, ha => by
    rcases List.mem_cons.mp ha with rfl | ha
    · exact ⟨h1, h2, h0, _, h⟩
    · exact r.ne a ha
theorem RowsP.len {K : PySem.W.Frag} {H0 H : Hp} {la ra : Addr} : ∀ {As : List Addr} {R : List (List Ge)}, RowsP K H0 H la ra As R → As.length = R.length
  | _, _, .nil => rfl
  | _, _, .cons _ _ _ _ _ _ r => by rw [List.length_cons, List.length_cons, r.len]
structure Mach (K : PySem.W.Frag) (H0 H : Hp) (la ra : Addr) (L : List Str) (R : List (List Ge)) : Prop where
  fr : Fr [] H0 H
  la0 : H0 la = none
  ra0 : H0 ra = none
  ne : la ≠ ra
  hl : H la = some (.lst (L.reverse.map V.str))
  rows : ∃ As : List Addr, H ra = some (.lst (As.reverse.map V.ref)) ∧ RowsP K H0 H la ra As R
section
variable {K : PySem.W.Frag} {H0 H H' : Hp} {la ra : Addr} {L : List Str} {R : List (List Ge)}
theorem Mach.to (m : Mach K H0 H la ra L R) (f : Fr [] H H') : Mach K H0 H' la ra L R := by
  obtain ⟨As, h1, h2⟩ := m.rows
  exact ⟨m.fr.trans f, m.la0, m.ra0, m.ne, f.keep _ _ (by simp) m.hl, As, f.keep _ _ (by simp) h1, h2.fr f fun _ _ => by simp⟩
/-- a bracket is opened -/
theorem mach_open {As : List Addr} {p : Addr} {l : Str} (m : Mach K H0 H la ra L R) (hr : H ra = some (.lst (As.reverse.map V.ref))) (rw_ : RowsP K H0 H la ra As R)
    (hp : upd H la (.lst (L.reverse.map V.str ++ [.str l])) p = none) :
    Mach K H0 (upd (upd (upd H la (.lst (L.reverse.map V.str ++ [.str l]))) p (.lst [])) ra (.lst (As.reverse.map V.ref ++ [.ref p]))) la ra (l :: L) ([] :: R) := by
  have npl : p ≠ la := fun e => by rw [e, upd_same] at hp; cases hp
  have hp0 : H p = none := by rw [upd_ne npl] at hp; exact hp
  have npr : p ≠ ra := fun e => by rw [e, hr] at hp0; cases hp0
  have f1 : Fr [la] H (upd H la (.lst (L.reverse.map V.str ++ [.str l]))) := Fr.lst m.hl (by simp)
  have f2 : Fr [] (upd H la (.lst (L.reverse.map V.str ++ [.str l]))) (upd (upd H la (.lst (L.reverse.map V.str ++ [.str l]))) p (.lst [])) := Fr.new hp
  have hr2 : upd (upd H la (.lst (L.reverse.map V.str ++ [.str l]))) p (.lst []) ra = some (.lst (As.reverse.map V.ref)) := by rw [upd_ne npr.symm, upd_ne m.ne.symm]; exact hr
  have f3 : Fr [ra] (upd (upd H la (.lst (L.reverse.map V.str ++ [.str l]))) p (.lst [])) (upd (upd (upd H la (.lst (L.reverse.map V.str ++ [.str l]))) p (.lst [])) ra (.lst (As.reverse.map V.ref ++ [.ref p]))) := Fr.lst hr2 (by simp)
  have hn := rw_.ne
  have r1 := rw_.fr f1 fun a ha => by simpa using (hn a ha).1
  have r2 := r1.fr f2 fun _ _ => by simp
  have r3 := r2.fr f3 fun a ha => by simpa using (hn a ha).2.1
  refine ⟨((m.fr.mut m.la0).trans f2).mut m.ra0, m.la0, m.ra0, m.ne, ?_, p :: As, ?_, ?_⟩
  · rw [upd_ne m.ne, upd_ne npl.symm, upd_same, List.reverse_cons, List.map_append]; rfl
  · rw [upd_same, List.reverse_cons, List.map_append]; rfl
  · refine .cons (us := []) (fun z => ?_) npl npr (m.fr.free hp0) (by rw [upd_ne npr, upd_same]) (by rw [Ge.datas_nil]; exact .nil) r3
    obtain ⟨_, _, _, us, e⟩ := hn p z
    rw [hp0] at e
    cases e
/-- a part is put at the end of the last row -/
theorem mach_push {As : List Addr} {a : Addr} {us : List V} {u : V} {t : List Ge} {g : Ge} (m : Mach K H0 H la ra L (t :: R)) (hr : H ra = some (.lst ((a :: As).reverse.map V.ref))) (rw_ : RowsP K H0 H la ra (a :: As) (t :: R))
    (ha : H a = some (.lst us)) (hu : Dp K H u g.data) : Mach K H0 (upd H a (.lst (us ++ [u]))) la ra L ((t ++ [g]) :: R) := by
  cases rw_ with
  | @cons _ _ _ _ us' n h1 h2 h0 h hd r =>
    rw [ha] at h
    injection h with h
    injection h with h
    subst h
    have f : Fr [a] H (upd H a (.lst (us ++ [u]))) := Fr.lst ha (by simp)
    refine ⟨m.fr.mut h0, m.la0, m.ra0, m.ne, f.keep _ _ (by simpa using h1.symm) m.hl, a :: As, f.keep _ _ (by simpa using h2.symm) hr, ?_⟩
    refine .cons (us := us ++ [u]) n h1 h2 h0 upd_same ?_ (r.fr f fun b hb => by
      simp only [List.mem_singleton]
      intro e
      exact n (e ▸ hb))
    exact ges_snoc (f.ges hd) (f.ge hu)
/-- the last row and the last label are taken off -/
theorem mach_pop {As : List Addr} {a : Addr} {l : Str} {k : List Ge} (m : Mach K H0 H la ra (l :: L) (k :: R)) (hr : H ra = some (.lst ((a :: As).reverse.map V.ref))) (rw_ : RowsP K H0 H la ra (a :: As) (k :: R))
    {H1 H2 : Hp} (f : Fr [] (upd H ra (.lst (As.reverse.map V.ref))) H1) (e : H2 = upd H1 la (.lst (L.reverse.map V.str))) : Mach K H0 H2 la ra L R ∧ H2 ra = some (.lst (As.reverse.map V.ref)) ∧ RowsP K H0 H2 la ra As R := by
  subst e
  cases rw_ with
  | @cons _ _ _ _ us' n h1 h2 h0 h hd r =>
    have f1 : Fr [ra] H (upd H ra (.lst (As.reverse.map V.ref))) := Fr.lst hr (by simp)
    have hl1 := f.keep _ _ (by simp) (f1.keep _ _ (by simpa using m.ne) m.hl)
    have f2 : Fr [la] H1 (upd H1 la (.lst (L.reverse.map V.str))) := Fr.lst hl1 (by simp)
    have hn := r.ne
    have r1 := r.fr f1 fun b hb => by simpa using (hn b hb).2.1
    have r2 := r1.fr f fun _ _ => by simp
    have r3 := r2.fr f2 fun b hb => by simpa using (hn b hb).1
    have hr2 : (upd H1 la (.lst (L.reverse.map V.str))) ra = some (.lst (As.reverse.map V.ref)) := by
      rw [upd_ne m.ne.symm]
      exact f.keep _ _ (by simp) upd_same
    exact ⟨⟨((m.fr.mut m.ra0).trans f).mut m.la0, m.la0, m.ra0, m.ne, upd_same, As, hr2, r3⟩, hr2, r3⟩
theorem Mach.rows1 {t : List Ge} (m : Mach K H0 H la ra L (t :: R)) : ∃ (a : Addr) (As : List Addr) (us : List V), H ra = some (.lst ((a :: As).reverse.map V.ref)) ∧ RowsP K H0 H la ra (a :: As) (t :: R) ∧ H a = some (.lst us) ∧ DpAll K H us (Ge.datas t) := by
  obtain ⟨As, h1, h2⟩ := m.rows
  cases h2 with
  | @cons a As _ _ us n q1 q2 q0 h hd r => exact ⟨a, As, us, h1, .cons n q1 q2 q0 h hd r, h, hd⟩
theorem mach_new {la ra p : Addr} (h1 : H la = none) (h2 : upd H la (.lst []) p = none) (h3 : upd (upd H la (.lst [])) p (.lst []) ra = none) :
    Mach K H (upd (upd (upd H la (.lst [])) p (.lst [])) ra (.lst [.ref p])) la ra [] [[]] := by
  have npl : p ≠ la := fun e => by rw [e, upd_same] at h2; cases h2
  have nrp : ra ≠ p := fun e => by rw [e, upd_same] at h3; cases h3
  have nrl : ra ≠ la := fun e => by rw [e, upd_ne npl.symm, upd_same] at h3; cases h3
  have hp0 : H p = none := by rw [upd_ne npl] at h2; exact h2
  have hr0 : H ra = none := by rw [upd_ne nrp, upd_ne nrl] at h3; exact h3
  refine ⟨((Fr.new h1).trans (Fr.new h2)).trans (Fr.new h3), h1, hr0, nrl.symm, ?_, [p], ?_, ?_⟩
  · rw [upd_ne nrl.symm, upd_ne npl.symm, upd_same]; rfl
  · rw [upd_same]; rfl
  · exact .cons (us := []) (by simp) npl nrp.symm hp0 (by rw [upd_ne nrp.symm, upd_same]) (by rw [Ge.datas_nil]; exact .nil) .nil
end
/-- sizes that stay within the line -/
structure Small (L : List Str) (R : List (List Ge)) (r : List Nat) : Prop where
  l : L.length + r.length ≤ 20000
  e : R.length = L.length + 1
  k : ∀ k ∈ R, k.length + r.length ≤ 20000
end TT


namespace TT
open PySem PySem.Spec PyProof.Rows L2

/-! ### labels over labels and ends -/
def wpData (x : Ge × Nat) : PyData := .tuple [x.1.data, .int (x.2 : Nat)]
def wpKey (x : Ge × Nat) : NestedKey := .tup [x.1.key, .num (x.2 : Nat)]
theorem wpData_key (x : Ge × Nat) : wpData x = (wpKey x).data := by simp only [wpData, wpKey, NestedKey.data, NestedKey.datas, Ge.data]
theorem tupy_wp (x : Ge × Nat) : tupy (wpData x) = true := by rw [wpData_key]; exact nk_tupy _
theorem tupy_wps : ∀ xs : List (Ge × Nat), tupyAll (xs.map wpData) = true
  | [] => rfl
  | x :: xs => by simp only [List.map_cons, tupyAll, tupy_wp x, tupy_wps xs, Bool.and_self]
theorem dp_wp {K : PySem.W.Frag} {H : Hp} {v : V} {x : Ge × Nat} (h : Dp K H v (wpData x)) : ∃ a u, v = .ref a ∧ SqT K H a [u, .int (x.2 : Nat)] ∧ Dp K H u x.1.data := by
  obtain ⟨a, vs, rfl, hs, hd⟩ := dp_tuple h
  obtain ⟨v1, v2, rfl, h1, h2⟩ := dpAll_2 hd
  cases dp_int h2
  exact ⟨a, v1, rfl, hs, h1⟩
theorem dp_wp_of {K : PySem.W.Frag} {H : Hp} {a : Addr} {u : V} {x : Ge × Nat} (h1 : SqT K H a [u, .int (x.2 : Nat)]) (h2 : Dp K H u x.1.data) : Dp K H (.ref a) (wpData x) := .tup h1 (.cons h2 (.cons (.int _) .nil))
def sizesW (xs : List (Ge × Nat)) : Nat := (xs.map fun x => x.1.size).sum
/-- an end's reading: what the callable in the second slot tells of a part -/
def EndOk (K : PySem.W.Frag) (T : List NestedKey → Prop) (ER : V → Hp → VK → Prop) (H : Hp) : Prop :=
  ∀ (u : V) (g : Ge) (H' : Hp) (Q : VK), Fr [] H H' → Dp K H' u g.data → Wf T g → g.levels ≤ 30 → (∀ H2, Fr [] H' H2 → Q (.bl (isTip g)) H2) → ER u H' Q
def tEnd (fe : Addr) (ER : V → Hp → VK → Prop) : TE := fun σ H Q => σ[1]? = some (some (.ref fe)) ∧ ∃ u, σ[6]? = some (some u) ∧ ER u H Q
theorem dpAll_pop {K : PySem.W.Frag} {H : Hp} {d : PyData} : ∀ {ds : List PyData} {us : List V}, DpAll K H us (ds ++ [d]) → ∃ us' u, us = us' ++ [u] ∧ DpAll K H us' ds ∧ Dp K H u d
  | [], us, h => by
    obtain ⟨v, rfl, hv⟩ := dpAll_1 (by simpa using h)
    exact ⟨[], v, rfl, .nil, hv⟩
  | e :: ds, us, h => by
    rw [List.cons_append] at h
    cases h with
    | cons a b =>
      obtain ⟨us', u, rfl, h1, h2⟩ := dpAll_pop b
      exact ⟨_ :: us', u, rfl, .cons a h1, h2⟩
theorem sizesW_append (xs ys : List (Ge × Nat)) : sizesW (xs ++ ys) = sizesW xs + sizesW ys := by simp [sizesW]
theorem sizesW_kids (l : Nat) : ∀ gs : List Ge, sizesW (gs.map fun g => (g, l)) = Ge.sizes gs
  | [] => rfl
  | g :: gs => by
    have := sizesW_kids l gs
    simp only [sizesW, List.map_cons, List.sum_cons, Ge.sizes] at this ⊢
    omega
def muW (m : Nat) (σ : L2.St) : Nat := match σ[4]? with
  | some (some (V.int n)) => m - n.toNat
  | _ => 0
section
variable {P : Program} {w : World} {K : PySem.W.Frag} {mg : Str → Option Value} {base : Heap} {f : Addr} {cdv : Value} {A : Around} {outer : List Env} {s : Shared} {H : Hp} {E : XK}
end
end TT

namespace TT
open PySem PySem.Spec PyProof.Rows L2

/-! ### a lambda with one parameter, called in the def that got it -/
theorem CellsAt.keep1 {cl : List (Str × Addr)} {fr : List Str} {ws : List (Option V)} {h h' : Heap} {H H' : Hp} {fs : List Addr} (C : NdefX.CellsAt cl fr ws h H) (un : Un fs [] H H' h h') : NdefX.CellsAt cl fr ws h' H' := by
  have st : ∀ (y : Str) (c : Addr), cl.lookup y = some c → ∀ z, h.IsCell c z → h'.IsCell c z := by
    rintro y c hy z ⟨ob, g1, g2⟩
    obtain ⟨sl, g3⟩ := un.any g1 (C.all y c hy).1 (fun z => nomatch z)
    exact ⟨_, g3, g2⟩
  refine ⟨C.len, ?_, C.inj, ?_⟩
  · intro y c hy
    obtain ⟨n, z, hz⟩ := C.all y c hy
    refine ⟨?_, z, st y c hy z hz⟩
    obtain ⟨ob, g1, _⟩ := hz
    exact un.free c ob g1 n (fun z => nomatch z)
  · intro i y hi
    obtain ⟨c, hc, hw⟩ := C.has i y hi
    refine ⟨c, hc, ?_⟩
    intro v hv
    obtain ⟨u, g1, g2⟩ := hw v hv
    exact ⟨u, g1, st y c hc _ g2⟩
section
variable {P : Program} {w : World} {K : PySem.W.Frag} {mg : Str → Option Value} {base : Heap} {Ng N fr : List Str} {qg : Str} {sg : Scope} {g f : Addr} {cdg pm ctv : Value} {A : Around} {outer : List Env} {s : Shared} {H : Hp} {Eg : XK} {F : NdefX.NF} {nm one : Str} {params : Arguments} {body : Expr}
  {ws : List (Option V)} {k i j : Nat} {a b : Str} {tb : TE} {p1 p2 p3 : Pos}
theorem act_lam (ho : s.heap.get? f = some (PySem.W.kla_obj nm F.qual params body F.scope F.cl pm F.c ctv)) (hf : H f = none) (S : NdefX.NScope N [one] fr F.scope)
    (hbind : ∀ u : Value, bindArgs (PySem.W.kla_fn nm F.qual params body F.scope F.cl pm (.ref F.c) ctv) ⟨[u], []⟩ = pure [(one, u)]) (C : NdefX.CellsAt F.cl fr ws s.heap H)
    (hr : Room (k + 1) (A.deeper (envOfC qg sg s.heap.objs.size g cdg)))
    (hbody : ∀ (A' : Around) (outer' : List Env) (s' : Shared) (H' : Hp), Room k (A'.deeper (NdefX.envF F f s'.heap.objs.size)) → PE (NdefX.ncx CX0 P w K mg base N F f A' outer' s' H' E0) body tb)
    (hN : Ng[i]? = some a) (hv : Vis sg a) (hN2 : Ng[j]? = some b) (hv2 : Vis sg b)
    (d1 : (a == ("__debug__" : Str)) = false) (d2 : (a == ("__classdict__" : Str)) = false) (d3 : (b == ("__debug__" : Str)) = false) (d4 : (b == ("__classdict__" : Str)) = false) :
    PE (cxOf CX0 P w K mg base Ng qg sg g cdg A outer s H Eg).nox (.Call (.Name a p1) [.Name b p2] [] p3)
      (fun σ' H' Q => σ'[i]? = some (some (.ref f)) ∧ ∃ u, σ'[j]? = some (some u) ∧ H' F.c = some (LamX.CodeO F.c F.qual) ∧ tb (NdefX.startF N [u] ws) H' Q) := by
  refine ⟨?_⟩
  rintro pins t σ' H' Q I ⟨hs, u, hu, hc, ht⟩
  have pa : PE (cxOf CX0 P w K mg base Ng qg sg g cdg A outer s H Eg).nox (.Name a p1) (tVar i) := pe_var hN hv d1 d2
  have pb : PE (cxOf CX0 P w K mg base Ng qg sg g cdg A outer s H Eg).nox (.Name b p2) (tVar j) := pe_var hN2 hv2 d3 d4
  have qa := pa.run pins t σ' H' (fun v H1 => v = .ref f ∧ H1 = H') I ⟨_, hs, rfl, rfl⟩
  refine wpAny_Call_Name_kw (thn qa ?_)
  rintro x s1 ⟨v, H1, I1, r1, rfl, rfl⟩
  cases r1
  have live : ∀ {s2 : Shared} {H2 : Hp} {σ2 : L2.St} {pins2}, Inv (cxOf CX0 P w K mg base Ng qg sg g cdg A outer s H Eg).nox pins2 σ2 H2 s2 → ∃ sl, s2.heap.get? f = some { PySem.W.kla_obj nm F.qual params body F.scope F.cl pm F.c ctv with slots := sl } := by
    intro s2 H2 σ2 pins2 J
    have un : Un _ [] H H2 s.heap s2.heap := J.base
    exact un.any ho hf (fun z => nomatch z)
  obtain ⟨sl1, o1⟩ := live I1
  have qb := (pa_cons pb pa_nil).run p3 pins s1 σ' H1 (fun vs H2 => vs = [u] ∧ H2 = H1) I1 ⟨u, hu, rfl, rfl⟩
  refine PySem.W.callWith_F (first := []) ⟨_, _, _, _, o1⟩ (thn qb ?_) (by rfl) (by rfl)
  rintro us s2 ⟨vs, H2, I2, r2, rfl, rfl⟩
  obtain ⟨sl2, o2⟩ := live I2
  refine ⟨⟨_, _, _, _, o2⟩, ?_⟩
  obtain ⟨u1, rfl, ru⟩ := vals1 r2
  show wpAny _ _ (call (.ref f) [u1]) _ _ _
  have un2 : Un _ [] H H2 s.heap s2.heap := I2.base
  have C2 := CellsAt.keep1 C un2
  have lim : s2.heap.NoLimit := I2.nolimit
  have e0 := I2.env0
  refine wpAny_call (codeAny_mono (R := CR CX0 (envOfC qg sg s.heap.objs.size g cdg :: outer) P w H2 s2 Q E0) ?_ ?_)
  · refine PySem.W.kla_callFunE hr.depth o2 rfl S.co S.gen rfl (NdefX.codeO_at I2.hok hc) ?_
    rw [hbind u1]
    refine wpAny_pure (wpAny_newFunctionEnv S.nocell ?_ ?_ S.kind)
    · intro y hy
      rw [List.mem_singleton.mp hy]
      exact S.par one (by simp)
    intro h₁ hns hsb
    refine ⟨lim.fresh _ hsb, ?_⟩
    have kp : ∀ b o, s2.heap.get? b = some o → h₁.get? b = some o := fun b o e => hsb.extBut b o (Nat.ne_of_lt (Heap.lt_size e)) (Heap.get?_push_of_some _ e)
    show codeAny _ _ (.expr body (NdefX.envF F f s2.heap.objs.size)) _ _
    have J : Inv (NdefX.ncx CX0 P w K mg base N F f (A.deeper (envOfC qg sg s.heap.objs.size g cdg)) (envOfC qg sg s.heap.objs.size g cdg :: outer) s2 H2 E0) [] (NdefX.startF N [u] ws) H2 { s2 with heap := h₁, toks := s2.toks + [(one, u1)].length } :=
      NdefX.inv_startN (us := [u1]) S hr.hd e0 rfl r2 C2 hns kp
    have run := (hbody _ _ s2 H2 (hr.deeper _)).run [] _ _ H2 Q J ht
    refine PySem.W.kla_codeExpr (wpAny_mono run ?_ fun _ _ z => z)
    rintro x s' ⟨w', H'', J', rv, q⟩
    exact ⟨w', H'', J'.os, J'.bare, J'.base, J'.hok, rv, q⟩
  · intro r s' hq
    cases r with
    | error e => exact (show False from hq).elim
    | ok fl =>
      cases fl with
      | ret x => exact I2.after hq
      | next => exact False.elim hq
      | brk => exact False.elim hq
      | cont => exact False.elim hq
end
end TT


namespace TT
open PySem PySem.Spec PyProof.Rows L2

/-! ### all but tables stay -/
abbrev Ex (H H' : Hp) : Prop := LamX.ExtN H H'
theorem Fr.ex {H H' : Hp} (f : Fr [] H H') : Ex H H' := fun b o e _ => f.keep b o (by simp) e
theorem Ex.lst {H H' : Hp} {a : Addr} {xs : List V} (e : Ex H H') (h : H a = some (.lst xs)) : H' a = some (.lst xs) := e a _ h (fun _ z => nomatch z)
theorem Ex.sqT {K : PySem.W.Frag} {H H' : Hp} {a : Addr} {xs : List V} (e : Ex H H') (h : SqT K H a xs) : SqT K H' a xs := by
  rcases h with (h | ⟨o, h⟩) | h
  · exact .inl (.inl (e _ _ h (fun _ z => nomatch z)))
  · exact .inl (.inr ⟨o, e _ _ h (fun _ z => nomatch z)⟩)
  · exact .inr h
theorem Ex.sqL {K : PySem.W.Frag} {H H' : Hp} {a : Addr} {xs : List V} (e : Ex H H') (h : SqL K H a xs) : SqL K H' a xs := by
  rcases h with (h | ⟨o, h⟩) | h
  · exact .inl (.inl (e _ _ h (fun _ z => nomatch z)))
  · exact .inl (.inr ⟨o, e _ _ h (fun _ z => nomatch z)⟩)
  · exact .inr h
mutual
theorem Ex.dp {K : PySem.W.Frag} {H H' : Hp} (e : Ex H H') : ∀ (d : PyData) (v : V), tupy d = true → Dp K H v d → Dp K H' v d
  | .none, _, _, h => by cases h; exact .non
  | .bool b, _, _, h => by cases h; exact .bl _
  | .int i, _, _, h => by cases h; exact .int _
  | .str x, _, _, h => by cases h; exact .str _
  | .list ds, _, t, h => by simp [tupy] at t
  | .tuple ds, _, t, h => by
    cases h with
    | tup hs ha => exact .tup (e.sqT hs) (Ex.dpAll e ds _ (by simpa [tupy] using t) ha)
  | .dict _, _, t, h => by cases h
theorem Ex.dpAll {K : PySem.W.Frag} {H H' : Hp} (e : Ex H H') : ∀ (ds : List PyData) (vs : List V), tupyAll ds = true → DpAll K H vs ds → DpAll K H' vs ds
  | [], _, _, h => by cases h; exact .nil
  | d :: ds, _, t, h => by
    rw [tupyAll, Bool.and_eq_true] at t
    cases h with
    | cons h1 h2 => exact .cons (Ex.dp e d _ t.1 h1) (Ex.dpAll e ds _ t.2 h2)
end
theorem Ex.ge {K : PySem.W.Frag} {H H' : Hp} {v : V} {g : Ge} (e : Ex H H') (h : Dp K H v g.data) : Dp K H' v g.data := e.dp _ _ g.tupy_data h
theorem BoxAt.ex {H H' : Hp} {b q : Addr} (h : BoxAt H b q) (e : Ex H H') : BoxAt H' b q := by
  obtain ⟨z, ns, h1, h2, h3⟩ := h
  exact ⟨z, ns, e.lst h1, e.lst h2, h3⟩

section
variable {P : Program} {w : World} {K : PySem.W.Frag} {mg : Str → Option Value} {base : Heap} {f : Addr} {fd : FuncData}
/-! ### patterns -/
def spIsPat (K : PySem.W.Frag) : Sp := fun vs H Q _ => ∃ (v : V) (g : Ge), vs = [v] ∧ Dp K H v g.data ∧ Wf PatTip g ∧ g.size ≤ 7 ∧ g.levels ≤ 3 ∧ ∀ H', Fr [] H H' → Q (.bl true) H'
def spWithB (K : PySem.W.Frag) (fe : Addr) : Sp := fun vs H Q _ => ∃ (v : V) (g : Ge) (m l : Nat), vs = [v, .ref fe, .int (m : Nat), .int (l : Nat)] ∧ Dp K H v g.data ∧ Wf PatTip g ∧ g.size ≤ m ∧ g.levels ≤ l ∧ m ≤ 30 ∧ l ≤ 29 ∧ ∀ H', Fr [] H H' → Q (.bl true) H'

/-! ### builds -/
abbrev qLam : Str := "is_build.<locals>.<lambda>"
abbrev TT1 (PT : Addr) : List (Addr × Str) := [(PT, qLam)]
def spIsBuild (K : PySem.W.Frag) (PT : Addr) : Sp := fun vs H Q _ => ∃ (x v : V) (h g : Ge), vs = [x, v] ∧ Dp K H x h.data ∧ Dp K H v g.data ∧ Wf PatTip g ∧ g.levels ≤ 30 ∧ Wf (DoTip g) h ∧ h.size ≤ 12 ∧ h.levels ≤ 4 ∧ LamX.Tabs (TT1 PT) H ∧
  ∀ H', Ex H H' → LamX.Tabs (TT1 PT) H' → Q (.bl true) H'
def tWB (K : PySem.W.Frag) (PT : Addr) : TE := fun σ H Q => ∃ x v, σ = [some x, some v] ∧ spIsBuild K PT [x, v] H Q E0
end
end TT


namespace TT
open PySem PySem.Spec PyProof.Rows L2
section
variable {P : Program} {w : World} {K : PySem.W.Frag} {mg : Str → Option Value} {base : Heap} {f : Addr} {fd : FuncData}
/-! ### rules -/
def spIsRule (K : PySem.W.Frag) (PT : Addr) : Sp := fun vs H Q _ => ∃ (v : V) (r : Ru), vs = [v] ∧ Dp K H v r.data ∧ RuOk r ∧ LamX.Tabs (TT1 PT) H ∧ ∀ H', Ex H H' → LamX.Tabs (TT1 PT) H' → Q (.bl true) H'
def spCheck (K : PySem.W.Frag) (PT : Addr) : Sp := fun vs H Q _ => ∃ (bA : Addr) (us : List V) (rs : List Ru), vs = [.ref bA] ∧ H bA = some (.lst us) ∧ DpAll K H us (rs.map Ru.data) ∧ (∀ r ∈ rs, RuOk r) ∧ rs.length ≤ 16 ∧ LamX.Tabs (TT1 PT) H ∧ ∀ H', Ex H H' → LamX.Tabs (TT1 PT) H' → Q .non H'
end
end TT

namespace TT
open PySem PySem.Spec PyProof.Rows L2
section
variable {X : Cx} {o i value e tg : Expr} {pos pos' : Pos} {td ty tv : TE}
theorem pe_nnewK (P : Program) (w : World) (h1 : X.prog = P := by rfl) (h2 : X.w = w := by rfl) : PE X (.Dict [] [] pos) (tNNew P w) := by subst h1 h2; exact pe_nnew
theorem pe_ngetK (P : Program) (w : World) (K : PySem.W.Frag) (hu : X.A.units + 64 < cLine) (ho : PE X o td) (hi : PE X i ty) (hs : NoSl i) (h1 : X.prog = P := by rfl) (h2 : X.w = w := by rfl) (h3 : X.K = K := by rfl) : PE X (.Subscript o i pos) (tNGet P w K td ty) := by subst h1 h2 h3; exact pe_nget hu ho hi hs
theorem ps_nputK (P : Program) (w : World) (K : PySem.W.Frag) (hu : X.A.units + 64 < cLine) (ho : PE X o td) (hi : PE X i ty) (hv : PE X value tv) (hs : swapsWith value (some (.Subscript o i pos')) pos.line X.env = pure false := by rfl) (h1 : X.prog = P := by rfl) (h2 : X.w = w := by rfl) (h3 : X.K = K := by rfl) :
    PS X (.Assign [.Subscript o i pos'] value pos) (sNPut P w K td ty tv) := by subst h1 h2 h3; exact ps_nput hu ho hi hv hs
theorem pi_keysNK (P : Program) (w : World) (he : PE X e td) (h1 : X.prog = P := by rfl) (h2 : X.w = w := by rfl) : PI X tg e (iKeysN P w td) := by subst h1 h2; exact pi_keysN he
/-- a read of a dict that a walk has locked -/
def tNGetF (P : Program) (w : World) (K : PySem.W.Frag) (td ty : TE) : TE := fun σ H Q => td σ H fun x H1 => ty σ H1 fun y H2 => ∃ a od xs b k v, x = .ref a ∧ y = .ref b ∧ H2 a = some (.frz od (NdO P w a xs)) ∧ (∀ x ∈ xs, IsNk K H2 x.2.1 x.1) ∧ IsNk K H2 b k ∧ nval xs k = some v ∧ Q v H2
end
theorem nd_rdF {X : Cx} {pins : List (Addr × Obj)} {σ : L2.St} {H : Hp} {s : Shared} {d : Addr} {od : Obj} {xs : List NEnt} (I : Inv X pins σ H s) (h : H d = some (.frz od (NdO X.prog X.w d xs))) (hall : ∀ p ∈ xs, IsNk X.K H p.2.1 p.1) :
    ∃ vs, Paired NRel xs vs ∧ s.heap.DictOfH (nestedKind X.prog X.w) d vs := by
  obtain ⟨_, ⟨_, z1, vs, r, ob, es, ep, e, h2, h3, h4, h5⟩, z2⟩ := (show ObjOk X.prog X.w H s.heap d (.frz od (NdO X.prog X.w d xs)) from I.hok d _ h)
  refine ⟨vs, r, ob, es, ep, e, h2, h3, h4, ?_, h5⟩
  clear h h4 h5 z1 z2
  intro x hx
  induction r with
  | nil => exact nomatch hx
  | @cons p q ps qs hq t ih =>
    rcases List.mem_cons.mp hx with e | hx
    · subst e
      have q1 := (hall p List.mem_cons_self).is I
      rw [hq.1, hq.2.1] at q1
      exact q1
    · exact ih (fun p' hp' => hall p' (List.mem_cons_of_mem _ hp')) hx
theorem pe_ngetF {X : Cx} {o i : Expr} {pos : Pos} {td ty : TE} (hu : X.A.units + 64 < cLine) (ho : PE X o td) (hi : PE X i ty) (hs : NoSl i) : PE X (.Subscript o i pos) (tNGetF X.prog X.w X.K td ty) := by
  refine ⟨fun pins s σ H Q I h => ?_⟩
  refine subD_of PySem.F.slot_dict_getitem.lookup hs (thn (ho.run pins s σ H _ I h) ?_)
  rintro u s1 ⟨x, H1, I1, rx, q1⟩
  refine thn (hi.run pins s1 σ H1 _ I1 q1) ?_
  rintro iv s2 ⟨y, H2, I2, ry, a, od, xs, b, k, v, ex, ey, g, hall, hk, hv, q2⟩
  subst ex ey
  obtain rfl : u = Value.ref a := rx
  obtain rfl : iv = Value.ref b := ry
  obtain ⟨vs, rel, dd⟩ := nd_rdF I2 g hall
  refine ⟨dd.typeIs, ?_⟩
  have q := nrel_find rel k
  rw [hv] at q
  cases hp : atKey vs k with
  | none => rw [hp] at q; exact q.elim
  | some p =>
    rw [hp] at q
    exact wpAny_getItem_heap (nroom hu) (hk.is I2) dd hp ⟨v, H2, I2.tok _, q, q2⟩
theorem pe_ngetFK {X : Cx} {o i : Expr} {pos : Pos} {td ty : TE} (P : Program) (w : World) (K : PySem.W.Frag) (hu : X.A.units + 64 < cLine) (ho : PE X o td) (hi : PE X i ty) (hs : NoSl i) (h1 : X.prog = P := by rfl) (h2 : X.w = w := by rfl) (h3 : X.K = K := by rfl) : PE X (.Subscript o i pos) (tNGetF P w K td ty) := by subst h1 h2 h3; exact pe_ngetF hu ho hi hs
end TT


namespace TT
open PySem PySem.Spec PyProof.Rows L2
/-! ### places by a stack -/
def shift (p : List Nat) (x : List Nat × Ge) : List Nat × Ge := (p ++ x.1, x.2)
def outst (ws : List (List Nat × Ge)) : List (List Nat × Ge) := ws.flatMap fun x => (places x.2).map (shift x.1)
def kidsFrom (p : List Nat) : Nat → List Ge → List (List Nat × Ge)
  | _, [] => []
  | k, g :: gs => (p ++ [k], g) :: kidsFrom p (k + 1) gs
theorem outst_cons (x : List Nat × Ge) (ws : List (List Nat × Ge)) : outst (x :: ws) = (places x.2).map (shift x.1) ++ outst ws := by simp [outst]
theorem outst_app (xs ws : List (List Nat × Ge)) : outst (xs ++ ws) = outst xs ++ outst ws := by simp [outst]
theorem outst_kids (p : List Nat) : ∀ (k : Nat) (gs : List Ge), outst (kidsFrom p k gs) = (placesFrom k gs).map (shift p)
  | _, [] => by simp [kidsFrom, outst, placesFrom]
  | k, g :: gs => by
    rw [kidsFrom, outst_cons, outst_kids p (k + 1) gs, placesFrom, List.map_append, List.map_map]
    congr 1
    apply List.map_congr_left
    intro x _
    simp [shift]
theorem outst_node (p : List Nat) (l : Str) (gs : List Ge) (ws : List (List Nat × Ge)) : outst ((p, .node l gs) :: ws) = (p, .node l gs) :: outst (kidsFrom p 0 gs ++ ws) := by
  rw [outst_cons, outst_app, outst_kids]
  simp [places, shift]
theorem shift_nil (xs : List (List Nat × Ge)) : xs.map (shift []) = xs := by
  conv => rhs; rw [← List.map_id xs]
  apply List.map_congr_left
  intro x _
  simp [shift]
theorem kids_get (p : List Nat) : ∀ (k : Nat) (gs : List Ge) (i : Nat), (kidsFrom p k gs)[i]? = gs[i]?.map fun g => (p ++ [k + i], g)
  | _, [], i => by simp [kidsFrom]
  | k, g :: gs, 0 => by simp [kidsFrom]
  | k, g :: gs, i + 1 => by
    rw [kidsFrom, List.getElem?_cons_succ, List.getElem?_cons_succ, kids_get p (k + 1) gs i]
    congr 1
    funext g
    rw [show k + 1 + i = k + (i + 1) by omega]
theorem kids_len (p : List Nat) : ∀ (k : Nat) (gs : List Ge), (kidsFrom p k gs).length = gs.length
  | _, [] => rfl
  | k, g :: gs => by simp only [kidsFrom, List.length_cons, kids_len p (k + 1) gs]
theorem kids_mem {p : List Nat} {k : Nat} {gs : List Ge} {x : List Nat × Ge} (h : x ∈ kidsFrom p k gs) : x.2 ∈ gs := by
  obtain ⟨i, hi⟩ := List.mem_iff_getElem?.mp h
  rw [kids_get] at hi
  obtain ⟨g, hg, rfl⟩ := Option.map_eq_some_iff.mp hi
  exact List.mem_of_getElem? hg
theorem placesFrom_head : ∀ (k : Nat) (gs : List Ge) (x : List Nat × Ge), x ∈ placesFrom k gs → ∃ j r, x.1 = j :: r ∧ k ≤ j
  | _, [], x, h => by simp [placesFrom] at h
  | k, g :: gs, x, h => by
    simp only [placesFrom, List.mem_append, List.mem_map] at h
    rcases h with ⟨y, _, rfl⟩ | h
    · exact ⟨k, y.1, rfl, Nat.le_refl _⟩
    · obtain ⟨j, r, e, hj⟩ := placesFrom_head (k + 1) gs x h
      exact ⟨j, r, e, by omega⟩
mutual
theorem places_nodup : ∀ g : Ge, ((places g).map (·.1)).Nodup
  | .tip ks => by simp [places]
  | .node l gs => by
    simp only [places, List.map_cons, List.nodup_cons]
    refine ⟨?_, placesFrom_nodup 0 gs⟩
    intro h
    obtain ⟨x, hx, e⟩ := List.mem_map.mp h
    obtain ⟨j, r, e2, _⟩ := placesFrom_head 0 gs x hx
    rw [e2] at e
    cases e
theorem placesFrom_nodup : ∀ (k : Nat) (gs : List Ge), ((placesFrom k gs).map (·.1)).Nodup
  | _, [] => by simp [placesFrom]
  | k, g :: gs => by
    rw [placesFrom, List.map_append, List.map_map]
    refine List.nodup_append.mpr ⟨?_, placesFrom_nodup (k + 1) gs, ?_⟩
    · have h := places_nodup g
      have e : (places g).map ((fun x : List Nat × Ge => x.1) ∘ fun x => (k :: x.1, x.2)) = ((places g).map (·.1)).map (fun p => k :: p) := by rw [List.map_map]; rfl
      rw [e]
      exact List.Pairwise.map _ (fun a b hab e => hab (by injection e)) h
    · intro a ha b hb e
      subst e
      obtain ⟨x, _, rfl⟩ := List.mem_map.mp ha
      obtain ⟨y, hy, e⟩ := List.mem_map.mp hb
      obtain ⟨j, r, e2, hj⟩ := placesFrom_head (k + 1) gs y hy
      rw [e2] at e
      simp only [Function.comp] at e
      injection e with e _
      omega
end
def pkey (p : List Nat) : NestedKey := .tup (p.map fun n => .num (n : Nat))
theorem pkey_inj : ∀ {p q : List Nat}, pkey p = pkey q → p = q := by
  intro p q h
  unfold pkey at h
  injection h with h
  induction p generalizing q with
  | nil => cases q with
    | nil => rfl
    | cons a q => simp at h
  | cons a p ih => cases q with
    | nil => simp at h
    | cons b q =>
      simp only [List.map_cons] at h
      injection h with h1 h2
      injection h1 with h1
      rw [ih h2, show a = b by omega]
theorem pkey_data (p : List Nat) : (pkey p).data = .tuple (p.map fun n => PyData.int (n : Nat)) := by simp only [pkey, NestedKey.data, numsData]
theorem nums_depth : ∀ p : List Nat, NestedKey.depthAll (p.map fun n => NestedKey.num (n : Nat)) = 0
  | [] => by simp [NestedKey.depthAll]
  | n :: p => by simp [NestedKey.depthAll, NestedKey.depth, nums_depth p]
theorem pkey_depth (p : List Nat) : (pkey p).depth ≤ 8 := by simp [pkey, NestedKey.depth, nums_depth p]
theorem pkey_is {K : PySem.W.Frag} {H : Hp} {b : Addr} {p : List Nat} (h : SqT K H b (p.map fun n => V.int (n : Nat))) : IsNk K H b (pkey p) := ⟨by rw [pkey_data]; exact .tup h (dpAll_ints p), pkey_depth p⟩
/-- a dict's entries: places and the trees there -/
def Ents (K : PySem.W.Frag) (H : Hp) (xs : List NEnt) (pl : List (List Nat × Ge)) : Prop := xs.map (·.1) = pl.map (fun x => pkey x.1) ∧ DpAll K H (xs.map (·.2.2)) (pl.map fun x => x.2.data)
theorem tupy_pld : ∀ pl : List (List Nat × Ge), tupyAll (pl.map fun x => x.2.data) = true
  | [] => rfl
  | x :: pl => by simp only [List.map_cons, tupyAll, x.2.tupy_data, tupy_pld pl, Bool.and_self]
theorem Ents.fr {S : List Addr} {K : PySem.W.Frag} {H H' : Hp} {xs : List NEnt} {pl : List (List Nat × Ge)} (e : Fr S H H') (h : Ents K H xs pl) : Ents K H' xs pl := ⟨h.1, e.dpAll _ _ (tupy_pld pl) h.2⟩
theorem Ents.len {K : PySem.W.Frag} {H : Hp} {xs : List NEnt} {pl : List (List Nat × Ge)} (h : Ents K H xs pl) : xs.length = pl.length := by
  have := congrArg List.length h.1
  simpa using this
theorem nval_none {xs : List NEnt} {k : NestedKey} (h : k ∉ xs.map (·.1)) : nval xs k = none := by
  unfold nval
  rw [List.find?_eq_none.mpr]
  · rfl
  · intro x hx e
    exact h (List.mem_map.mpr ⟨x, hx, of_decide_eq_true e⟩)
theorem Ents.put {K : PySem.W.Frag} {H : Hp} {xs : List NEnt} {pl : List (List Nat × Ge)} {x : List Nat × Ge} {b : Addr} {u : V} (h : Ents K H xs pl) (hn : x.1 ∉ pl.map (·.1)) (hu : Dp K H u x.2.data) : nput xs (pkey x.1) b u = xs ++ [(pkey x.1, b, u)] ∧ Ents K H (xs ++ [(pkey x.1, b, u)]) (pl ++ [x]) := by
  have e : nval xs (pkey x.1) = none := nval_none (by
    rw [h.1]
    intro z
    obtain ⟨y, hy, e⟩ := List.mem_map.mp z
    exact hn (List.mem_map.mpr ⟨y, hy, pkey_inj e⟩))
  refine ⟨by unfold nput; rw [e]; rfl, ?_, ?_⟩
  · rw [List.map_append, List.map_append, h.1]; rfl
  · rw [List.map_append, List.map_append]
    exact DpAll.append h.2 (.cons hu .nil)
theorem while_m {c : TT} {tb : TS} {D : Ends} {σ : L2.St} {H : Hp} (W : Nat → L2.St → Hp → Prop) (m0 : Nat) (h0 : W m0 σ H)
    (hs : ∀ m σ H, W m σ H → c σ H fun b H1 => if b = true then tb { D with nx := fun σ' H' => ∃ m', m' < m ∧ W m' σ' H', ct := fun σ' H' => ∃ m', m' < m ∧ W m' σ' H', bk := D.nx } σ H1 else D.nx σ H1)
    (mono : ∀ σ H Q Q', (∀ b H1, Q b H1 → Q' b H1) → c σ H Q → c σ H Q') : tWhile c tb D σ H := by
  refine ⟨W, ⟨m0, h0⟩, ?_⟩
  intro m σ H hw
  refine mono σ H _ _ ?_ (hs m σ H hw)
  intro b H1 q
  cases b with
  | true => exact ⟨_, fun σ' H' z => z, q⟩
  | false => exact q
theorem Fr.off {H H3 H4 : Hp} {L : Addr} (a : Fr [] H H3) (b : Fr [L] H3 H4) (h : H L = none) : Fr [] H H4 := by
  refine ⟨fun p o _ e => ?_, fun p xs e => b.tup _ _ (a.tup _ _ e), fun p o u e => b.frz _ _ _ (a.frz _ _ _ e)⟩
  exact b.keep p o (by
    intro z
    rw [List.mem_singleton.mp z, h] at e
    cases e) (a.keep p o (by simp) e)
def szO (ws : List (List Nat × Ge)) : Nat := (outst ws).length
section
variable {P : Program} {w : World} {K : PySem.W.Frag} {mg : Str → Option Value} {base : Heap} {f : Addr} {fd : FuncData}
def spPlacesOf (P : Program) (w : World) (K : PySem.W.Frag) : Sp := fun vs H Q _ => ∃ (v : V) (g : Ge), vs = [v] ∧ Dp K H v g.data ∧ Wf NoTip g ∧ g.size ≤ 60 ∧ g.levels ≤ 12 ∧
  ∀ (d : Addr) (xs : List NEnt) H', Fr [] H H' → H d = none → Nd P w K H' d xs → Ents K H' xs (places g) → Q (.ref d) H'
theorem ok_placesOf (F : Fun K "places_of" "places_of" s_places_of f fd) (T : Txt K mg) (chas_form : Callee P w K mg base 1 "has_form" P_has_form (spForm K)) : FnOk P w K mg base CX0 2 f fd P_places_of (spPlacesOf P w K) := by
  refine F.ok sc_places_of (fun vs H Q E h => ?_) (fun cdv A outer s H vs Q E hr h => ?_)
  · obtain ⟨v, g, rfl, _⟩ := h
    rfl
  obtain ⟨v, g, rfl, hv, wf, sz, lv, k⟩ := h
  have nd := (sc_places_of).nd
  have hu := hr.units
  refine ⟨_, pss_cons (ps_set (i := 1) nd rfl (Or.inl rfl) (pe_nnewK P w))
  (pss_cons (ps_set (i := 2) nd rfl (Or.inl rfl) (pe_lst (pa_cons (pe_tup (pa_cons (pe_tup pa_nil) (pa_cons (pv 0) pa_nil))) pa_nil)))
  (pss_cons (ps_while PassesOwn.never (pt_truthK K (pv 2))
    (pss_cons (ps_asg (pe_bm0K K PySem.F.plainAttrs_list PySem.F.slot_list_pop PySem.F.type_list_pop mt_pop (pv 2)) (pg_tupK K rfl (pgs_cons (pg_name (i := 3) nd rfl (Or.inl rfl)) (pgs_cons (pg_name (i := 4) nd rfl (Or.inl rfl)) pgs_nil))))
    (pss_cons (ps_if (PW.pt (pw_or (pt_cmpR op_eq (pe_callB (call_lenNK P w K) (by rfl) T.len_ PySem.boot_len (pa_cons (pv 1) pa_nil)) (pe_globI T.MOST_PLACES) (nomark _)) (pw_or (pt_cmpR op_ge (pe_callB (call_lenK K) (by rfl) T.len_ PySem.boot_len (pa_cons (pv 3) pa_nil)) (pe_globI T.TREE_LEVELS) (nomark _)) (pw_or1 (pt_not (pt_val (pe_own chas_form hr (pa_cons (pv 4) pa_nil))))))))
      (pss_one (ps_never))
      (pss_nil))
    (pss_cons (ps_nputK P w K hu (pv 1) (pv 3) (pv 4))
    (pss_cons (ps_set (i := 5) nd rfl (Or.inl rfl) (pe_ix (ix_tupK K) (pv 4) pe_int (fun _ _ => rfl)))
    (pss_one (ps_for PassesOwn.never rfl (pi_revR (by rfl) T.reversed_ (prg_1 (by rfl) T.range_ (pe_callB (call_lenK K) (by rfl) T.len_ PySem.boot_len (pa_cons (pv 5) pa_nil)))) (pg_name (i := 6) nd rfl (Or.inl rfl))
      (pss_one (ps_expr (pe_bmK K PySem.F.plainAttrs_list PySem.F.slot_list_append PySem.F.type_list_append mt_append (pv 2) (pa_cons (pe_tup (pa_cons (pe_op (op_catP K) (pv 3) (pe_tup (pa_cons (pv 6) pa_nil))) (pa_cons (pe_ix (ix_tupK K) (pv 5) (pv 6) (fun _ _ => rfl)) pa_nil))) pa_nil)))))))))))
  (pss_one (ps_ret (pv 1))))), ?_⟩
  intro d hdn
  have fd0 : Fr [] H (upd H d (NdO P w d [])) := Fr.new hdn
  refine ⟨Nat.zero_le _, fun t0 ht0 => ⟨_, rfl, (by show 2 ≤ sizeLine; decide), fun t1 ht1 => ⟨(by show 1 ≤ sizeLine; decide), fun L hL => ?_⟩⟩⟩
  have f0 : Fr [] (upd H d (NdO P w d [])) (upd (upd H d (NdO P w d [])) t0 (.tup [])) := Fr.new ht0
  have f1 : Fr [] (upd (upd H d (NdO P w d [])) t0 (.tup [])) (upd (upd (upd H d (NdO P w d [])) t0 (.tup [])) t1 (.tup [.ref t0, v])) := Fr.new ht1
  have f2 : Fr [] (upd (upd (upd H d (NdO P w d [])) t0 (.tup [])) t1 (.tup [.ref t0, v])) (upd (upd (upd (upd H d (NdO P w d [])) t0 (.tup [])) t1 (.tup [.ref t0, v])) L (.lst [.ref t1])) := Fr.new hL
  have ff0 := fd0.trans ((f0.trans f1).trans f2)
  have hL0 : H L = none := (fd0.trans (f0.trans f1)).free hL
  have hd0 : (upd (upd (upd (upd H d (NdO P w d [])) t0 (.tup [])) t1 (.tup [.ref t0, v])) L (.lst [.ref t1])) d = some (NdO P w d []) := ((f0.trans f1).trans f2).keep d _ (by simp) upd_same
  have ndL : d ≠ L := fun e => by
    rw [e] at hd0
    rw [upd_same] at hd0
    cases hd0
  have lt0 := f2.sqT (SqT.of (K := K) (upd_same (H := upd (upd H d (NdO P w d [])) t0 (.tup [])) (a := t1) (o := .tup [.ref t0, v])))
  have lt1 := (f1.trans f2).sqT (SqT.of (K := K) (upd_same (H := upd H d (NdO P w d [])) (a := t0) (o := .tup [])))
  have hLL : (upd (upd (upd (upd H d (NdO P w d [])) t0 (.tup [])) t1 (.tup [.ref t0, v])) L (.lst [.ref t1])) L = some (.lst [.ref t1]) := upd_same
  generalize upd (upd (upd (upd H d (NdO P w d [])) t0 (.tup [])) t1 (.tup [.ref t0, v])) L (.lst [.ref t1]) = H0 at ff0 hd0 lt0 lt1 hLL
  refine while_m (fun m σ H' => ∃ (ws dn : List (List Nat × Ge)) (us : List V) (xs : List NEnt) (u3 u4 u5 u6 : Option V), m = szO ws.reverse ∧ σ = [some v, some (.ref d), some (.ref L), u3, u4, u5, u6] ∧ Fr [] H H' ∧ H' L = some (.lst us) ∧ DpAll K H' us (ws.map plData) ∧
    Nd P w K H' d xs ∧ Ents K H' xs dn ∧ dn ++ outst ws.reverse = places g ∧ ∀ x ∈ ws, Wf NoTip x.2) (szO [([], g)]) ⟨[([], g)], [], [.ref t1], [], none, none, none, none, rfl, rfl, ff0, hLL, .cons (dp_pl_of (x := ([], g)) lt0 lt1 (ff0.ge hv)) .nil, ⟨hd0, by simp⟩, ⟨rfl, .nil⟩, by simp [outst, shift_nil], fun x hx => by rw [List.mem_singleton.mp hx]; exact wf⟩ ?_ ?_
  · rintro m σ H' ⟨ws, dn, us, xs, u3, u4, u5, u6, rfl, rfl, ff, hL', hds, hnd, hen, hpl, hwf⟩
    have lu : us.length = ws.length := by rw [DpAll.length hds, List.length_map]
    have lpl : (places g).length = g.size := places_len g
    have lw : ws.length ≤ (outst ws.reverse).length := by
      have : ∀ zs : List (List Nat × Ge), zs.length ≤ (outst zs).length := by
        intro zs
        induction zs with
        | nil => exact Nat.zero_le _
        | cons z zs ih =>
          rw [outst_cons, List.length_append, List.length_map, places_len, List.length_cons]
          have := z.2.size_pos
          omega
      have q := this ws.reverse
      rwa [List.length_reverse] at q
    have lall : dn.length + (outst ws.reverse).length = g.size := by rw [← lpl, ← hpl, List.length_append]
    refine ⟨_, rfl, !us.isEmpty, .inl ⟨us, SqL.of hL', rfl⟩, ?_⟩
    refine ite2 (fun c => ?_) (fun c => ?_)
    · have une : us.length ≠ 0 := by
        intro e
        rw [List.eq_nil_of_length_eq_zero e] at c
        simp at c
      obtain ⟨ys, x, rfl⟩ : ∃ ys x, ws = ys ++ [x] := by
        rcases List.eq_nil_or_concat ws with rfl | ⟨ys, x, rfl⟩
        · exact absurd lu (by simpa using une)
        · exact ⟨ys, x, by simp⟩
      rw [List.map_append] at hds
      obtain ⟨us', u, rfl, hd1, hu1⟩ := dpAll_pop hds
      obtain ⟨a, b, q, rfl, hsa, hb, hq⟩ := dp_pl hu1
      have hx1 := hwf x (by simp)
      obtain ⟨p, tr⟩ := x
      cases tr with
      | tip ks => exact False.elim (by simpa [Wf] using hx1)
      | node l gs =>
      simp only at hsa hb hq
      have wn := hx1
      simp only [Wf] at wn
      rw [List.reverse_append, List.reverse_singleton, List.singleton_append] at hpl lall lw
      rw [outst_node] at hpl lall
      rw [List.length_cons] at lall
      have hin : (p, Ge.node l gs) ∈ places g := by rw [← hpl]; simp
      have hsh := places_short g _ hin
      simp only at hsh
      have hnew : p ∉ dn.map (·.1) := by
        have q := places_nodup g
        rw [← hpl, List.map_append, List.map_cons] at q
        intro z
        exact (List.nodup_append.mp q).2.2 p z p (by simp) rfl
      refine ⟨_, rfl, .inl ⟨rfl, _, SqL.of hL'⟩, L, _, .ref a, rfl, rfl, hL', by simp, ?_⟩
      rw [List.dropLast_concat]
      have fL : Fr [L] H' (upd H' L (.lst us')) := Fr.lst hL' (by simp)
      have g2 : Fr [] H (upd H' L (.lst us')) := ff.mut hL0
      have hL2 : upd H' L (.lst us') L = some (.lst us') := upd_same
      have hsa2 := fL.sqT hsa
      have hb2 := fL.sqT hb
      have hq2 := fL.ge hq
      have hd2 := fL.dpAll _ _ (tupy_pls _) hd1
      have hnd2 := fL.nd (by simpa using ndL) hnd
      have hen2 := hen.fr fL
      generalize upd H' L (.lst us') = H2 at fL g2 hL2 hsa2 hb2 hq2 hd2 hnd2 hen2
      refine ⟨a, _, rfl, hsa2, rfl, _, _, rfl, _, _, rfl, rfl, ?_⟩
      refine ⟨_, rfl, d, xs, rfl, hnd2, rfl, _, rfl, ?_⟩
      rw [decide_eq_false (show ¬ V.int ((xs.length : Nat) : Int) = V.int 60 by intro z; injection z with z; rw [hen.len] at z; omega)]
      refine iteF ⟨_, rfl, b, _, rfl, .inr hb2, _, _, rfl, rfl, _, rfl, ?_⟩
      rw [decide_eq_false (show ¬ (12 : Int) ≤ (((p.map fun n => V.int (n : Nat)).length : Nat) : Int) by rw [List.length_map]; omega)]
      refine iteF ⟨_, rfl, q, l, gs, rfl, hq2, wn.1, wn.2.1, _, rfl, iteF ?_⟩
      -- standing[place] = here
      refine ⟨_, rfl, _, rfl, _, rfl, d, xs, b, pkey p, rfl, rfl, hnd2, pkey_is hb2, small1000 (by rw [hen.len]; omega), ?_⟩
      obtain ⟨ep, hen3⟩ := hen2.put (x := (p, Ge.node l gs)) (b := b) hnew hq2
      rw [show nput xs (pkey p) b q = xs ++ [(pkey p, b, q)] from ep]
      have fd3 : Fr [d] H2 (upd H2 d (NdO P w d (xs ++ [(pkey p, b, q)]))) := by
        refine ⟨fun a o ha e => ?_, fun a zs e => ?_, fun a o u e => ?_⟩
        · rw [upd_ne (by simpa using ha)]; exact e
        · rw [upd_ne (fun z => by rw [z, hnd2.1] at e; cases e)]; exact e
        · rw [upd_ne (fun z => by rw [z, hnd2.1] at e; cases e)]; exact e
      have g3 : Fr [] H (upd H2 d (NdO P w d (xs ++ [(pkey p, b, q)]))) := g2.mut hdn
      have hd3 := fd3.dpAll _ _ (tupy_pls _) hd2
      have hL3 := fd3.keep L _ (by simpa using ndL.symm) hL2
      have hb3 := fd3.sqT hb2
      have hq3 := fd3.ge hq2
      have hen4 := hen3.fr fd3
      have hnd3 : Nd P w K (upd H2 d (NdO P w d (xs ++ [(pkey p, b, q)]))) d (xs ++ [(pkey p, b, q)]) := by
        refine ⟨upd_same, fun y hy => ?_⟩
        rcases List.mem_append.mp hy with h | h
        · exact fd3.nk (hnd2.2 y h)
        · rw [List.mem_singleton.mp h]
          exact pkey_is hb3
      generalize upd H2 d (NdO P w d (xs ++ [(pkey p, b, q)])) = H3 at fd3 g3 hd3 hL3 hb3 hq3 hen4 hnd3
      obtain ⟨a2, b2, ks2, rfl, hs2, hkb, hk2⟩ := dp_node hq3
      have ek : ks2.length = gs.length := ges_len hk2
      have w3 := wn.2.1
      refine ⟨_, rfl, a2, _, _, .ref b2, rfl, rfl, hs2, rfl, ?_⟩
      refine ⟨_, rfl, b2, ks2, rfl, .inr hkb, _, rfl, by decide, by decide, by omega, by omega, ?_⟩
      have en : (((ks2.length : Nat) : Int) - 0).toNat = gs.length := by omega
      rw [en]
      refine for_rangeC (fun i σ H4 => ∃ (us4 : List V) (u6' : Option V), σ = [some v, some (.ref d), some (.ref L), some (.ref b), some (.ref a2), some (.ref b2), u6'] ∧ Fr [L] H3 H4 ∧ H4 L = some (.lst us4) ∧ DpAll K H4 us4 ((ys ++ ((kidsFrom p 0 gs).drop (gs.length - i)).reverse).map plData)) ?_ ?_ ?_
      · refine ⟨us', u6, rfl, Fr.refl _ _, hL3, ?_⟩
        rw [Nat.sub_zero, List.drop_eq_nil_of_le (by rw [kids_len]; exact Nat.le_refl _), List.reverse_nil, List.append_nil]
        exact hd3
      · rintro i σ H4 hi ⟨us4, u6', rfl, f4, hL4, hd4⟩
        have hj : gs.length - 1 - i < gs.length := by omega
        obtain ⟨g1, hg1⟩ : ∃ g1, gs[gs.length - 1 - i]? = some g1 := ⟨gs[gs.length - 1 - i], List.getElem?_eq_getElem hj⟩
        obtain ⟨z, hz, hdz⟩ := ges_get' hk2 hg1
        have ei : (0 : Int) + ((gs.length : Nat) : Int) - 1 + ((i : Nat) : Int) * -1 = ((gs.length - 1 - i : Nat) : Int) := by omega
        rw [ei]
        generalize hjj : gs.length - 1 - i = j at hj hg1 hz
        have u4l : us4.length ≤ 100 := by
          rw [DpAll.length hd4, List.length_map, List.length_append, List.length_reverse, List.length_drop, kids_len]
          simp only [List.length_append, List.length_cons, List.length_nil] at lw
          rw [outst_cons, List.length_append, List.length_map, places_len] at lw
          have : (outst ys.reverse).length ≤ 60 := by
            rw [outst_app, List.length_append] at lall
            omega
          have l2 : ys.length ≤ (outst ys.reverse).length := by
            have : ∀ zs : List (List Nat × Ge), zs.length ≤ (outst zs).length := by
              intro zs
              induction zs with
              | nil => exact Nat.zero_le _
              | cons z zs ih =>
                rw [outst_cons, List.length_append, List.length_map, places_len, List.length_cons]
                have := z.2.size_pos
                omega
            have q := this ys.reverse
            rwa [List.length_reverse] at q
          omega
        refine ⟨_, rfl, .inl ⟨rfl, _, SqL.of hL4⟩, _, rfl, _, rfl, (by show 1 ≤ sizeLine; decide), fun t ht => ?_⟩
        have f5 : Fr [] H4 (upd H4 t (.tup [.int (j : Nat)])) := Fr.new ht
        refine ⟨b, t, _, _, rfl, rfl, f5.sqT (f4.sqT hb3), SqT.of upd_same, sz1000 (by rw [List.length_map]; simp; omega), fun p2 H5 f6 hp2 => ?_⟩
        have f46 := f5.trans f6
        refine ⟨_, rfl, _, rfl, b2, ks2, _, z, rfl, rfl, f46.sqT (f4.sqT hkb), atI_nat hz, (by show 2 ≤ sizeLine; decide), fun t2 ht2 => ?_⟩
        have f7 : Fr [] H5 (upd H5 t2 (.tup [.ref p2, z])) := Fr.new ht2
        have f8 := f46.trans f7
        have hL8 := f8.keep L _ (by simp) hL4
        refine ⟨L, us4, .ref t2, rfl, rfl, hL8, small1000 (by omega), ?_⟩
        have fl : Fr [L] (upd H5 t2 (.tup [.ref p2, z])) (upd (upd H5 t2 (.tup [.ref p2, z])) L (.lst (us4 ++ [.ref t2]))) := Fr.lst hL8 (by simp)
        refine ⟨us4 ++ [.ref t2], _, rfl, (f4.trans f8.mono0).trans fl, upd_same, ?_⟩
        have ed : (kidsFrom p 0 gs).drop j = (p ++ [j], g1) :: (kidsFrom p 0 gs).drop (j + 1) := by
          have hk : j < (kidsFrom p 0 gs).length := by rw [kids_len]; exact hj
          rw [List.drop_eq_getElem_cons hk]
          have q := kids_get p 0 gs j
          rw [List.getElem?_eq_getElem hk, hg1] at q
          simp only [Option.map_some, Nat.zero_add] at q
          rw [Option.some.inj q]
        rw [show gs.length - (i + 1) = j by omega, ed, List.reverse_cons, ← List.append_assoc, List.map_append, show j + 1 = gs.length - i by omega]
        refine DpAll.append (fl.dpAll _ _ (tupy_pls _) (f8.dpAll _ _ (tupy_pls _) hd4)) (.cons ?_ .nil)
        have hp2' : SqT K H5 p2 ((p ++ [j]).map fun n => V.int (n : Nat)) := by rw [List.map_append]; exact hp2
        exact dp_pl_of (x := (p ++ [j], g1)) (fl.sqT (SqT.of upd_same)) (fl.sqT (f7.sqT hp2')) (fl.ge (f8.ge (f4.ge hdz)))
      · rintro σ H4 ⟨us4, u6', rfl, f4, hL4, hd4⟩
        rw [Nat.sub_self, List.drop_zero] at hd4
        refine ⟨_, ?_, ys ++ (kidsFrom p 0 gs).reverse, dn ++ [(p, .node l gs)], us4, _, _, _, _, _, rfl, rfl, g3.off f4 hL0, hL4, hd4, f4.nd (by simpa using ndL) hnd3, hen4.fr f4, ?_, ?_⟩
        · unfold szO
          rw [List.reverse_append, List.reverse_reverse, List.reverse_append, List.reverse_singleton, List.singleton_append, outst_node, List.length_cons]
          exact Nat.lt_succ_self _
        · rw [List.reverse_append, List.reverse_reverse, List.append_assoc, List.singleton_append]
          exact hpl
        · intro y hy
          rcases List.mem_append.mp hy with h | h
          · exact hwf y (by simp [h])
          · exact wn.2.2.mem (kids_mem (List.mem_reverse.mp h))
    · have e0 : ws = [] := by
        cases us with
        | nil => exact List.eq_nil_of_length_eq_zero (by rw [← lu]; rfl)
        | cons u us => exact absurd rfl c
      subst e0
      simp [outst] at hpl
      rw [hpl] at hen
      exact ⟨_, rfl, k d xs H' ff hdn hnd hen⟩
  · rintro σ H' Q Q' h ⟨u, hu, b, hb, q⟩
    exact ⟨u, hu, b, hb, h _ _ q⟩
end
end TT


namespace TT
open PySem PySem.Spec PyProof.Rows L2

section
variable {P : Program} {w : World} {K : PySem.W.Frag} {mg : Str → Option Value} {base : Heap} {f : Addr} {fd : FuncData}
/-- what reads a part without brackets: a tuple of the part and how many signs it has; none if none stands there -/
def spRd (K : PySem.W.Frag) (br : List Nat → Option (Ge × Nat)) : Sp := fun vs H Q _ => ∃ (z : Str) (i : Nat), vs = [.str z, .int (i : Nat)] ∧ z.length ≤ 20000 ∧ i ≤ z.length ∧
  ∀ (q : Addr) (u : V) (m : Nat) (H' : Hp), Fr [] H H' → SqT K H' q [u, .int (m : Nat)] → (∀ g j, br ((TL.tl z).drop i) = some (g, j) → m = j ∧ 0 < m ∧ i + m ≤ z.length ∧ Dp K H' u g.data) → (br ((TL.tl z).drop i) = none → m = 0) → Q (.ref q) H'
theorem ok_nothing (F : Fun K "nothing_bare" "nothing_bare" s_nothing_bare f fd) (T : Txt K mg) : FnOk P w K mg base CX0 1 f fd P_nothing_bare (spRd K brNone) := by
  refine F.ok sc_nothing_bare (fun vs H Q E h => ?_) (fun cdv A outer s H vs Q E hr h => ?_)
  · obtain ⟨z, i, rfl, _⟩ := h
    rfl
  obtain ⟨z, i, rfl, _, _, k⟩ := h
  have nd := (sc_nothing_bare).nd
  refine ⟨_, pss_one (ps_ret (pe_tup (pa_cons pe_non (pa_cons pe_int pa_nil)))), ?_⟩
  refine ⟨(by show 2 ≤ sizeLine; decide), fun q hq => ?_⟩
  exact k q .non 0 _ (Fr.new hq) (SqT.of upd_same) (fun g j e => by cases e) (fun _ => rfl)
/-- a def that reads such parts, as a value -/
structure Bare (P : Program) (w : World) (K : PySem.W.Frag) (mg : Str → Option Value) (base : Heap) (br : List Nat → Option (Ge × Nat)) (fb : Addr) : Prop where
  ex : ∃ (fd : FuncData) (ps : List Str), FnOk P w K mg base CX0 1 fb fd ps (spRd K br) ∧ PySem.W.keepIn K (.ref fb) = true ∧ Binds K fd ps []
/-- a reading's step: at which sign, in which state -/
structure Stands (K : PySem.W.Frag) (H0 H : Hp) (la ra : Addr) (z : Str) (i : Nat) (L : List Str) (R : List (List Ge)) (r : List Nat) : Prop where
  m : Mach K H0 H la ra L R
  hi : i ≤ z.length
  rd : (TL.tl z).drop i = r
  s : Small L R r
theorem Stands.to {H0 H H' : Hp} {la ra : Addr} {z : Str} {i : Nat} {L : List Str} {R : List (List Ge)} {r : List Nat} (h : Stands K H0 H la ra z i L R r) (f : Fr [] H H') : Stands K H0 H' la ra z i L R r := ⟨h.m.to f, h.hi, h.rd, h.s⟩
theorem Stands.len {H0 H : Hp} {la ra : Addr} {z : Str} {i : Nat} {L : List Str} {R : List (List Ge)} {r : List Nat} (h : Stands K H0 H la ra z i L R r) : i + r.length = z.length := by
  have e := congrArg List.length h.rd
  have := h.hi
  rw [TL.len_tl] at this ⊢
  rw [List.length_drop] at e
  omega
theorem drop_more {z : Str} {i m : Nat} {r : List Nat} (h : (TL.tl z).drop i = r) : (TL.tl z).drop (i + m) = r.drop m := by rw [← h, List.drop_drop]
theorem Stands.sign {H0 H : Hp} {la ra : Addr} {z : Str} {i : Nat} {L : List Str} {R : List (List Ge)} {c : Nat} {r : List Nat} (h : Stands K H0 H la ra z i L R (c :: r)) : atI z.cps.toList (i : Int) = some c := by
  refine atI_nat ?_
  have e := congrArg List.head? h.rd
  rw [List.head?_drop] at e
  exact e
theorem Stands.zl {H0 H : Hp} {la ra : Addr} {z : Str} {i : Nat} {L : List Str} {R : List (List Ge)} {r : List Nat} (h : Stands K H0 H la ra z i L R r) (hz : z.length ≤ 20000) : z.length ≤ sizeLine := Nat.le_of_lt (small20k (by omega))
theorem fin_pos {br : List Nat → Option (Ge × Nat)} {n : Nat} {c : Cfg} {r : Rs} (h : fin br n c = some r) : ∃ m, n = m + 1 := by
  cases n with
  | zero => cases h
  | succ m => exact ⟨m, rfl⟩
theorem fin_go {br : List Nat → Option (Ge × Nat)} {n : Nat} {c d : Cfg} {r : Rs} (h : fin br (n + 1) c = some r) (e : stp br c = .go d) : fin br n d = some r := by
  simp only [fin, e] at h; exact h
theorem fin_done {br : List Nat → Option (Ge × Nat)} {n : Nat} {c : Cfg} {r r' : Rs} (h : fin br (n + 1) c = some r) (e : stp br c = .done r') : r' = r := by
  simp only [fin, e] at h; exact Option.some.inj h

def spOpened (K : PySem.W.Frag) : Sp := fun vs H Q _ => ∃ (br : List Nat → Option (Ge × Nat)) (res : Rs) (H0 : Hp) (z : Str) (i : Nat) (la ra : Addr) (L : List Str) (R : List (List Ge)) (r : List Nat) (n : Nat), vs = [.str z, .int (i : Nat), .ref la, .ref ra] ∧ z.length ≤ 20000 ∧
  Stands K H0 H la ra z i L R r ∧ fin br n (.E L R r) = some res ∧
  ∀ (i' : Nat) L' R' r' n' H', n' ≤ n → Stands K H0 H' la ra z i' L' R' r' → fin br n' (.E L' R' r') = some res → noOpen r' → Q (.int (i' : Nat)) H'
theorem ok_opened (F : Fun K "opened" "opened" s_opened f fd) (T : Txt K mg) : FnOk P w K mg base CX0 1 f fd P_opened (spOpened K) := by
  refine F.ok sc_opened (fun vs H Q E h => ?_) (fun cdv A outer s H vs Q E hr h => ?_)
  · obtain ⟨br, res, H0, z, i, la, ra, L, R, r, n, rfl, _⟩ := h
    rfl
  obtain ⟨br, res, H0, z, i, la, ra, L, R, r, n, rfl, hz, st, hf, k⟩ := h
  have nd := (sc_opened).nd
  obtain ⟨aL, mL, sL⟩ := T.LETTERS
  refine ⟨_, pss_cons (ps_while PassesOwn.never (PW.pt (pw_and (pt_cmpR (op_inK K) (pe_slice sl_str (pv 0) (po_some (pv 1)) (po_some (pe_op op_add (pv 1) pe_int))) (pe_globR mL) (by rfl)) (pw_and1 (pt_cmpR op_eq (pe_slice sl_str (pv 0) (po_some (pe_op op_add (pv 1) pe_int)) (po_some (pe_op op_add (pv 1) pe_int))) pe_str (nomark _)))))
    (pss_cons (ps_expr (pe_bmK K PySem.F.plainAttrs_list PySem.F.slot_list_append PySem.F.type_list_append mt_append (pv 2) (pa_cons (pe_ix ix_str (pv 0) (pv 1) (fun _ _ => rfl)) pa_nil)))
    (pss_cons (ps_expr (pe_bmK K PySem.F.plainAttrs_list PySem.F.slot_list_append PySem.F.type_list_append mt_append (pv 3) (pa_cons (pe_lst pa_nil) pa_nil)))
    (pss_one (ps_aug (i := 1) nd rfl (Or.inl rfl) pe_int ip_add)))))
  (pss_one (ps_ret (pv 1))), ?_⟩
  refine ⟨fun m σ H' => ∃ (i' : Nat) (L' : List Str) (R' : List (List Ge)) (r' : List Nat), m ≤ n ∧ σ = [some (.str z), some (.int (i' : Nat)), some (.ref la), some (.ref ra)] ∧ Stands K H0 H' la ra z i' L' R' r' ∧ fin br m (.E L' R' r') = some res,
    ⟨n, i, L, R, r, Nat.le_refl _, rfl, st, hf⟩, ?_⟩
  rintro m σ H' ⟨i', L', R', r', hn, rfl, st', hf'⟩
  have hzl := st'.zl hz
  have out : noOpen r' → ∃ v, [some (V.str z), some (.int (i' : Nat)), some (.ref la), some (.ref ra)][1]? = some (some v) ∧ Q v H' := fun no => ⟨_, rfl, k i' L' R' r' m H' hn st' hf' no⟩
  refine ⟨_, rfl, _, rfl, _, rfl, _, rfl, _, _, rfl, rfl, _, rfl, z, rfl, hzl, ?_⟩
  rw [cut_1, st'.rd]
  refine ⟨aL, sL6, rfl, .inr (sL H'), rfl, rfl, _, rfl, ?_⟩
  rw [if_neg (by decide), inV_sign]
  cases r' with
  | nil => exact iteF (out fun c r' e => by cases e)
  | cons c r' =>
    refine ite2 (fun hc => ?_) (fun hc => iteF (out fun c' r'' e => by injection e with e _; subst e; exact Bool.eq_false_iff.mpr hc))
    refine ⟨_, rfl, _, rfl, _, _, rfl, rfl, _, rfl, _, rfl, _, _, rfl, rfl, _, rfl, z, rfl, hzl, rfl, _, rfl, ?_⟩
    rw [cut_2, st'.rd]
    rw [show V.str "(" = V.str ⟨#[40]⟩ from rfl, sign_eq]
    cases r' with
    | nil => exact iteF (out fun c' r'' e => by cases e)
    | cons d r' =>
      refine ite2 (fun hd => ?_) (fun hd => out fun c' r'' e => by
        injection e with _ e
        injection e with e _
        subst e
        exact absurd (show headIs 40 (40 :: r') = true by simp [headIs]) hd)
      have hd' : d = 40 := of_decide_eq_true hd
      subst hd'
      obtain ⟨m, rfl⟩ := fin_pos hf'
      have hf2 := fin_go hf' (stp_open hc)
      refine ⟨_, fun _ _ z => z, ?_⟩
      obtain ⟨As, hra, rows⟩ := st'.m.rows
      have sm := st'.s
      have hlen := st'.len
      have sl := sm.l
      have se := sm.e
      have rl := rows.len
      simp only [List.length_cons] at sl hlen
      refine ⟨_, rfl, .inl ⟨rfl, _, SqL.of st'.m.hl⟩, _, rfl, _, rfl, z, _, c, rfl, rfl, hzl, st'.sign, la, _, _, rfl, rfl, st'.m.hl, ?_, ?_⟩
      · rw [List.length_map, List.length_reverse]; exact small20k (by omega)
      have hra1 : upd H' la (.lst (L'.reverse.map V.str ++ [.str ⟨#[c]⟩])) ra = some (.lst (As.reverse.map V.ref)) := by rw [upd_ne st'.m.ne.symm]; exact hra
      refine ⟨_, rfl, .inl ⟨rfl, _, SqL.of hra1⟩, Nat.zero_le _, fun p hp => ?_⟩
      have nrp : ra ≠ p := ne_of_none hra1 hp
      refine ⟨ra, _, _, rfl, rfl, (by rw [upd_ne nrp]; exact hra1), ?_, ?_⟩
      · rw [List.length_map, List.length_reverse]; exact small20k (by omega)
      refine ⟨_, rfl, _, _, rfl, rfl, m, Nat.lt_succ_self _, i' + 2, _, _, _, by omega, rfl, ⟨mach_open st'.m hra rows hp, by omega, drop_more st'.rd, ⟨?_, ?_, ?_⟩⟩, hf2⟩
      · simp only [List.length_cons, List.drop]; omega
      · simp only [List.length_cons]; omega
      · intro q hq
        rcases List.mem_cons.mp hq with rfl | hq
        · simp only [List.length_nil, List.drop]; omega
        · have := sm.k q hq
          simp only [List.length_cons, List.drop] at this ⊢; omega

def spEnded (P : Program) (w : World) (K : PySem.W.Frag) (mg : Str → Option Value) (base : Heap) : Sp := fun vs H Q _ => ∃ (br : List Nat → Option (Ge × Nat)) (g0 : Ge) (fb : Addr) (H0 : Hp) (z : Str) (i : Nat) (la ra : Addr) (L : List Str) (R : List (List Ge)) (r : List Nat) (n : Nat), vs = [.str z, .int (i : Nat), .ref fb, .ref ra] ∧ Bare P w K mg base br fb ∧ z.length ≤ 20000 ∧
  Stands K H0 H la ra z i L R r ∧ fin br n (.E L R r) = some (.ok g0) ∧ noOpen r ∧
  ∀ (i' : Nat) R' r' n' H', n' < n → Stands K H0 H' la ra z i' L R' r' → fin br n' (.A L R' r') = some (.ok g0) → Q (.int (i' : Nat)) H'
theorem ok_ended (F : Fun K "ended" "ended" s_ended f fd) (T : Txt K mg) : FnOk P w K mg base CX0 2 f fd P_ended (spEnded P w K mg base) := by
  refine F.ok sc_ended (fun vs H Q E h => ?_) (fun cdv A outer s H vs Q E hr h => ?_)
  · obtain ⟨br, g0, fb, H0, z, i, la, ra, L, R, r, n, rfl, _⟩ := h
    rfl
  obtain ⟨br, g0, fb, H0, z, i, la, ra, L, R, r, n, rfl, ⟨fdb, psb, FB, kB, bB⟩, hz, st, hf, no, k⟩ := h
  have nd := (sc_ended).nd
  obtain ⟨aL, mL, sL⟩ := T.LETTERS
  refine ⟨_, pss_cons (ps_if (pt_cmpR (op_inK K) (pe_slice sl_str (pv 0) (po_some (pv 1)) (po_some (pe_op op_add (pv 1) pe_int))) (pe_globR mL) (by rfl))
    (pss_cons (ps_expr (pe_bmK K PySem.F.plainAttrs_list PySem.F.slot_list_append PySem.F.type_list_append mt_append (pe_ix (ix_listK K) (pv 3) (pe_un un_neg pe_int) (fun _ _ => rfl)) (pa_cons (pe_tup (pa_cons (pe_ix ix_str (pv 0) (pv 1) (fun _ _ => rfl)) (pa_cons (pe_tup pa_nil) pa_nil))) pa_nil)))
    (pss_one (ps_ret (pe_op op_add (pv 1) pe_int))))
    (pss_nil))
  (pss_cons (ps_asg (pe_callL (i := 2) (f := fb) FB (hr.mono (by decide)) (x := "bare") rfl (.inl rfl) kB bB .nil pass0 (pa_cons (pv 0) (pa_cons (pv 1) pa_nil))) (pg_tupK K rfl (pgs_cons (pg_name (i := 4) nd rfl (Or.inl rfl)) (pgs_cons (pg_name (i := 5) nd rfl (Or.inl rfl)) pgs_nil))))
  (pss_cons (ps_if (pt_not (pt_truthK K (pv 5)))
    (pss_one (ps_never))
    (pss_nil))
  (pss_cons (ps_expr (pe_bmK K PySem.F.plainAttrs_list PySem.F.slot_list_append PySem.F.type_list_append mt_append (pe_ix (ix_listK K) (pv 3) (pe_un un_neg pe_int) (fun _ _ => rfl)) (pa_cons (pv 4) pa_nil)))
  (pss_one (ps_ret (pe_op op_add (pv 1) (pv 5))))))), ?_⟩
  have hzl := st.zl hz
  obtain ⟨n, rfl⟩ := fin_pos hf
  have sm := st.s
  have hlen := st.len
  have sl := sm.l
  have se := sm.e
  cases R with
  | nil => simp at se
  | cons t R =>
  have stp1 := stp_endd (br := br) (L := L) (t := t) (R := R) no
  refine ⟨_, rfl, _, rfl, _, rfl, _, rfl, _, _, rfl, rfl, _, rfl, z, rfl, hzl, ?_⟩
  rw [cut_1, st.rd]
  refine ⟨aL, sL6, rfl, .inr (sL H), rfl, rfl, _, rfl, ?_⟩
  rw [if_neg (by decide), inV_sign]
  have skt := sm.k t List.mem_cons_self
  -- what is done with a part g of m signs, as u
  have fin_ : ∀ (g : Ge) (m : Nat) (u : V) (H1 : Hp), endd br r = some (g, m) → 0 < m → m ≤ r.length → Fr [] H H1 → Dp K H1 u g.data → ∀ (a : Addr) (As : List Addr) (us : List V), H1 ra = some (.lst ((a :: As).reverse.map V.ref)) → RowsP K H0 H1 la ra (a :: As) (t :: R) → H1 a = some (.lst us) →
      Q (.int ((i + m : Nat) : Int)) (upd H1 a (.lst (us ++ [u]))) := by
    intro g m u H1 he hm hmr f1 hu a As us hra rows ha
    rw [he] at stp1
    have hf2 := fin_go hf stp1
    refine k (i + m) _ _ n _ (Nat.lt_succ_self _) ⟨mach_push (st.m.to f1) hra rows ha hu, by omega, drop_more st.rd, ⟨?_, by simpa using se, ?_⟩⟩ hf2
    · rw [List.length_drop]; omega
    · intro q hq
      rw [List.length_drop]
      rcases List.mem_cons.mp hq with rfl | hq
      · simp only [List.length_append, List.length_singleton]; omega
      · have := sm.k q (List.mem_cons_of_mem _ hq)
        omega
  by_cases hc : headF r = true
  · refine iteT' hc ?_
    cases r with
    | nil => cases hc
    | cons c r =>
    have hc' : isF c = true := hc
    obtain ⟨a, As, us, hra, rows, ha, hd⟩ := st.m.rows1
    have eu : us.length = t.length := ges_len hd
    refine ⟨_, rfl, _, rfl, ra, _, _, .ref a, rfl, rfl, SqL.of hra, ?_, .inl ⟨rfl, _, SqL.of ha⟩, _, rfl, _, rfl, z, _, c, rfl, rfl, hzl, st.sign, Nat.zero_le _, fun t0 ht0 => ⟨(by show 2 ≤ sizeLine; decide), fun t1 ht1 => ?_⟩⟩
    · rw [List.reverse_cons, List.map_append]; exact atI_last _ _
    have f0 : Fr [] H (upd H t0 (.tup [])) := Fr.new ht0
    have f1 : Fr [] (upd H t0 (.tup [])) (upd (upd H t0 (.tup [])) t1 (.tup [.str ⟨#[c]⟩, .ref t0])) := Fr.new ht1
    have ha1 := (f0.trans f1).keep _ _ (by simp) ha
    refine ⟨a, us, .ref t1, rfl, rfl, ha1, small20k (by omega), _, rfl, _, _, rfl, rfl, ?_⟩
    have n01 : t0 ≠ t1 := ne_of_none upd_same ht1
    exact fin_ (.node ⟨#[c]⟩ []) 1 (.ref t1) _ (by simp only [endd, hc', if_true]) (by omega) (by simp) (f0.trans f1) (dp_node_of (SqT.of upd_same) (SqT.of (by rw [upd_ne n01, upd_same])) (by rw [Ge.datas_nil]; exact .nil)) a As us
      ((f0.trans f1).keep _ _ (by simp) hra) (rows.fr (f0.trans f1) fun _ _ => by simp) ha1
  · refine iteF' hc ?_
    have ee : endd br r = br r := by
      cases r with
      | nil => rfl
      | cons c r =>
        have : isF c = false := Bool.eq_false_iff.mpr hc
        simp only [endd, this, Bool.false_eq_true, if_false]
    refine ⟨rfl, _, rfl, _, rfl, z, i, rfl, hz, st.hi, fun q u m H1 f1 hq hs hn => ?_⟩
    rw [st.rd] at hs hn
    refine ⟨q, _, rfl, hq, rfl, _, _, rfl, _, _, rfl, rfl, ?_⟩
    cases hb : br r with
    | none =>
      rw [ee, hb] at stp1
      have := fin_done hf stp1
      cases this
    | some gj =>
      obtain ⟨g, j⟩ := gj
      obtain ⟨rfl, hm, him, hu⟩ := hs g j hb
      refine ⟨_, rfl, _, rfl, ?_⟩
      refine iteF' (by
        have : ((m : Nat) : Int) ≠ 0 := by omega
        simp; omega) ?_
      obtain ⟨a, As, us, hra, rows, ha, hd⟩ := (st.m.to f1).rows1
      have eu : us.length = t.length := ges_len hd
      refine ⟨_, rfl, _, rfl, ra, _, _, .ref a, rfl, rfl, SqL.of hra, ?_, .inl ⟨rfl, _, SqL.of ha⟩, _, rfl, a, us, u, rfl, rfl, ha, small20k (by omega), _, rfl, _, rfl, _, _, rfl, rfl, ?_⟩
      · rw [List.reverse_cons, List.map_append]; exact atI_last _ _
      exact fin_ g m u H1 (by rw [ee, hb]) hm (by omega) f1 hu a As us hra rows ha

def noShut (L : List Str) (r : List Nat) : Prop := L ≠ [] → ∀ r', r ≠ 41 :: r'
def spShut (K : PySem.W.Frag) : Sp := fun vs H Q _ => ∃ (br : List Nat → Option (Ge × Nat)) (res : Rs) (H0 : Hp) (z : Str) (i : Nat) (la ra : Addr) (L : List Str) (R : List (List Ge)) (r : List Nat) (n : Nat), vs = [.str z, .int (i : Nat), .ref la, .ref ra] ∧ z.length ≤ 20000 ∧
  Stands K H0 H la ra z i L R r ∧ fin br n (.A L R r) = some res ∧
  ∀ (i' : Nat) L' R' r' n' H', n' ≤ n → Stands K H0 H' la ra z i' L' R' r' → fin br n' (.A L' R' r') = some res → noShut L' r' → Q (.int (i' : Nat)) H'
theorem ok_shut (F : Fun K "shut" "shut" s_shut f fd) (T : Txt K mg) : FnOk P w K mg base CX0 1 f fd P_shut (spShut K) := by
  refine F.ok sc_shut (fun vs H Q E h => ?_) (fun cdv A outer s H vs Q E hr h => ?_)
  · obtain ⟨br, res, H0, z, i, la, ra, L, R, r, n, rfl, _⟩ := h
    rfl
  obtain ⟨br, res, H0, z, i, la, ra, L, R, r, n, rfl, hz, st, hf, k⟩ := h
  have nd := (sc_shut).nd
  refine ⟨_, pss_cons (ps_while PassesOwn.never (PW.pt (pw_and (pt_truthK K (pv 2)) (pw_and1 (pt_cmpR op_eq (pe_slice sl_str (pv 0) (po_some (pv 1)) (po_some (pe_op op_add (pv 1) pe_int))) pe_str (nomark _)))))
    (pss_cons (ps_set (i := 4) nd rfl (Or.inl rfl) (pe_callTy (call_tupK K) (by rfl) T.tuple_ (by decide +kernel) (pa_cons (pe_bm0K K PySem.F.plainAttrs_list PySem.F.slot_list_pop PySem.F.type_list_pop mt_pop (pv 3)) pa_nil)))
    (pss_cons (ps_expr (pe_bmK K PySem.F.plainAttrs_list PySem.F.slot_list_append PySem.F.type_list_append mt_append (pe_ix (ix_listK K) (pv 3) (pe_un un_neg pe_int) (fun _ _ => rfl)) (pa_cons (pe_tup (pa_cons (pe_bm0K K PySem.F.plainAttrs_list PySem.F.slot_list_pop PySem.F.type_list_pop mt_pop (pv 2)) (pa_cons (pv 4) pa_nil))) pa_nil)))
    (pss_one (ps_aug (i := 1) nd rfl (Or.inl rfl) pe_int ip_add)))))
  (pss_one (ps_ret (pv 1))), ?_⟩
  refine ⟨fun m σ H' => ∃ (i' : Nat) (L' : List Str) (R' : List (List Ge)) (r' : List Nat) (u : Option V), m ≤ n ∧ σ = [some (.str z), some (.int (i' : Nat)), some (.ref la), some (.ref ra), u] ∧ Stands K H0 H' la ra z i' L' R' r' ∧ fin br m (.A L' R' r') = some res,
    ⟨n, i, L, R, r, none, Nat.le_refl _, rfl, st, hf⟩, ?_⟩
  rintro m σ H' ⟨i', L', R', r', u, hn, rfl, st', hf'⟩
  have hzl := st'.zl hz
  have out : noShut L' r' → ∃ v, [some (V.str z), some (.int (i' : Nat)), some (.ref la), some (.ref ra), u][1]? = some (some v) ∧ Q v H' := fun no => ⟨_, rfl, k i' L' R' r' m H' hn st' hf' no⟩
  refine ⟨_, rfl, _, .inl ⟨_, SqL.of st'.m.hl, rfl⟩, ?_⟩
  cases L' with
  | nil => exact iteF (out fun h => absurd rfl h)
  | cons l L' =>
  refine iteT' (by simp) ?_
  refine ⟨_, rfl, _, rfl, _, rfl, _, rfl, _, _, rfl, rfl, _, rfl, z, rfl, hzl, rfl, _, rfl, ?_⟩
  rw [cut_1, st'.rd, show V.str ")" = V.str ⟨#[41]⟩ from rfl, sign_eq]
  cases r' with
  | nil => exact iteF (out fun _ r' e => by cases e)
  | cons c r' =>
    refine ite2 (fun hc => ?_) (fun hc => out fun _ r'' e => by
      injection e with e _
      subst e
      exact absurd (show headIs 41 (41 :: r') = true by simp [headIs]) hc)
    have hc' : c = 41 := of_decide_eq_true hc
    subst hc'
    obtain ⟨m, rfl⟩ := fin_pos hf'
    have sm := st'.s
    have hlen := st'.len
    have sl := sm.l
    have se := sm.e
    simp only [List.length_cons] at sl hlen se
    match R', se with
    | [], se => simp at se
    | [_], se => simp at se
    | t :: t2 :: R', se =>
    have hf2 := fin_go hf' stp_shut
    refine ⟨_, fun _ _ z => z, ?_⟩
    obtain ⟨a, As, us, hra, rows, ha, hd⟩ := st'.m.rows1
    have rl := rows.len
    have eu : us.length = t.length := ges_len hd
    have kt := sm.k t List.mem_cons_self
    have hdl : ((a :: As).reverse.map V.ref).dropLast = As.reverse.map V.ref := by
      rw [List.reverse_cons, List.map_append]; simp
    have hll : ((l :: L').reverse.map V.str).dropLast = L'.reverse.map V.str := by
      rw [List.reverse_cons, List.map_append]; simp
    -- kids = tuple(rows.pop())
    refine ⟨_, rfl, .inl ⟨rfl, _, SqL.of hra⟩, ra, _, .ref a, rfl, rfl, hra, ?_, ?_⟩
    · rw [List.reverse_cons, List.map_append]; simp
    rw [hdl]
    have nar : a ≠ ra := (rows.ne a List.mem_cons_self).2.1
    have nal : a ≠ la := (rows.ne a List.mem_cons_self).1
    have f1 : Fr [ra] H' (upd H' ra (.lst (As.reverse.map V.ref))) := Fr.lst hra (by simp)
    have ha1 := f1.keep _ _ (by simpa using nar) ha
    have hd1 := f1.ges hd
    refine ⟨a, us, rfl, .inl ⟨SqL.of ha1, fun T0 hT0 => ?_⟩⟩
    have f2 : Fr [] (upd H' ra (.lst (As.reverse.map V.ref))) (upd (upd H' ra (.lst (As.reverse.map V.ref))) T0 (.tup us)) := Fr.new hT0
    have hra2 := f2.keep ra _ (by simp) upd_same
    obtain ⟨mP, _, _⟩ := mach_pop st'.m hra rows f2 rfl
    have hla2 := f2.keep la _ (by simp) (f1.keep la _ (by simpa using st'.m.ne) st'.m.hl)
    cases rows with
    | cons _ _ _ _ _ _ rows2 =>
    cases rows2 with
    | @cons a2 As2 _ _ us2 n2 q1 q2 q0 hh2 hd2 rows3 =>
    have ha22 : upd (upd H' ra (.lst ((a2 :: As2).reverse.map V.ref))) T0 (.tup us) a2 = some (.lst us2) := f2.keep _ _ (by simp) (f1.keep _ _ (by simpa using q2) hh2)
    have hT2 : upd (upd H' ra (.lst ((a2 :: As2).reverse.map V.ref))) T0 (.tup us) T0 = some (.tup us) := upd_same
    have hd22 := f2.ges hd1
    generalize hH2 : upd (upd H' ra (.lst ((a2 :: As2).reverse.map V.ref))) T0 (.tup us) = H2 at f2 hra2 hla2 mP ha22 hT2 hd22
    -- rows[-1].append((labels.pop(), kids))
    refine ⟨_, rfl, _, rfl, ra, _, _, .ref a2, rfl, rfl, SqL.of hra2, ?_, .inl ⟨rfl, _, SqL.of ha22⟩, _, rfl, .inl ⟨rfl, _, SqL.of hla2⟩, la, _, .str l, rfl, rfl, hla2, ?_, ?_⟩
    · rw [List.reverse_cons, List.map_append]; exact atI_last _ _
    · rw [List.reverse_cons, List.map_append]; simp
    rw [hll]
    refine ⟨_, rfl, (by show 2 ≤ sizeLine; decide), fun T1 hT1 => ?_⟩
    have fl : Fr [la] H2 (upd H2 la (.lst (L'.reverse.map V.str))) := Fr.lst hla2 (by simp)
    have f3 : Fr [] (upd H2 la (.lst (L'.reverse.map V.str))) (upd (upd H2 la (.lst (L'.reverse.map V.str))) T1 (.tup [.str l, .ref T0])) := Fr.new hT1
    have mP3 := mP.to f3
    have ha23 := f3.keep a2 _ (by simp) (fl.keep a2 _ (by simpa using q1) ha22)
    have hu : Dp K (upd (upd H2 la (.lst (L'.reverse.map V.str))) T1 (.tup [.str l, .ref T0])) (.ref T1) (Ge.node l t).data :=
      dp_node_of (SqT.of upd_same) (f3.sqT (fl.sqT (SqT.of hT2))) (f3.ges (fl.ges hd22))
    obtain ⟨a3, As3, us3, hra3, rows3', ha3, hd3⟩ := mP3.rows1
    have ea : a3 = a2 ∧ us3 = us2 := by
      have e := f3.keep ra _ (by simp) (fl.keep ra _ (by simpa using st'.m.ne.symm) hra2)
      rw [e] at hra3
      injection hra3 with hra3
      injection hra3 with hra3
      rw [List.reverse_cons, List.reverse_cons, List.map_append, List.map_append] at hra3
      have e2 := (List.append_inj' hra3 rfl).2
      simp at e2
      refine ⟨e2.symm, ?_⟩
      rw [← e2, ha23] at ha3
      injection ha3 with ha3
      injection ha3 with ha3
      exact ha3.symm
    obtain ⟨rfl, rfl⟩ := ea
    have eu2 : us3.length = t2.length := ges_len hd3
    have kt2 := sm.k t2 (by simp)
    simp only [List.length_cons] at kt kt2
    refine ⟨a3, us3, .ref T1, rfl, rfl, ha3, small20k (by omega), ?_⟩
    refine ⟨_, rfl, _, _, rfl, rfl, m, Nat.lt_succ_self _, i' + 1, _, _, _, _, by omega, rfl, ⟨mach_push mP3 hra3 rows3' ha3 hu, by omega, drop_more st'.rd, ⟨?_, ?_, ?_⟩⟩, hf2⟩
    · simp only [List.drop]; omega
    · simp only [List.length_cons] at se ⊢; omega
    · intro q hq
      rcases List.mem_cons.mp hq with rfl | hq
      · simp only [List.length_append, List.length_singleton, List.drop]; omega
      · have := sm.k q (by simp [hq])
        simp only [List.length_cons, List.drop] at this ⊢; omega

def spWhole (P : Program) (w : World) (K : PySem.W.Frag) (mg : Str → Option Value) (base : Heap) : Sp := fun vs H Q _ => ∃ (br : List Nat → Option (Ge × Nat)) (g0 : Ge) (fb : Addr) (z : Str) (n : Nat), vs = [.str z, .ref fb] ∧ Bare P w K mg base br fb ∧ z.length ≤ 20000 ∧ fin br n (.E [] [[]] (TL.tl z)) = some (.ok g0) ∧
  ∀ (v : V) H', Fr [] H H' → Dp K H' v g0.data → Q v H'
theorem ok_whole (F : Fun K "whole_read" "whole_read" s_whole_read f fd) (T : Txt K mg) (copened : Callee P w K mg base 1 "opened" P_opened (spOpened K)) (cended : Callee P w K mg base 2 "ended" P_ended (spEnded P w K mg base))
    (cshut : Callee P w K mg base 1 "shut" P_shut (spShut K)) : FnOk P w K mg base CX0 3 f fd P_whole_read (spWhole P w K mg base) := by
  refine F.ok sc_whole_read (fun vs H Q E h => ?_) (fun cdv A outer s H vs Q E hr h => ?_)
  · obtain ⟨br, g0, fb, z, n, rfl, _⟩ := h
    rfl
  obtain ⟨br, g0, fb, z, n, rfl, hB, hz, hf, k⟩ := h
  have nd := (sc_whole_read).nd
  refine ⟨_, pss_cons (ps_set (i := 2) nd rfl (Or.inl rfl) (pe_lst pa_nil))
  (pss_cons (ps_set (i := 3) nd rfl (Or.inl rfl) (pe_lst (pa_cons (pe_lst pa_nil) pa_nil)))
  (pss_cons (ps_set (i := 4) nd rfl (Or.inl rfl) pe_int)
  (pss_cons (ps_set (i := 5) nd rfl (Or.inl rfl) pe_bl)
  (pss_cons (ps_while PassesOwn.never (pt_not (pt_val (pv 5)))
    (pss_cons (ps_set (i := 4) nd rfl (Or.inl rfl) (pe_own copened hr (pa_cons (pv 0) (pa_cons (pv 4) (pa_cons (pv 2) (pa_cons (pv 3) pa_nil))))))
    (pss_cons (ps_set (i := 4) nd rfl (Or.inl rfl) (pe_own cended hr (pa_cons (pv 0) (pa_cons (pv 4) (pa_cons (pv 1) (pa_cons (pv 3) pa_nil))))))
    (pss_cons (ps_set (i := 4) nd rfl (Or.inl rfl) (pe_own cshut hr (pa_cons (pv 0) (pa_cons (pv 4) (pa_cons (pv 2) (pa_cons (pv 3) pa_nil))))))
    (pss_cons (ps_set (i := 5) nd rfl (Or.inl rfl) (pe_notT (pv 2)))
    (pss_one (ps_if (pt_not (pt_val (pv 5)))
      (pss_cons (ps_if (pt_cmpR op_ne (pe_slice sl_str (pv 0) (po_some (pv 4)) (po_some (pe_op op_add (pv 4) pe_int))) pe_str (nomark _))
        (pss_one (ps_never))
        (pss_nil))
      (pss_one (ps_aug (i := 4) nd rfl (Or.inl rfl) pe_int ip_add)))
      (pss_nil))))))))
  (pss_cons (ps_if (pt_cmpR op_lt (pv 4) (pe_callB call_len_str (by rfl) T.len_ PySem.boot_len (pa_cons (pv 0) pa_nil)) (nomark _))
    (pss_one (ps_never))
    (pss_nil))
  (pss_one (ps_ret (pe_ix (ix_listK K) (pe_ix (ix_listK K) (pv 3) pe_int (fun _ _ => rfl)) pe_int (fun _ _ => rfl))))))))), ?_⟩
  refine ⟨Nat.zero_le _, fun la hla => ⟨Nat.zero_le _, fun p hp => ⟨(by show 1 ≤ sizeLine; decide), fun ra hra => ?_⟩⟩⟩
  have m0 : Mach K H _ la ra [] [[]] := mach_new hla hp hra
  have st0 : Stands K H _ la ra z 0 [] [[]] (TL.tl z) := ⟨m0, Nat.zero_le _, rfl, ⟨by simp only [List.length_nil]; rw [TL.len_tl] at hz; omega, rfl, fun q hq => by
    rw [List.mem_singleton.mp hq, List.length_nil]
    rw [TL.len_tl] at hz
    omega⟩⟩
  refine ⟨fun m σ H' => ∃ (i : Nat) (L : List Str) (R : List (List Ge)) (r : List Nat) (e : Bool), σ = [some (.str z), some (.ref fb), some (.ref la), some (.ref ra), some (.int (i : Nat)), some (.bl e)] ∧ Stands K H H' la ra z i L R r ∧
    (e = false ∧ fin br m (.E L R r) = some (.ok g0) ∨ e = true ∧ L = [] ∧ fin br m (.A L R r) = some (.ok g0)),
    ⟨n, 0, [], [[]], TL.tl z, false, rfl, st0, .inl ⟨rfl, hf⟩⟩, ?_⟩
  rintro m σ H1 ⟨i, L, R, r, e, rfl, st, hh⟩
  refine ⟨_, rfl, _, rfl, ?_⟩
  rcases hh with ⟨rfl, hf⟩ | ⟨rfl, rfl, hf⟩
  · refine iteT ⟨_, fun _ _ z => z, ?_⟩
    refine ⟨_, rfl, _, rfl, _, rfl, _, rfl, br, .ok g0, H, z, i, la, ra, L, R, r, m, rfl, hz, st, hf, fun i1 L1 R1 r1 n1 H2 hn1 st1 hf1 no1 => ?_⟩
    refine ⟨_, rfl, _, rfl, _, rfl, _, rfl, br, g0, fb, H, z, i1, la, ra, L1, R1, r1, n1, rfl, hB, hz, st1, hf1, no1, fun i2 R2 r2 n2 H3 hn2 st2 hf2 => ?_⟩
    refine ⟨_, rfl, _, rfl, _, rfl, _, rfl, br, .ok g0, H, z, i2, la, ra, L1, R2, r2, n2, rfl, hz, st2, hf2, fun i3 L3 R3 r3 n3 H4 hn3 st3 hf3 no3 => ?_⟩
    refine ⟨_, rfl, _, .inl ⟨_, SqL.of st3.m.hl, rfl⟩, ?_⟩
    have hzl := st3.zl hz
    cases L3 with
    | nil => exact ⟨_, rfl, _, rfl, iteF ⟨n3, by omega, i3, [], R3, r3, true, rfl, st3, .inr ⟨rfl, rfl, hf3⟩⟩⟩
    | cons l L3 =>
      have e1 : (!(!((l :: L3).reverse.map V.str).isEmpty)) = false := by simp
      rw [e1]
      refine ⟨_, rfl, _, rfl, iteT ?_⟩
      refine ⟨_, rfl, _, rfl, _, rfl, _, rfl, _, _, rfl, rfl, _, rfl, z, rfl, hzl, rfl, _, rfl, ?_⟩
      rw [cut_1, st3.rd, show V.str "," = V.str ⟨#[44]⟩ from rfl, sign_eq]
      obtain ⟨n3, rfl⟩ := fin_pos hf3
      have no3' := no3 (List.cons_ne_nil _ _)
      have bad : (∀ r', r3 ≠ 44 :: r') → False := fun h => by
        have := fin_done hf3 (stp_else no3' h)
        cases this
      cases r3 with
      | nil => exact (bad fun r' e => by cases e).elim
      | cons c r3 =>
        by_cases hc : c = 44
        · subst hc
          have hf4 := fin_go hf3 stp_comma
          refine iteF' (by simp [headIs]) ?_
          have sm := st3.s
          have hlen := st3.len
          have sl := sm.l
          have se := sm.e
          simp only [List.length_cons] at hlen sl
          refine ⟨_, rfl, _, _, rfl, rfl, n3, by omega, i3 + 1, l :: L3, R3, r3, false, rfl, ⟨st3.m, by omega, drop_more st3.rd, ⟨by simp only [List.length_cons]; omega, se, fun q hq => ?_⟩⟩, .inl ⟨rfl, hf4⟩⟩
          have := sm.k q hq
          simp only [List.length_cons] at this
          omega
        · exact (bad fun r' e => hc (by injection e)).elim
  · refine iteF ?_
    have hzl := st.zl hz
    obtain ⟨m, rfl⟩ := fin_pos hf
    have se := st.s.e
    cases r with
    | cons c r =>
      have := fin_done hf stp_late
      cases this
    | nil =>
    match R, se with
    | [[]], _ =>
      have := fin_done (r' := .bad 0) hf (by simp only [stp, List.length_nil])
      cases this
    | [g :: t], _ =>
      have eg := fin_done hf stp_end
      injection eg with eg
      subst eg
      have hlen := st.len
      simp only [List.length_nil] at hlen
      refine ⟨_, rfl, _, rfl, _, rfl, hzl, _, _, rfl, rfl, _, rfl, ?_⟩
      refine iteF' (by
        have : ¬ (i : Int) < (z.length : Nat) := by omega
        simp [this]) ?_
      obtain ⟨a, As, us, hra2, rows, ha, hd⟩ := st.m.rows1
      have rl := rows.len
      have e0 : As = [] := List.eq_nil_of_length_eq_zero (by simpa using rl)
      subst e0
      obtain ⟨u, hu, hg⟩ := ges_get' (i := 0) hd rfl
      refine ⟨_, rfl, ra, _, _, .ref a, rfl, rfl, SqL.of hra2, rfl, a, us, _, u, rfl, rfl, SqL.of ha, atI_nat hu, ?_⟩
      exact k u H1 st.m.fr hg
    | _ :: _ :: _, h => simp at h

/-! ### read and written, of trees -/
def spRead (K : PySem.W.Frag) : Sp := fun vs H Q _ => ∃ (g : Ge), vs = [.str (zt (txt g))] ∧ Wf NoTip g ∧ g.size ≤ 60 ∧ g.levels ≤ 12 ∧ ∀ (v : V) H', Fr [] H H' → Dp K H' v g.data → Q v H'
theorem notip_len : ∀ ks, NoTip ks → (tipTxt ks).length ≤ 5 := fun _ h => h.elim
theorem tree_len {g : Ge} (wf : Wf NoTip g) (sz : g.size ≤ 60) : (zt (txt g)).length ≤ 360 := by
  have := txt_len notip_len g wf
  rw [zt_len]
  omega
theorem ok_read (F : Fun K "read" "read" s_read f fd) (T : Txt K mg) (cwhole_read : Callee P w K mg base 3 "whole_read" P_whole_read (spWhole P w K mg base)) (cnothing_bare : Callee P w K mg base 1 "nothing_bare" P_nothing_bare (spRd K brNone))
    (cplaces_of : Callee P w K mg base 2 "places_of" P_places_of (spPlacesOf P w K)) : FnOk P w K mg base CX0 4 f fd P_read (spRead K) := by
  refine F.ok sc_read (fun vs H Q E h => ?_) (fun cdv A outer s H vs Q E hr h => ?_)
  · obtain ⟨g, rfl, _⟩ := h
    rfl
  obtain ⟨g, rfl, wf, sz, lv, k⟩ := h
  have nd := (sc_read).nd
  refine ⟨_, pss_cons (ps_set (i := 1) nd rfl (Or.inl rfl) (pe_own cwhole_read hr (pa_cons (pv 0) (pa_cons (pe_globR cnothing_bare.mgx) pa_nil))))
  (pss_cons (ps_expr (pe_own cplaces_of hr (pa_cons (pv 1) pa_nil)))
  (pss_one (ps_ret (pv 1)))), ?_⟩
  have hl := tree_len wf sz
  obtain ⟨n, hn⟩ := fin_txt reads_none wf
  refine ⟨_, rfl, brNone, g, cnothing_bare.f, _, n, rfl, ⟨_, _, cnothing_bare.ok, cnothing_bare.kp, cnothing_bare.b⟩, by omega, hn, fun v H1 f1 hv => ?_⟩
  refine ⟨_, rfl, v, g, rfl, hv, wf, sz, lv, fun d xs H2 f2 _ _ _ => ?_⟩
  exact ⟨_, rfl, k v H2 (f1.trans f2) (f2.ge hv)⟩
def spWritten (K : PySem.W.Frag) : Sp := fun vs H Q _ => ∃ (v : V) (g : Ge), vs = [v] ∧ Dp K H v g.data ∧ Wf NoTip g ∧ g.size ≤ 60 ∧ g.levels ≤ 12 ∧ ∀ H', Fr [] H H' → Q (.str (zt (txt g))) H'
theorem ok_written (F : Fun K "written" "written" s_written f fd) (T : Txt K mg) (cpart_text : Callee P w K mg base 13 "part_text" P_part_text (spPT K 12))
    (cplaces_of : Callee P w K mg base 2 "places_of" P_places_of (spPlacesOf P w K)) : FnOk P w K mg base CX0 14 f fd P_written (spWritten K) := by
  refine F.ok sc_written (fun vs H Q E h => ?_) (fun cdv A outer s H vs Q E hr h => ?_)
  · obtain ⟨v, g, rfl, _⟩ := h
    rfl
  obtain ⟨v, g, rfl, hv, wf, sz, lv, k⟩ := h
  have nd := (sc_written).nd
  refine ⟨_, pss_cons (ps_expr (pe_own cplaces_of hr (pa_cons (pv 0) pa_nil)))
  (pss_one (ps_ret (pe_own cpart_text hr (pa_cons (pv 0) pa_nil)))), ?_⟩
  refine ⟨_, rfl, v, g, rfl, hv, wf, sz, lv, fun d xs H2 f2 _ _ _ => ?_⟩
  exact ⟨_, rfl, v, g, rfl, f2.ge hv, wf.imp (fun _ h => h.elim), lv, by omega, by omega, fun H3 f3 => k H3 (f2.trans f3)⟩
end
end TT

namespace TT
open PySem L2

/-! ### alike: the same data -/
def tyName : PyData → String
  | .none => "NoneType"
  | .bool _ => "bool"
  | .int _ => "int"
  | .str _ => "str"
  | .list _ => "list"
  | .tuple _ => "tuple"
  | .dict _ => "dict"
theorem dp_ty {K : PySem.W.Frag} {H : Hp} {v : V} {d : PyData} (h : Dp K H v d) : TyX K H v (.type (tyName d)) := by
  cases h with
  | non => exact .base .non
  | bl b => exact .base (.bl b)
  | int i => exact .base (.int i)
  | str x => exact .base (.str x)
  | lst hs _ =>
    rcases hs with (h | ⟨o, h⟩) | ⟨o, its, n, h, hc, _⟩
    · exact .base (.lst h)
    · exact .base (.frz h)
    · exact .kList h hc
  | tup hs _ =>
    rcases hs with (h | ⟨o, h⟩) | ⟨o, its, n, h, hc, _⟩
    · exact .base (.tup h)
    · exact .fTuple h
    · exact .kTuple h hc
theorem depth_mem : ∀ {ds : List PyData} {d : PyData}, d ∈ ds → d.depth ≤ PyData.depthAll ds
  | _ :: _, _, .head _ => by simp only [PyData.depthAll]; omega
  | _ :: ds, d, .tail _ h => by
    have := depth_mem (ds := ds) h
    simp only [PyData.depthAll]; omega
mutual
def fewB : PyData → Bool
  | .none => true
  | .bool _ => true
  | .int _ => true
  | .str _ => true
  | .list ds => decide (ds.length ≤ 100000) && fewAll ds
  | .tuple ds => decide (ds.length ≤ 100000) && fewAll ds
  | .dict _ => true
def fewAll : List PyData → Bool
  | [] => true
  | d :: ds => fewB d && fewAll ds
end
theorem few_mem : ∀ {ds : List PyData} {d : PyData}, d ∈ ds → fewAll ds = true → fewB d = true
  | _ :: _, _, .head _, h => by simp only [fewAll, Bool.and_eq_true] at h; exact h.1
  | _ :: ds, d, .tail _ m, h => by simp only [fewAll, Bool.and_eq_true] at h; exact few_mem m h.2
def spAlike (K : PySem.W.Frag) (n : Nat) : Sp := fun vs H Q _ => ∃ (x y : V) (d : PyData), vs = [x, y] ∧ Dp K H x d ∧ Dp K H y d ∧ d.depth + 1 ≤ n ∧ fewB d = true ∧ ∀ H', Fr [] H H' → Q (.bl true) H'
mutual
theorem fr_dp0 {K : PySem.W.Frag} {H H' : Hp} (e : Fr [] H H') : ∀ (d : PyData) (v : V), Dp K H v d → Dp K H' v d
  | .none, _, h => by cases h; exact .non
  | .bool b, _, h => by cases h; exact .bl _
  | .int i, _, h => by cases h; exact .int _
  | .str x, _, h => by cases h; exact .str _
  | .list ds, _, h => by
    cases h with
    | lst hs ha => exact .lst (e.sqL0 hs) (fr_dpAll0 e ds _ ha)
  | .tuple ds, _, h => by
    cases h with
    | tup hs ha => exact .tup (e.sqT hs) (fr_dpAll0 e ds _ ha)
  | .dict _, _, h => by cases h
theorem fr_dpAll0 {K : PySem.W.Frag} {H H' : Hp} (e : Fr [] H H') : ∀ (ds : List PyData) (vs : List V), DpAll K H vs ds → DpAll K H' vs ds
  | [], _, h => by cases h; exact .nil
  | d :: ds, _, h => by
    cases h with
    | cons h1 h2 => exact .cons (fr_dp0 e d _ h1) (fr_dpAll0 e ds _ h2)
end
theorem ok_alike (F : Fun K "_law_alike" "_law_alike" s__law_alike f fd) (T : Txt K mg) (mf : mg "_law_alike" = some (.ref f)) (bf : Binds K fd P__law_alike []) :
    ∀ n : Nat, FnOk P w K mg base CX0 (n + 1) f fd P__law_alike (spAlike K n)
  | 0 => by
    have no : ∀ vs H Q E, ¬ spAlike K 0 vs H Q E := fun vs H Q E h => by
      obtain ⟨x, y, d, _, _, _, h1, _⟩ := h
      omega
    exact ⟨fun vs H Q E h => absurd h (no vs H Q E), fun A outer s H args us vs Q E _ _ _ _ h => absurd h (no vs H Q E)⟩
  | n + 1 => by
    have c_law_alike : Callee P w K mg base (n + 1) "_law_alike" P__law_alike (spAlike K n) := ⟨f, fd, ok_alike F T mf bf n, mf, F.kp, bf⟩
    refine F.ok sc__law_alike (fun vs H Q E h => ?_) (fun cdv A outer s H vs Q E hr h => ?_)
    · obtain ⟨x, y, d, rfl, _⟩ := h
      rfl
    obtain ⟨x, y, d, rfl, hx, hy, hd, hf, k⟩ := h
    have nd := (sc__law_alike).nd
    have tx := dp_ty hx
    have ty := dp_ty hy
    have k0 := k H (Fr.refl _ _)
    cases d with
    | dict _ => cases hx
    | none =>
      cases dp_non hx
      cases dp_non hy
      refine ⟨_, pss_cons (ps_if (pt_cmp (pc_isN (pv 1)) rfl)
    (pss_one (ps_ret (pe_cmp (pc_isN (pv 0)) rfl)))
    (pss_nil))
  (pss_cons (ps_if (pt_val (pe_callB (call_isiK' K) (by rfl) T.isinstance_ (by decide +kernel) (pa_cons (pv 1) (pa_cons (pe_bltn (v := .ty "bool") (by rfl) T.bool_ (by decide +kernel) rfl) pa_nil))))
    (pss_one (ps_ret (pe_and (pe_callB (call_isiK' K) (by rfl) T.isinstance_ (by decide +kernel) (pa_cons (pv 0) (pa_cons (pe_bltn (v := .ty "bool") (by rfl) T.bool_ (by decide +kernel) rfl) pa_nil))) (pe_one (pe_cmpR op_eq (pv 0) (pv 1) (nomark _))))))
    (pss_nil))
  (pss_cons (ps_if (pt_val (pe_callB (call_isiK' K) (by rfl) T.isinstance_ (by decide +kernel) (pa_cons (pv 1) (pa_cons (pe_bltn (v := .ty "int") (by rfl) T.int_ (by decide +kernel) rfl) pa_nil))))
    (pss_one (ps_ret (pe_and (pe_callB (call_isiK' K) (by rfl) T.isinstance_ (by decide +kernel) (pa_cons (pv 0) (pa_cons (pe_bltn (v := .ty "int") (by rfl) T.int_ (by decide +kernel) rfl) pa_nil))) (pe_and (pe_not (pe_callB (call_isiK' K) (by rfl) T.isinstance_ (by decide +kernel) (pa_cons (pv 0) (pa_cons (pe_bltn (v := .ty "bool") (by rfl) T.bool_ (by decide +kernel) rfl) pa_nil)))) (pe_one (pe_cmpR op_eq (pv 0) (pv 1) (nomark _)))))))
    (pss_nil))
  (pss_cons (ps_if (pt_val (pe_callB (call_isiK' K) (by rfl) T.isinstance_ (by decide +kernel) (pa_cons (pv 1) (pa_cons (pe_bltn (v := .ty "str") (by rfl) T.str_ (by decide +kernel) rfl) pa_nil))))
    (pss_one (ps_ret (pe_and (pe_callB (call_isiK' K) (by rfl) T.isinstance_ (by decide +kernel) (pa_cons (pv 0) (pa_cons (pe_bltn (v := .ty "str") (by rfl) T.str_ (by decide +kernel) rfl) pa_nil))) (pe_one (pe_cmpR op_eq (pv 0) (pv 1) (nomark _))))))
    (pss_nil))
  (pss_cons (ps_if (PW.pt (pw_or (pt_cmpR op_ne (pe_callB (call_isiK' K) (by rfl) T.isinstance_ (by decide +kernel) (pa_cons (pv 1) (pa_cons (pe_bltn (v := .ty "tuple") (by rfl) T.tuple_ (by decide +kernel) rfl) pa_nil))) (pe_callB (call_isiK' K) (by rfl) T.isinstance_ (by decide +kernel) (pa_cons (pv 0) (pa_cons (pe_bltn (v := .ty "tuple") (by rfl) T.tuple_ (by decide +kernel) rfl) pa_nil))) (nomark _)) (pw_or1 (pt_cmpR op_ne (pe_callB (call_isiK' K) (by rfl) T.isinstance_ (by decide +kernel) (pa_cons (pv 1) (pa_cons (pe_bltn (v := .ty "list") (by rfl) T.list_ (by decide +kernel) rfl) pa_nil))) (pe_callB (call_isiK' K) (by rfl) T.isinstance_ (by decide +kernel) (pa_cons (pv 0) (pa_cons (pe_bltn (v := .ty "list") (by rfl) T.list_ (by decide +kernel) rfl) pa_nil))) (nomark _)))))
    (pss_one (ps_ret pe_bl))
    (pss_nil))
  (pss_cons (ps_if (pt_cmpR op_ne (pe_callB (call_lenK K) (by rfl) T.len_ PySem.boot_len (pa_cons (pv 0) pa_nil)) (pe_callB (call_lenK K) (by rfl) T.len_ PySem.boot_len (pa_cons (pv 1) pa_nil)) (nomark _))
    (pss_one (ps_ret pe_bl))
    (pss_nil))
  (pss_cons (ps_for PassesOwn.never rfl (pi_range1 (by rfl) T.range_ (pa_cons (pe_callB (call_lenK K) (by rfl) T.len_ PySem.boot_len (pa_cons (pv 1) pa_nil)) pa_nil)) (pg_name (i := 2) nd rfl (Or.inl rfl))
    (pss_one (ps_if (pt_not (pt_val (pe_own c_law_alike hr (pa_cons (pe_ix (ix_listK K) (pv 0) (pv 2) (fun _ _ => rfl)) (pa_cons (pe_ix (ix_listK K) (pv 1) (pv 2) (fun _ _ => rfl)) pa_nil)))))
      (pss_one (ps_ret pe_bl))
      (pss_nil))))
  (pss_one (ps_ret pe_bl)))))))), ?_⟩
      exact ⟨_, rfl, _, rfl, iteT ⟨_, rfl, k0⟩⟩
    | bool b =>
      change TyX K H _ (.type "bool") at tx ty
      cases hx
      cases hy
      refine ⟨_, pss_cons (ps_if (pt_cmp (pc_isN (pv 1)) rfl)
    (pss_one (ps_ret (pe_cmp (pc_isN (pv 0)) rfl)))
    (pss_nil))
  (pss_cons (ps_if (pt_val (pe_callB (call_isiK' K) (by rfl) T.isinstance_ (by decide +kernel) (pa_cons (pv 1) (pa_cons (pe_bltn (v := .ty "bool") (by rfl) T.bool_ (by decide +kernel) rfl) pa_nil))))
    (pss_one (ps_ret (pe_and (pe_callB (call_isiK' K) (by rfl) T.isinstance_ (by decide +kernel) (pa_cons (pv 0) (pa_cons (pe_bltn (v := .ty "bool") (by rfl) T.bool_ (by decide +kernel) rfl) pa_nil))) (pe_one (pe_cmpR op_eq (pv 0) (pv 1) (nomark _))))))
    (pss_nil))
  (pss_cons (ps_if (pt_val (pe_callB (call_isiK' K) (by rfl) T.isinstance_ (by decide +kernel) (pa_cons (pv 1) (pa_cons (pe_bltn (v := .ty "int") (by rfl) T.int_ (by decide +kernel) rfl) pa_nil))))
    (pss_one (ps_ret (pe_and (pe_callB (call_isiK' K) (by rfl) T.isinstance_ (by decide +kernel) (pa_cons (pv 0) (pa_cons (pe_bltn (v := .ty "int") (by rfl) T.int_ (by decide +kernel) rfl) pa_nil))) (pe_and (pe_not (pe_callB (call_isiK' K) (by rfl) T.isinstance_ (by decide +kernel) (pa_cons (pv 0) (pa_cons (pe_bltn (v := .ty "bool") (by rfl) T.bool_ (by decide +kernel) rfl) pa_nil)))) (pe_one (pe_cmpR op_eq (pv 0) (pv 1) (nomark _)))))))
    (pss_nil))
  (pss_cons (ps_if (pt_val (pe_callB (call_isiK' K) (by rfl) T.isinstance_ (by decide +kernel) (pa_cons (pv 1) (pa_cons (pe_bltn (v := .ty "str") (by rfl) T.str_ (by decide +kernel) rfl) pa_nil))))
    (pss_one (ps_ret (pe_and (pe_callB (call_isiK' K) (by rfl) T.isinstance_ (by decide +kernel) (pa_cons (pv 0) (pa_cons (pe_bltn (v := .ty "str") (by rfl) T.str_ (by decide +kernel) rfl) pa_nil))) (pe_one (pe_cmpR op_eq (pv 0) (pv 1) (nomark _))))))
    (pss_nil))
  (pss_cons (ps_if (PW.pt (pw_or (pt_cmpR op_ne (pe_callB (call_isiK' K) (by rfl) T.isinstance_ (by decide +kernel) (pa_cons (pv 1) (pa_cons (pe_bltn (v := .ty "tuple") (by rfl) T.tuple_ (by decide +kernel) rfl) pa_nil))) (pe_callB (call_isiK' K) (by rfl) T.isinstance_ (by decide +kernel) (pa_cons (pv 0) (pa_cons (pe_bltn (v := .ty "tuple") (by rfl) T.tuple_ (by decide +kernel) rfl) pa_nil))) (nomark _)) (pw_or1 (pt_cmpR op_ne (pe_callB (call_isiK' K) (by rfl) T.isinstance_ (by decide +kernel) (pa_cons (pv 1) (pa_cons (pe_bltn (v := .ty "list") (by rfl) T.list_ (by decide +kernel) rfl) pa_nil))) (pe_callB (call_isiK' K) (by rfl) T.isinstance_ (by decide +kernel) (pa_cons (pv 0) (pa_cons (pe_bltn (v := .ty "list") (by rfl) T.list_ (by decide +kernel) rfl) pa_nil))) (nomark _)))))
    (pss_one (ps_ret pe_bl))
    (pss_nil))
  (pss_cons (ps_if (pt_cmpR op_ne (pe_callB (call_lenK K) (by rfl) T.len_ PySem.boot_len (pa_cons (pv 0) pa_nil)) (pe_callB (call_lenK K) (by rfl) T.len_ PySem.boot_len (pa_cons (pv 1) pa_nil)) (nomark _))
    (pss_one (ps_ret pe_bl))
    (pss_nil))
  (pss_cons (ps_for PassesOwn.never rfl (pi_range1 (by rfl) T.range_ (pa_cons (pe_callB (call_lenK K) (by rfl) T.len_ PySem.boot_len (pa_cons (pv 1) pa_nil)) pa_nil)) (pg_name (i := 2) nd rfl (Or.inl rfl))
    (pss_one (ps_if (pt_not (pt_val (pe_own c_law_alike hr (pa_cons (pe_ix (ix_listK K) (pv 0) (pv 2) (fun _ _ => rfl)) (pa_cons (pe_ix (ix_listK K) (pv 1) (pv 2) (fun _ _ => rfl)) pa_nil)))))
      (pss_one (ps_ret pe_bl))
      (pss_nil))))
  (pss_one (ps_ret pe_bl)))))))), ?_⟩
      refine ⟨_, rfl, _, rfl, iteF ?_⟩
      refine ⟨_, rfl, _, .ty "bool", _, _, true, rfl, .ty _, ty, kit_ty (by decide +kernel), _, rfl, iteT ?_⟩
      refine ⟨_, rfl, _, .ty "bool", _, _, true, rfl, .ty _, tx, kit_ty (by decide +kernel), _, rfl, iteT ?_⟩
      refine ⟨_, rfl, _, rfl, rfl, ?_⟩
      rw [decide_eq_true rfl]
      exact k0
    | int i =>
      change TyX K H _ (.type "int") at tx ty
      cases hx
      cases hy
      refine ⟨_, pss_cons (ps_if (pt_cmp (pc_isN (pv 1)) rfl)
    (pss_one (ps_ret (pe_cmp (pc_isN (pv 0)) rfl)))
    (pss_nil))
  (pss_cons (ps_if (pt_val (pe_callB (call_isiK' K) (by rfl) T.isinstance_ (by decide +kernel) (pa_cons (pv 1) (pa_cons (pe_bltn (v := .ty "bool") (by rfl) T.bool_ (by decide +kernel) rfl) pa_nil))))
    (pss_one (ps_ret (pe_and (pe_callB (call_isiK' K) (by rfl) T.isinstance_ (by decide +kernel) (pa_cons (pv 0) (pa_cons (pe_bltn (v := .ty "bool") (by rfl) T.bool_ (by decide +kernel) rfl) pa_nil))) (pe_one (pe_cmpR op_eq (pv 0) (pv 1) (nomark _))))))
    (pss_nil))
  (pss_cons (ps_if (pt_val (pe_callB (call_isiK' K) (by rfl) T.isinstance_ (by decide +kernel) (pa_cons (pv 1) (pa_cons (pe_bltn (v := .ty "int") (by rfl) T.int_ (by decide +kernel) rfl) pa_nil))))
    (pss_one (ps_ret (pe_and (pe_callB (call_isiK' K) (by rfl) T.isinstance_ (by decide +kernel) (pa_cons (pv 0) (pa_cons (pe_bltn (v := .ty "int") (by rfl) T.int_ (by decide +kernel) rfl) pa_nil))) (pe_and (pe_not (pe_callB (call_isiK' K) (by rfl) T.isinstance_ (by decide +kernel) (pa_cons (pv 0) (pa_cons (pe_bltn (v := .ty "bool") (by rfl) T.bool_ (by decide +kernel) rfl) pa_nil)))) (pe_one (pe_cmpR op_eq (pv 0) (pv 1) (nomark _)))))))
    (pss_nil))
  (pss_cons (ps_if (pt_val (pe_callB (call_isiK' K) (by rfl) T.isinstance_ (by decide +kernel) (pa_cons (pv 1) (pa_cons (pe_bltn (v := .ty "str") (by rfl) T.str_ (by decide +kernel) rfl) pa_nil))))
    (pss_one (ps_ret (pe_and (pe_callB (call_isiK' K) (by rfl) T.isinstance_ (by decide +kernel) (pa_cons (pv 0) (pa_cons (pe_bltn (v := .ty "str") (by rfl) T.str_ (by decide +kernel) rfl) pa_nil))) (pe_one (pe_cmpR op_eq (pv 0) (pv 1) (nomark _))))))
    (pss_nil))
  (pss_cons (ps_if (PW.pt (pw_or (pt_cmpR op_ne (pe_callB (call_isiK' K) (by rfl) T.isinstance_ (by decide +kernel) (pa_cons (pv 1) (pa_cons (pe_bltn (v := .ty "tuple") (by rfl) T.tuple_ (by decide +kernel) rfl) pa_nil))) (pe_callB (call_isiK' K) (by rfl) T.isinstance_ (by decide +kernel) (pa_cons (pv 0) (pa_cons (pe_bltn (v := .ty "tuple") (by rfl) T.tuple_ (by decide +kernel) rfl) pa_nil))) (nomark _)) (pw_or1 (pt_cmpR op_ne (pe_callB (call_isiK' K) (by rfl) T.isinstance_ (by decide +kernel) (pa_cons (pv 1) (pa_cons (pe_bltn (v := .ty "list") (by rfl) T.list_ (by decide +kernel) rfl) pa_nil))) (pe_callB (call_isiK' K) (by rfl) T.isinstance_ (by decide +kernel) (pa_cons (pv 0) (pa_cons (pe_bltn (v := .ty "list") (by rfl) T.list_ (by decide +kernel) rfl) pa_nil))) (nomark _)))))
    (pss_one (ps_ret pe_bl))
    (pss_nil))
  (pss_cons (ps_if (pt_cmpR op_ne (pe_callB (call_lenK K) (by rfl) T.len_ PySem.boot_len (pa_cons (pv 0) pa_nil)) (pe_callB (call_lenK K) (by rfl) T.len_ PySem.boot_len (pa_cons (pv 1) pa_nil)) (nomark _))
    (pss_one (ps_ret pe_bl))
    (pss_nil))
  (pss_cons (ps_for PassesOwn.never rfl (pi_range1 (by rfl) T.range_ (pa_cons (pe_callB (call_lenK K) (by rfl) T.len_ PySem.boot_len (pa_cons (pv 1) pa_nil)) pa_nil)) (pg_name (i := 2) nd rfl (Or.inl rfl))
    (pss_one (ps_if (pt_not (pt_val (pe_own c_law_alike hr (pa_cons (pe_ix (ix_listK K) (pv 0) (pv 2) (fun _ _ => rfl)) (pa_cons (pe_ix (ix_listK K) (pv 1) (pv 2) (fun _ _ => rfl)) pa_nil)))))
      (pss_one (ps_ret pe_bl))
      (pss_nil))))
  (pss_one (ps_ret pe_bl)))))))), ?_⟩
      refine ⟨_, rfl, _, rfl, iteF ?_⟩
      refine ⟨_, rfl, _, .ty "bool", _, _, false, rfl, .ty _, ty, kit_ty (by decide +kernel), _, rfl, iteF ?_⟩
      refine ⟨_, rfl, _, .ty "int", _, _, true, rfl, .ty _, ty, kit_ty (by decide +kernel), _, rfl, iteT ?_⟩
      refine ⟨_, rfl, _, .ty "int", _, _, true, rfl, .ty _, tx, kit_ty (by decide +kernel), _, rfl, iteT ?_⟩
      refine ⟨_, rfl, _, .ty "bool", _, _, false, rfl, .ty _, tx, kit_ty (by decide +kernel), _, rfl, _, rfl, iteT ?_⟩
      refine ⟨_, rfl, _, rfl, rfl, ?_⟩
      rw [decide_eq_true rfl]
      exact k0
    | str z =>
      change TyX K H _ (.type "str") at tx ty
      cases hx
      cases hy
      refine ⟨_, pss_cons (ps_if (pt_cmp (pc_isN (pv 1)) rfl)
    (pss_one (ps_ret (pe_cmp (pc_isN (pv 0)) rfl)))
    (pss_nil))
  (pss_cons (ps_if (pt_val (pe_callB (call_isiK' K) (by rfl) T.isinstance_ (by decide +kernel) (pa_cons (pv 1) (pa_cons (pe_bltn (v := .ty "bool") (by rfl) T.bool_ (by decide +kernel) rfl) pa_nil))))
    (pss_one (ps_ret (pe_and (pe_callB (call_isiK' K) (by rfl) T.isinstance_ (by decide +kernel) (pa_cons (pv 0) (pa_cons (pe_bltn (v := .ty "bool") (by rfl) T.bool_ (by decide +kernel) rfl) pa_nil))) (pe_one (pe_cmpR op_eq (pv 0) (pv 1) (nomark _))))))
    (pss_nil))
  (pss_cons (ps_if (pt_val (pe_callB (call_isiK' K) (by rfl) T.isinstance_ (by decide +kernel) (pa_cons (pv 1) (pa_cons (pe_bltn (v := .ty "int") (by rfl) T.int_ (by decide +kernel) rfl) pa_nil))))
    (pss_one (ps_ret (pe_and (pe_callB (call_isiK' K) (by rfl) T.isinstance_ (by decide +kernel) (pa_cons (pv 0) (pa_cons (pe_bltn (v := .ty "int") (by rfl) T.int_ (by decide +kernel) rfl) pa_nil))) (pe_and (pe_not (pe_callB (call_isiK' K) (by rfl) T.isinstance_ (by decide +kernel) (pa_cons (pv 0) (pa_cons (pe_bltn (v := .ty "bool") (by rfl) T.bool_ (by decide +kernel) rfl) pa_nil)))) (pe_one (pe_cmpR op_eq (pv 0) (pv 1) (nomark _)))))))
    (pss_nil))
  (pss_cons (ps_if (pt_val (pe_callB (call_isiK' K) (by rfl) T.isinstance_ (by decide +kernel) (pa_cons (pv 1) (pa_cons (pe_bltn (v := .ty "str") (by rfl) T.str_ (by decide +kernel) rfl) pa_nil))))
    (pss_one (ps_ret (pe_and (pe_callB (call_isiK' K) (by rfl) T.isinstance_ (by decide +kernel) (pa_cons (pv 0) (pa_cons (pe_bltn (v := .ty "str") (by rfl) T.str_ (by decide +kernel) rfl) pa_nil))) (pe_one (pe_cmpR op_eq (pv 0) (pv 1) (nomark _))))))
    (pss_nil))
  (pss_cons (ps_if (PW.pt (pw_or (pt_cmpR op_ne (pe_callB (call_isiK' K) (by rfl) T.isinstance_ (by decide +kernel) (pa_cons (pv 1) (pa_cons (pe_bltn (v := .ty "tuple") (by rfl) T.tuple_ (by decide +kernel) rfl) pa_nil))) (pe_callB (call_isiK' K) (by rfl) T.isinstance_ (by decide +kernel) (pa_cons (pv 0) (pa_cons (pe_bltn (v := .ty "tuple") (by rfl) T.tuple_ (by decide +kernel) rfl) pa_nil))) (nomark _)) (pw_or1 (pt_cmpR op_ne (pe_callB (call_isiK' K) (by rfl) T.isinstance_ (by decide +kernel) (pa_cons (pv 1) (pa_cons (pe_bltn (v := .ty "list") (by rfl) T.list_ (by decide +kernel) rfl) pa_nil))) (pe_callB (call_isiK' K) (by rfl) T.isinstance_ (by decide +kernel) (pa_cons (pv 0) (pa_cons (pe_bltn (v := .ty "list") (by rfl) T.list_ (by decide +kernel) rfl) pa_nil))) (nomark _)))))
    (pss_one (ps_ret pe_bl))
    (pss_nil))
  (pss_cons (ps_if (pt_cmpR op_ne (pe_callB (call_lenK K) (by rfl) T.len_ PySem.boot_len (pa_cons (pv 0) pa_nil)) (pe_callB (call_lenK K) (by rfl) T.len_ PySem.boot_len (pa_cons (pv 1) pa_nil)) (nomark _))
    (pss_one (ps_ret pe_bl))
    (pss_nil))
  (pss_cons (ps_for PassesOwn.never rfl (pi_range1 (by rfl) T.range_ (pa_cons (pe_callB (call_lenK K) (by rfl) T.len_ PySem.boot_len (pa_cons (pv 1) pa_nil)) pa_nil)) (pg_name (i := 2) nd rfl (Or.inl rfl))
    (pss_one (ps_if (pt_not (pt_val (pe_own c_law_alike hr (pa_cons (pe_ix (ix_listK K) (pv 0) (pv 2) (fun _ _ => rfl)) (pa_cons (pe_ix (ix_listK K) (pv 1) (pv 2) (fun _ _ => rfl)) pa_nil)))))
      (pss_one (ps_ret pe_bl))
      (pss_nil))))
  (pss_one (ps_ret pe_bl)))))))), ?_⟩
      refine ⟨_, rfl, _, rfl, iteF ?_⟩
      refine ⟨_, rfl, _, .ty "bool", _, _, false, rfl, .ty _, ty, kit_ty (by decide +kernel), _, rfl, iteF ?_⟩
      refine ⟨_, rfl, _, .ty "int", _, _, false, rfl, .ty _, ty, kit_ty (by decide +kernel), _, rfl, iteF ?_⟩
      refine ⟨_, rfl, _, .ty "str", _, _, true, rfl, .ty _, ty, kit_ty (by decide +kernel), _, rfl, iteT ?_⟩
      refine ⟨_, rfl, _, .ty "str", _, _, true, rfl, .ty _, tx, kit_ty (by decide +kernel), _, rfl, iteT ?_⟩
      refine ⟨_, rfl, _, rfl, rfl, ?_⟩
      rw [decide_eq_true rfl]
      exact k0
    | list ds =>
      change TyX K H _ (.type "list") at tx ty
      cases hx with
      | @lst a xs _ hxs hxd =>
      cases hy with
      | @lst b ys _ hys hyd =>
      simp only [PyData.depth] at hd
      simp only [fewB, Bool.and_eq_true, decide_eq_true_eq] at hf
      refine ⟨_, pss_cons (ps_if (pt_cmp (pc_isN (pv 1)) rfl)
    (pss_one (ps_ret (pe_cmp (pc_isN (pv 0)) rfl)))
    (pss_nil))
  (pss_cons (ps_if (pt_val (pe_callB (call_isiK' K) (by rfl) T.isinstance_ (by decide +kernel) (pa_cons (pv 1) (pa_cons (pe_bltn (v := .ty "bool") (by rfl) T.bool_ (by decide +kernel) rfl) pa_nil))))
    (pss_one (ps_ret (pe_and (pe_callB (call_isiK' K) (by rfl) T.isinstance_ (by decide +kernel) (pa_cons (pv 0) (pa_cons (pe_bltn (v := .ty "bool") (by rfl) T.bool_ (by decide +kernel) rfl) pa_nil))) (pe_one (pe_cmpR op_eq (pv 0) (pv 1) (nomark _))))))
    (pss_nil))
  (pss_cons (ps_if (pt_val (pe_callB (call_isiK' K) (by rfl) T.isinstance_ (by decide +kernel) (pa_cons (pv 1) (pa_cons (pe_bltn (v := .ty "int") (by rfl) T.int_ (by decide +kernel) rfl) pa_nil))))
    (pss_one (ps_ret (pe_and (pe_callB (call_isiK' K) (by rfl) T.isinstance_ (by decide +kernel) (pa_cons (pv 0) (pa_cons (pe_bltn (v := .ty "int") (by rfl) T.int_ (by decide +kernel) rfl) pa_nil))) (pe_and (pe_not (pe_callB (call_isiK' K) (by rfl) T.isinstance_ (by decide +kernel) (pa_cons (pv 0) (pa_cons (pe_bltn (v := .ty "bool") (by rfl) T.bool_ (by decide +kernel) rfl) pa_nil)))) (pe_one (pe_cmpR op_eq (pv 0) (pv 1) (nomark _)))))))
    (pss_nil))
  (pss_cons (ps_if (pt_val (pe_callB (call_isiK' K) (by rfl) T.isinstance_ (by decide +kernel) (pa_cons (pv 1) (pa_cons (pe_bltn (v := .ty "str") (by rfl) T.str_ (by decide +kernel) rfl) pa_nil))))
    (pss_one (ps_ret (pe_and (pe_callB (call_isiK' K) (by rfl) T.isinstance_ (by decide +kernel) (pa_cons (pv 0) (pa_cons (pe_bltn (v := .ty "str") (by rfl) T.str_ (by decide +kernel) rfl) pa_nil))) (pe_one (pe_cmpR op_eq (pv 0) (pv 1) (nomark _))))))
    (pss_nil))
  (pss_cons (ps_if (PW.pt (pw_or (pt_cmpR op_ne (pe_callB (call_isiK' K) (by rfl) T.isinstance_ (by decide +kernel) (pa_cons (pv 1) (pa_cons (pe_bltn (v := .ty "tuple") (by rfl) T.tuple_ (by decide +kernel) rfl) pa_nil))) (pe_callB (call_isiK' K) (by rfl) T.isinstance_ (by decide +kernel) (pa_cons (pv 0) (pa_cons (pe_bltn (v := .ty "tuple") (by rfl) T.tuple_ (by decide +kernel) rfl) pa_nil))) (nomark _)) (pw_or1 (pt_cmpR op_ne (pe_callB (call_isiK' K) (by rfl) T.isinstance_ (by decide +kernel) (pa_cons (pv 1) (pa_cons (pe_bltn (v := .ty "list") (by rfl) T.list_ (by decide +kernel) rfl) pa_nil))) (pe_callB (call_isiK' K) (by rfl) T.isinstance_ (by decide +kernel) (pa_cons (pv 0) (pa_cons (pe_bltn (v := .ty "list") (by rfl) T.list_ (by decide +kernel) rfl) pa_nil))) (nomark _)))))
    (pss_one (ps_ret pe_bl))
    (pss_nil))
  (pss_cons (ps_if (pt_cmpR op_ne (pe_callB (call_lenK K) (by rfl) T.len_ PySem.boot_len (pa_cons (pv 0) pa_nil)) (pe_callB (call_lenK K) (by rfl) T.len_ PySem.boot_len (pa_cons (pv 1) pa_nil)) (nomark _))
    (pss_one (ps_ret pe_bl))
    (pss_nil))
  (pss_cons (ps_for PassesOwn.never rfl (pi_range1 (by rfl) T.range_ (pa_cons (pe_callB (call_lenK K) (by rfl) T.len_ PySem.boot_len (pa_cons (pv 1) pa_nil)) pa_nil)) (pg_name (i := 2) nd rfl (Or.inl rfl))
    (pss_one (ps_if (pt_not (pt_val (pe_own c_law_alike hr (pa_cons (pe_ix (ix_listK K) (pv 0) (pv 2) (fun _ _ => rfl)) (pa_cons (pe_ix (ix_listK K) (pv 1) (pv 2) (fun _ _ => rfl)) pa_nil)))))
      (pss_one (ps_ret pe_bl))
      (pss_nil))))
  (pss_one (ps_ret pe_bl)))))))), ?_⟩
      refine ⟨_, rfl, _, rfl, iteF ?_⟩
      refine ⟨_, rfl, _, .ty "bool", _, _, false, rfl, .ty _, ty, kit_ty (by decide +kernel), _, rfl, iteF ?_⟩
      refine ⟨_, rfl, _, .ty "int", _, _, false, rfl, .ty _, ty, kit_ty (by decide +kernel), _, rfl, iteF ?_⟩
      refine ⟨_, rfl, _, .ty "str", _, _, false, rfl, .ty _, ty, kit_ty (by decide +kernel), _, rfl, iteF ?_⟩
      refine ⟨_, rfl, _, .ty "tuple", _, _, false, rfl, .ty _, ty, kit_ty (by decide +kernel), _, rfl, _, .ty "tuple", _, _, false, rfl, .ty _, tx, kit_ty (by decide +kernel), rfl, _, rfl, iteF ?_⟩
      refine ⟨_, rfl, _, .ty "list", _, _, true, rfl, .ty _, ty, kit_ty (by decide +kernel), _, rfl, _, .ty "list", _, _, true, rfl, .ty _, tx, kit_ty (by decide +kernel), rfl, _, rfl, iteF ?_⟩
      have e1 := DpAll.length hxd
      have e2 := DpAll.length hyd
      refine ⟨_, rfl, a, xs, rfl, .inl hxs, _, rfl, b, ys, rfl, .inl hys, rfl, _, rfl, ?_⟩
      refine ite2 (fun c => absurd c (by rw [e1, e2]; simp)) (fun _ => ?_)
      refine ⟨_, rfl, b, ys, rfl, .inl hys, _, rfl, by omega, by omega, ?_⟩
      refine for_range (lo := 0) (n := ys.length) (fun i σ H' => (∃ u, σ = [some (.ref a), some (.ref b), u]) ∧ Fr [] H H') ⟨⟨none, rfl⟩, Fr.refl _ _⟩ ?_ ?_
      · rintro i σ H' hi ⟨⟨u, rfl⟩, ff⟩
        obtain ⟨x, hxi⟩ : ∃ x, xs[i]? = some x := ⟨xs[i]'(by omega), List.getElem?_eq_getElem _⟩
        obtain ⟨y, hyi⟩ : ∃ y, ys[i]? = some y := ⟨ys[i]'(by omega), List.getElem?_eq_getElem _⟩
        obtain ⟨d1, g1, hd1⟩ := DpAll.get hxd hxi
        obtain ⟨d2, g2, hd2⟩ := DpAll.get hyd hyi
        have : d2 = d1 := by rw [g1] at g2; exact (Option.some.inj g2).symm
        subst this
        have ax : atI xs (0 + (i : Int)) = some x := by rw [Int.zero_add]; exact atI_nat hxi
        have ay : atI ys (0 + (i : Int)) = some y := by rw [Int.zero_add]; exact atI_nat hyi
        have md := List.mem_of_getElem? g1
        have dm := depth_mem md
        refine ⟨_, rfl, _, rfl, a, xs, _, x, rfl, rfl, ff.sqL0 hxs, ax, _, rfl, _, rfl, b, ys, _, y, rfl, rfl, ff.sqL0 hys, ay, x, y, _, rfl, fr_dp0 ff _ _ hd1, fr_dp0 ff _ _ hd2, by omega, few_mem md hf.2, fun H2 f2 => ⟨_, rfl, ?_⟩⟩
        exact ⟨⟨_, rfl⟩, ff.trans f2⟩
      · rintro σ H' ⟨_, ff⟩
        exact k H' ff
    | tuple ds =>
      change TyX K H _ (.type "tuple") at tx ty
      cases hx with
      | @tup a xs _ hxs hxd =>
      cases hy with
      | @tup b ys _ hys hyd =>
      simp only [PyData.depth] at hd
      simp only [fewB, Bool.and_eq_true, decide_eq_true_eq] at hf
      refine ⟨_, pss_cons (ps_if (pt_cmp (pc_isN (pv 1)) rfl)
    (pss_one (ps_ret (pe_cmp (pc_isN (pv 0)) rfl)))
    (pss_nil))
  (pss_cons (ps_if (pt_val (pe_callB (call_isiK' K) (by rfl) T.isinstance_ (by decide +kernel) (pa_cons (pv 1) (pa_cons (pe_bltn (v := .ty "bool") (by rfl) T.bool_ (by decide +kernel) rfl) pa_nil))))
    (pss_one (ps_ret (pe_and (pe_callB (call_isiK' K) (by rfl) T.isinstance_ (by decide +kernel) (pa_cons (pv 0) (pa_cons (pe_bltn (v := .ty "bool") (by rfl) T.bool_ (by decide +kernel) rfl) pa_nil))) (pe_one (pe_cmpR op_eq (pv 0) (pv 1) (nomark _))))))
    (pss_nil))
  (pss_cons (ps_if (pt_val (pe_callB (call_isiK' K) (by rfl) T.isinstance_ (by decide +kernel) (pa_cons (pv 1) (pa_cons (pe_bltn (v := .ty "int") (by rfl) T.int_ (by decide +kernel) rfl) pa_nil))))
    (pss_one (ps_ret (pe_and (pe_callB (call_isiK' K) (by rfl) T.isinstance_ (by decide +kernel) (pa_cons (pv 0) (pa_cons (pe_bltn (v := .ty "int") (by rfl) T.int_ (by decide +kernel) rfl) pa_nil))) (pe_and (pe_not (pe_callB (call_isiK' K) (by rfl) T.isinstance_ (by decide +kernel) (pa_cons (pv 0) (pa_cons (pe_bltn (v := .ty "bool") (by rfl) T.bool_ (by decide +kernel) rfl) pa_nil)))) (pe_one (pe_cmpR op_eq (pv 0) (pv 1) (nomark _)))))))
    (pss_nil))
  (pss_cons (ps_if (pt_val (pe_callB (call_isiK' K) (by rfl) T.isinstance_ (by decide +kernel) (pa_cons (pv 1) (pa_cons (pe_bltn (v := .ty "str") (by rfl) T.str_ (by decide +kernel) rfl) pa_nil))))
    (pss_one (ps_ret (pe_and (pe_callB (call_isiK' K) (by rfl) T.isinstance_ (by decide +kernel) (pa_cons (pv 0) (pa_cons (pe_bltn (v := .ty "str") (by rfl) T.str_ (by decide +kernel) rfl) pa_nil))) (pe_one (pe_cmpR op_eq (pv 0) (pv 1) (nomark _))))))
    (pss_nil))
  (pss_cons (ps_if (PW.pt (pw_or (pt_cmpR op_ne (pe_callB (call_isiK' K) (by rfl) T.isinstance_ (by decide +kernel) (pa_cons (pv 1) (pa_cons (pe_bltn (v := .ty "tuple") (by rfl) T.tuple_ (by decide +kernel) rfl) pa_nil))) (pe_callB (call_isiK' K) (by rfl) T.isinstance_ (by decide +kernel) (pa_cons (pv 0) (pa_cons (pe_bltn (v := .ty "tuple") (by rfl) T.tuple_ (by decide +kernel) rfl) pa_nil))) (nomark _)) (pw_or1 (pt_cmpR op_ne (pe_callB (call_isiK' K) (by rfl) T.isinstance_ (by decide +kernel) (pa_cons (pv 1) (pa_cons (pe_bltn (v := .ty "list") (by rfl) T.list_ (by decide +kernel) rfl) pa_nil))) (pe_callB (call_isiK' K) (by rfl) T.isinstance_ (by decide +kernel) (pa_cons (pv 0) (pa_cons (pe_bltn (v := .ty "list") (by rfl) T.list_ (by decide +kernel) rfl) pa_nil))) (nomark _)))))
    (pss_one (ps_ret pe_bl))
    (pss_nil))
  (pss_cons (ps_if (pt_cmpR op_ne (pe_callB (call_lenK K) (by rfl) T.len_ PySem.boot_len (pa_cons (pv 0) pa_nil)) (pe_callB (call_lenK K) (by rfl) T.len_ PySem.boot_len (pa_cons (pv 1) pa_nil)) (nomark _))
    (pss_one (ps_ret pe_bl))
    (pss_nil))
  (pss_cons (ps_for PassesOwn.never rfl (pi_range1 (by rfl) T.range_ (pa_cons (pe_callB (call_lenK K) (by rfl) T.len_ PySem.boot_len (pa_cons (pv 1) pa_nil)) pa_nil)) (pg_name (i := 2) nd rfl (Or.inl rfl))
    (pss_one (ps_if (pt_not (pt_val (pe_own c_law_alike hr (pa_cons (pe_ix (ix_tupK K) (pv 0) (pv 2) (fun _ _ => rfl)) (pa_cons (pe_ix (ix_tupK K) (pv 1) (pv 2) (fun _ _ => rfl)) pa_nil)))))
      (pss_one (ps_ret pe_bl))
      (pss_nil))))
  (pss_one (ps_ret pe_bl)))))))), ?_⟩
      refine ⟨_, rfl, _, rfl, iteF ?_⟩
      refine ⟨_, rfl, _, .ty "bool", _, _, false, rfl, .ty _, ty, kit_ty (by decide +kernel), _, rfl, iteF ?_⟩
      refine ⟨_, rfl, _, .ty "int", _, _, false, rfl, .ty _, ty, kit_ty (by decide +kernel), _, rfl, iteF ?_⟩
      refine ⟨_, rfl, _, .ty "str", _, _, false, rfl, .ty _, ty, kit_ty (by decide +kernel), _, rfl, iteF ?_⟩
      refine ⟨_, rfl, _, .ty "tuple", _, _, true, rfl, .ty _, ty, kit_ty (by decide +kernel), _, rfl, _, .ty "tuple", _, _, true, rfl, .ty _, tx, kit_ty (by decide +kernel), rfl, _, rfl, iteF ?_⟩
      refine ⟨_, rfl, _, .ty "list", _, _, false, rfl, .ty _, ty, kit_ty (by decide +kernel), _, rfl, _, .ty "list", _, _, false, rfl, .ty _, tx, kit_ty (by decide +kernel), rfl, _, rfl, iteF ?_⟩
      have e1 := DpAll.length hxd
      have e2 := DpAll.length hyd
      refine ⟨_, rfl, a, xs, rfl, .inr hxs, _, rfl, b, ys, rfl, .inr hys, rfl, _, rfl, ?_⟩
      refine ite2 (fun c => absurd c (by rw [e1, e2]; simp)) (fun _ => ?_)
      refine ⟨_, rfl, b, ys, rfl, .inr hys, _, rfl, by omega, by omega, ?_⟩
      refine for_range (lo := 0) (n := ys.length) (fun i σ H' => (∃ u, σ = [some (.ref a), some (.ref b), u]) ∧ Fr [] H H') ⟨⟨none, rfl⟩, Fr.refl _ _⟩ ?_ ?_
      · rintro i σ H' hi ⟨⟨u, rfl⟩, ff⟩
        obtain ⟨x, hxi⟩ : ∃ x, xs[i]? = some x := ⟨xs[i]'(by omega), List.getElem?_eq_getElem _⟩
        obtain ⟨y, hyi⟩ : ∃ y, ys[i]? = some y := ⟨ys[i]'(by omega), List.getElem?_eq_getElem _⟩
        obtain ⟨d1, g1, hd1⟩ := DpAll.get hxd hxi
        obtain ⟨d2, g2, hd2⟩ := DpAll.get hyd hyi
        have : d2 = d1 := by rw [g1] at g2; exact (Option.some.inj g2).symm
        subst this
        have ax : atI xs (0 + (i : Int)) = some x := by rw [Int.zero_add]; exact atI_nat hxi
        have ay : atI ys (0 + (i : Int)) = some y := by rw [Int.zero_add]; exact atI_nat hyi
        have md := List.mem_of_getElem? g1
        have dm := depth_mem md
        refine ⟨_, rfl, _, rfl, a, xs, _, x, rfl, rfl, ff.sqT hxs, ax, _, rfl, _, rfl, b, ys, _, y, rfl, rfl, ff.sqT hys, ay, x, y, _, rfl, fr_dp0 ff _ _ hd1, fr_dp0 ff _ _ hd2, by omega, few_mem md hf.2, fun H2 f2 => ⟨_, rfl, ?_⟩⟩
        exact ⟨⟨_, rfl⟩, ff.trans f2⟩
      · rintro σ H' ⟨_, ff⟩
        exact k H' ff
end TT


namespace TT
open PySem PySem.Spec PyProof.Rows L2
theorem sizes_mem {gs : List Ge} {g : Ge} {i : Nat} (h : gs[i]? = some g) : g.size ≤ Ge.sizes gs := by
  have q := congrArg Ge.sizes (List.take_append_drop i gs)
  rw [Ge.sizes_append, List.drop_eq_getElem_cons (List.getElem?_eq_some_iff.mp h).1] at q
  simp only [Ge.sizes] at q
  have e : gs[i]'((List.getElem?_eq_some_iff.mp h).1) = g := (List.getElem?_eq_some_iff.mp h).2
  rw [e] at q
  omega
mutual
theorem few_ge {T : List NestedKey → Prop} (hT : ∀ ks, T ks → fewAll (NestedKey.datas ks) = true ∧ ks.length ≤ 100000) : ∀ g : Ge, Wf T g → fewB g.data = true
  | .tip ks, h => by
    simp only [Wf] at h
    rw [Ge.data_tip]
    simp only [fewB, (hT ks h).1, Bool.and_true, decide_eq_true_eq]
    rw [nkdatas_len]
    exact (hT ks h).2
  | .node l gs, h => by
    simp only [Wf] at h
    have q := few_ges hT gs h.2.2
    have h3 := h.2.1
    rw [Ge.data_node]
    simp only [fewB, fewAll, q, Bool.and_true, decide_eq_true_eq, List.length_cons, List.length_nil, Bool.true_and, Bool.and_eq_true]
    refine ⟨by omega, ?_⟩
    rw [Ge.datas_map, List.length_map]
    omega
theorem few_ges {T : List NestedKey → Prop} (hT : ∀ ks, T ks → fewAll (NestedKey.datas ks) = true ∧ ks.length ≤ 100000) : ∀ gs : List Ge, WfAll T gs → fewAll (Ge.datas gs) = true
  | [], _ => by rw [Ge.datas_nil]; rfl
  | g :: gs, h => by
    simp only [WfAll] at h
    rw [Ge.datas_cons, fewAll, few_ge hT g h.1, few_ges hT gs h.2]
    rfl
end
section
variable {P : Program} {w : World} {K : PySem.W.Frag} {mg : Str → Option Value} {base : Heap} {f : Addr} {fd : FuncData}
def spText (K : PySem.W.Frag) (n : Nat) : Sp := fun vs H Q _ => ∃ (v : V) (g : Ge), vs = [v] ∧ Dp K H v g.data ∧ Wf NoTip g ∧ g.levels ≤ n ∧ g.levels ≤ 30 ∧ g.size ≤ 1000 ∧ ∀ H', Fr [] H H' → Q (.str (zt (txt g))) H'
theorem ok_text (F : Fun K "_law_text" "_law_text" s__law_text f fd) (T : Txt K mg) (mf : mg "_law_text" = some (.ref f)) (bf : Binds K fd P__law_text []) :
    ∀ n : Nat, FnOk P w K mg base CX0 (n + 1) f fd P__law_text (spText K n)
  | 0 => by
    have no : ∀ vs H Q E, ¬ spText K 0 vs H Q E := fun vs H Q E h => by
      obtain ⟨v, g, _, _, _, h1, _⟩ := h
      have := g.levels_pos
      omega
    exact ⟨fun vs H Q E h => absurd h (no vs H Q E), fun A outer s H args us vs Q E _ _ _ _ h => absurd h (no vs H Q E)⟩
  | n + 1 => by
    have c_law_text : Callee P w K mg base (n + 1) "_law_text" P__law_text (spText K n) := ⟨f, fd, ok_text F T mf bf n, mf, F.kp, bf⟩
    refine F.ok sc__law_text (fun vs H Q E h => ?_) (fun cdv A outer s H vs Q E hr h => ?_)
    · obtain ⟨v, g, rfl, _⟩ := h
      rfl
    obtain ⟨v, g, rfl, hv, wf, lv, l30, sz, k⟩ := h
    have nd := (sc__law_text).nd
    have hu := hr.units
    refine ⟨_, pss_cons (ps_if (pt_cmpR (op_eqK K hu) (pe_ix (ix_tupK K) (pv 0) pe_int (fun _ _ => rfl)) (pe_tup pa_nil) (nomark _))
    (pss_one (ps_ret (pe_ix (ix_tupK K) (pv 0) pe_int (fun _ _ => rfl))))
    (pss_nil))
  (pss_one (ps_ret (pe_op op_add_str (pe_op op_add_str (pe_op op_add_str (pe_ix (ix_tupK K) (pv 0) pe_int (fun _ _ => rfl)) pe_str) (pe_joinK K pe_str (pe_lc (own := [("_law_kid", 1)]) (g := gName 1) (tt := tYes) (by rfl) nd (pi_tupK K (pe_ix (ix_tupK K) (pv 0) pe_int (fun _ _ => rfl))) (blkOk_by (N := N__law_text) (sc := defScope s__law_text) (own := [("_law_kid", 1)]) (by decide +kernel)) (fun _ _ _ _ _ => (pg_name (i := 1) nd rfl (Or.inl rfl))) (fun _ _ _ _ _ => pts_nil) (fun _ _ _ _ _ => (pe_own c_law_text hr (pa_cons (pv 1) pa_nil)))))) pe_str))), ?_⟩
    cases g with
    | tip ks => exact False.elim (by simpa [Wf] using wf)
    | node l gs =>
      obtain ⟨a, b, us, rfl, hs, hb, hd⟩ := dp_node hv
      have wn := wf
      simp only [Wf] at wn
      simp only [Ge.levels] at lv l30
      simp only [Ge.size] at sz
      have eu : us.length = gs.length := ges_len hd
      obtain ⟨cl, rfl, el, _⟩ := isL_sign wn.1
      refine ⟨_, rfl, a, _, _, .ref b, rfl, rfl, hs, rfl, Nat.zero_le _, fun q hq => ?_⟩
      have f2 : Fr [] H (upd H q (.tup [])) := Fr.new hq
      refine ⟨.tuple (Ge.datas gs), .tuple [], .tup (f2.sqT hb) (f2.ges hd), .tup (SqT.of upd_same) .nil, shaped_ges noTip_lay wn.2.2 (by omega), shaped_tup0, _, rfl, ?_⟩
      rw [eqv_nil]
      cases gs with
      | nil =>
        refine iteT ⟨_, rfl, a, _, _, .str ⟨#[cl]⟩, rfl, rfl, f2.sqT hs, rfl, ?_⟩
        have q := k _ f2
        rw [txt_leaf, ← isL_zt] at q
        exact q
      | cons g0 gs0 =>
        refine iteF' (by simp) ?_
        generalize hgs : g0 :: gs0 = gs at *
        have gne : gs ≠ [] := by rw [← hgs]; simp
        have h3 := wn.2.1
        have tlen := txts_len notip_len gs wn.2.2
        have jl := joinL_len [44] (txts gs)
        rw [if_neg (by intro e; rw [txts_map] at e; exact gne (List.map_eq_nil_iff.mp e))] at jl
        simp only [List.length_singleton] at jl
        have tl2 : (txts gs).length = gs.length := by rw [txts_map, List.length_map]
        refine ⟨_, rfl, a, _, _, .str ⟨#[cl]⟩, rfl, rfl, f2.sqT hs, rfl, _, _, rfl, rfl, (by show 1 + 1 ≤ sizeLine; decide), ⟨_, rfl⟩, _, rfl, a, _, _, .ref b, rfl, rfl, f2.sqT hs, rfl, b, rfl, ⟨_, f2.sqT hb⟩, fun D hD => ?_⟩
        refine lc_tup (K := K) (a := b) (xs := us) (fun i H' => Fr [] H H' ∧ H' D = some (.lst (((txts (gs.take i)).map zt).map V.str))) ⟨f2.trans (Fr.new hD), by rw [upd_same]; simp [txts]⟩ (fun i H' _ p => p.1.sqT hb) ?_ ?_
        · rintro i x H' hx ⟨ff, hDi⟩
          obtain ⟨g, hg, hgx⟩ := ges_get hd hx
          have hmem : g ∈ gs := List.mem_of_getElem? hg
          have hlv := Ge.levels_mem hmem
          have hsz := sizes_mem hg
          refine ⟨rfl, _, rfl, x, g, rfl, ff.ge hgx, wn.2.2.mem hmem, by omega, by omega, by omega, fun H3 f3 => ?_⟩
          have hD3 := f3.keep D _ (by simp) hDi
          refine ⟨_, hD3, ?_, ((ff.trans f3).mut (f2.free hD)), ?_⟩
          · rw [List.length_map, List.length_map, txts_map, List.length_map]
            exact small1000 (by rw [List.length_take]; omega)
          · rw [upd_same, take_succ' hg, txts_map, txts_map]
            simp
        · rintro H' ⟨ff, hDi⟩
          rw [eu, List.take_length] at hDi
          refine ⟨_, D, (txts gs).map zt, rfl, rfl, .inl (SqL.of hDi), ?_, ?_⟩
          · rw [zt_lens, List.length_map, tl2]
            show _ + gs.length * 1 ≤ _
            omega
          · have ej : PySem.Txt.join (Str.ofString ",") ((txts gs).map zt) = zt (TL.joinL [44] (txts gs)) := zt_join [44] (txts gs)
            refine ⟨_, _, rfl, rfl, ?_, _, _, rfl, rfl, ?_, ?_⟩
            · rw [ej, zt_len, TL.len_tl, TL.tl_append, sizeLine_eq]
              show 2 + _ ≤ _
              omega
            · rw [ej, TL.len_tl, TL.tl_append, TL.tl_append, tl_zt, sizeLine_eq]
              show ([cl] ++ [40] ++ TL.joinL [44] (txts gs)).length + 1 ≤ _
              simp only [List.length_append, List.length_singleton]
              omega
            · rw [ej]
              have e : (⟨#[cl]⟩ : Str) ++ Str.ofString "(" ++ zt (TL.joinL [44] (txts gs)) ++ Str.ofString ")" = zt (txt (.node ⟨#[cl]⟩ gs)) := by
                apply zt_of
                rw [TL.tl_append, TL.tl_append, TL.tl_append, txt_node _ gne, tl_zt]
                show [cl] ++ [40] ++ TL.joinL [44] (txts gs) ++ [41] = [cl] ++ 40 :: TL.joinL [44] (txts gs) ++ [41]
                simp
              have q := k H' ff
              rw [← e] at q
              exact q
theorem letters_all : LettersOk (Str.ofString "abcdef") := by
  refine ⟨by decide +kernel, by decide +kernel, ?_⟩
  decide +kernel
def spLaw19 (K : PySem.W.Frag) : Sp := fun vs H Q _ => ∃ (a : Addr) (ns : List Int), vs = [.ref a] ∧ SqL K H a (ns.map V.int) ∧ ns.length ≤ 63 ∧ ∀ H', Q (.bl true) H'
theorem ok_law (F : Fun K "law" "law" s_law f fd) (T : Txt K mg) (c_law_begun : Callee P w K mg base 1 "_law_begun" P__law_begun (spBegun K)) (c_law_tree : Callee P w K mg base 14 "_law_tree" P__law_tree (spTree K))
    (c_law_text : Callee P w K mg base 13 "_law_text" P__law_text (spText K 12)) (cwritten : Callee P w K mg base 14 "written" P_written (spWritten K)) (cread : Callee P w K mg base 4 "read" P_read (spRead K)) (c_law_alike : Callee P w K mg base 26 "_law_alike" P__law_alike (spAlike K 25)) :
    FnOk P w K mg base CX0 27 f fd P_law (spLaw19 K) := by
  refine F.ok sc_law (fun vs H Q E h => ?_) (fun cdv A outer s H vs Q E hr h => ?_)
  · obtain ⟨a, ns, rfl, _⟩ := h
    rfl
  obtain ⟨a, ns, rfl, hS, hl, k⟩ := h
  have nd := (sc_law).nd
  refine ⟨_, pss_cons (ps_set (i := 1) nd rfl (Or.inl rfl) (pe_own c_law_begun hr (pa_cons (pv 0) pa_nil)))
  (pss_cons (ps_for PassesOwn.never rfl (pi_range1 (by rfl) T.range_ (pa_cons pe_int pa_nil)) (pg_name (i := 2) nd rfl (Or.inl rfl))
    (pss_cons (ps_set (i := 3) nd rfl (Or.inl rfl) (pe_own c_law_tree hr (pa_cons (pv 1) (pa_cons pe_str pa_nil))))
    (pss_cons (ps_set (i := 4) nd rfl (Or.inl rfl) (pe_own c_law_text hr (pa_cons (pv 3) pa_nil)))
    (pss_cons (ps_if (PW.pt (pw_or (pt_not (pt_val (pe_own c_law_alike hr (pa_cons (pe_own cwritten hr (pa_cons (pv 3) pa_nil)) (pa_cons (pv 4) pa_nil))))) (pw_or1 (pt_not (pt_val (pe_own c_law_alike hr (pa_cons (pe_own cread hr (pa_cons (pv 4) pa_nil)) (pa_cons (pv 3) pa_nil))))))))
      (pss_one (ps_ret pe_bl))
      (pss_nil))
    (pss_one (ps_if (pt_cmpR op_ne (pe_own cwritten hr (pa_cons (pe_own cread hr (pa_cons (pv 4) pa_nil)) pa_nil)) (pv 4) (nomark _))
      (pss_one (ps_ret pe_bl))
      (pss_nil)))))))
  (pss_one (ps_ret pe_bl))), ?_⟩
  refine ⟨_, rfl, a, ns, rfl, hS, hl, fun b q H1 f1 nb nq hB => ?_⟩
  refine ⟨6, rfl, by decide, by decide, ?_⟩
  refine for_range (lo := 0) (n := 6) (fun i σ H' => ∃ (u2 u3 u4 : Option V), σ = [some (.ref a), some (.ref b), u2, u3, u4] ∧ BoxAt H' b q) ⟨_, _, _, rfl, hB⟩ ?_ ?_
  · rintro i σ H' hi ⟨u2, u3, u4, rfl, hB'⟩
    refine ⟨_, rfl, b, q, _, rfl, hB', letters_all, fun g v H2 wf lv sz f2 hB2 hv => ?_⟩
    refine ⟨_, rfl, v, g, rfl, hv, wf, lv, by omega, by omega, fun H3 f3 => ?_⟩
    have hv3 := f3.ge hv
    refine ⟨_, rfl, v, g, rfl, hv3, wf, sz, lv, fun H4 f4 => ?_⟩
    refine ⟨_, rfl, _, _, .str (zt (txt g)), rfl, .str _, .str _, (by simp [PyData.depth]), rfl, fun H5 f5 => ⟨_, rfl, iteF ?_⟩⟩
    have f35 := f4.trans f5
    refine ⟨_, rfl, g, rfl, wf, sz, lv, fun v2 H6 f6 hv2 => ?_⟩
    have f36 := f35.trans f6
    have lay := lay_ge noTip_lay g wf
    refine ⟨_, rfl, v2, v, g.data, rfl, hv2, f36.ge hv3, by omega, few_ge (fun _ h => h.elim) g wf, fun H7 f7 => ⟨_, rfl, iteF ?_⟩⟩
    have f37 := f36.trans f7
    refine ⟨_, rfl, g, rfl, wf, sz, lv, fun v3 H8 f8 hv8 => ?_⟩
    refine ⟨v3, g, rfl, hv8, wf, sz, lv, fun H9 f9 => ?_⟩
    refine ⟨_, rfl, rfl, _, rfl, ?_⟩
    refine iteF' (by simp) ?_
    exact ⟨_, _, _, rfl, hB2.fr0 (((f3.trans f37).trans f8).trans f9)⟩
  · rintro σ H' _
    exact k H'
end
end TT

namespace TT
open PySem PySem.Spec PyProof.Rows L2
/-! ### where each def stands -/
structure At (K : PySem.W.Frag) (x : Str) (st : Stmt) (f : Addr) (fd : FuncData) : Prop where
  nm : PySem.W.nsIn K mainGlobals x = some (some (.ref f))
  F : Fun K x x st f fd
theorem at_mk {K : PySem.W.Frag} {x : Str} {st : Stmt} {f : Addr} {oc : Value} {od an : Option Addr} {osl : Array (Option Value)} {kV doc pm cdv ct : Value} (a : PySem.W.nsIn K mainGlobals x = some (some (.ref f)))
    (l : K.lookup f = some ⟨oc, od, .func (PySem.W.fnOf x x (defArgs st) (defBody st) (defScope st) .none kV doc pm an cdv ct), osl⟩) (c : PySem.W.codeIn K cdv x = true) (k : PySem.W.keepIn K (.ref f) = true) : ∃ f fd, At K x st f fd := ⟨_, _, a, fun_mk l c k⟩
abbrev AtX {K : PySem.W.Frag} {h : Heap} (_ : K.In h) (x : Str) (st : Stmt) : Prop := ∃ f fd, At K x st f fd
abbrev TxtX {K : PySem.W.Frag} {h : Heap} (_ : K.In h) (mg : Str → Option Value) : Prop := Txt K mg
theorem tup_mk {K : PySem.W.Frag} {h : Heap} {mg : Str → Option Value} (X : K.In h) (G : h.Ns mainGlobals mg) {x : Str} {a : Addr} {od : Option Addr} {its : Array Value} {n : Nat} {sl : Array (Option Value)} {us : List V} (e : PySem.W.nsIn K mainGlobals x = some (some (.ref a)))
    (l : K.lookup a = some ⟨.type "tuple", od, .seq its n, sl⟩) (z : its.size ≤ sizeLine) (v : Vals us its.toList) : ∃ a, mg x = some (.ref a) ∧ ∀ H, SqT K H a us :=
  ⟨a, PySem.W.mg_of X G e, fun H => .inr ⟨_, its, n, l, rfl, rfl, z, v⟩⟩
section
variable {l : PySem.W.OpenLaw} {w : World} {K : PySem.W.Frag} {h : Heap} {mg : Str → Option Value}
theorem txt_mk (X : K.In h) (G : h.Ns mainGlobals mg) {t_MOST_KIDS t_MOST_PLACES t_TREE_LEVELS : Tok} {a_LETTERS : Addr} {d_LETTERS : Option Addr} {n_LETTERS : Nat} {s_LETTERS : Array (Option Value)} {t_LETTERS0 t_LETTERS1 t_LETTERS2 t_LETTERS3 t_LETTERS4 t_LETTERS5 : Tok} {a_ANY : Addr} {d_ANY : Option Addr} {n_ANY : Nat} {s_ANY : Array (Option Value)} {t_ANY0 : Tok} {a_LEAF : Addr} {d_LEAF : Option Addr} {n_LEAF : Nat} {s_LEAF : Array (Option Value)} {t_LEAF0 : Tok}
    (z_bool : PySem.W.nsIn K mainGlobals "bool" = some none)
    (z_int : PySem.W.nsIn K mainGlobals "int" = some none)
    (z_isinstance : PySem.W.nsIn K mainGlobals "isinstance" = some none)
    (z_len : PySem.W.nsIn K mainGlobals "len" = some none)
    (z_list : PySem.W.nsIn K mainGlobals "list" = some none)
    (z_range : PySem.W.nsIn K mainGlobals "range" = some none)
    (z_reversed : PySem.W.nsIn K mainGlobals "reversed" = some none)
    (z_str : PySem.W.nsIn K mainGlobals "str" = some none)
    (z_tuple : PySem.W.nsIn K mainGlobals "tuple" = some none)
    (i_MOST_KIDS : PySem.W.nsIn K mainGlobals "MOST_KIDS" = some (some (.int 3 t_MOST_KIDS)))
    (i_MOST_PLACES : PySem.W.nsIn K mainGlobals "MOST_PLACES" = some (some (.int 60 t_MOST_PLACES)))
    (i_TREE_LEVELS : PySem.W.nsIn K mainGlobals "TREE_LEVELS" = some (some (.int 12 t_TREE_LEVELS)))
    (e_LETTERS : PySem.W.nsIn K mainGlobals "LETTERS" = some (some (.ref a_LETTERS)))
    (l_LETTERS : K.lookup a_LETTERS = some ⟨.type "tuple", d_LETTERS, .seq #[.str (Str.ofString "a") t_LETTERS0, .str (Str.ofString "b") t_LETTERS1, .str (Str.ofString "c") t_LETTERS2, .str (Str.ofString "d") t_LETTERS3, .str (Str.ofString "e") t_LETTERS4, .str (Str.ofString "f") t_LETTERS5] n_LETTERS, s_LETTERS⟩)
    (e_ANY : PySem.W.nsIn K mainGlobals "ANY" = some (some (.ref a_ANY)))
    (l_ANY : K.lookup a_ANY = some ⟨.type "tuple", d_ANY, .seq #[.str (Str.ofString "any") t_ANY0] n_ANY, s_ANY⟩)
    (e_LEAF : PySem.W.nsIn K mainGlobals "LEAF" = some (some (.ref a_LEAF)))
    (l_LEAF : K.lookup a_LEAF = some ⟨.type "tuple", d_LEAF, .seq #[.str (Str.ofString "leaf") t_LEAF0] n_LEAF, s_LEAF⟩) : Txt K mg where
  bool_ := PySem.W.mg_none_of X G z_bool
  int_ := PySem.W.mg_none_of X G z_int
  isinstance_ := PySem.W.mg_none_of X G z_isinstance
  len_ := PySem.W.mg_none_of X G z_len
  list_ := PySem.W.mg_none_of X G z_list
  range_ := PySem.W.mg_none_of X G z_range
  reversed_ := PySem.W.mg_none_of X G z_reversed
  str_ := PySem.W.mg_none_of X G z_str
  tuple_ := PySem.W.mg_none_of X G z_tuple
  LETTERS := tup_mk X G e_LETTERS l_LETTERS (by show 6 ≤ sizeLine; decide) (.cons ⟨t_LETTERS0, rfl⟩ (.cons ⟨t_LETTERS1, rfl⟩ (.cons ⟨t_LETTERS2, rfl⟩ (.cons ⟨t_LETTERS3, rfl⟩ (.cons ⟨t_LETTERS4, rfl⟩ (.cons ⟨t_LETTERS5, rfl⟩ .nil))))))
  ANY := tup_mk X G e_ANY l_ANY (by show 1 ≤ sizeLine; decide) (.cons ⟨t_ANY0, rfl⟩ .nil)
  LEAF := tup_mk X G e_LEAF l_LEAF (by show 1 ≤ sizeLine; decide) (.cons ⟨t_LEAF0, rfl⟩ .nil)
  MOST_KIDS := ⟨_, PySem.W.mg_of X G i_MOST_KIDS⟩
  MOST_PLACES := ⟨_, PySem.W.mg_of X G i_MOST_PLACES⟩
  TREE_LEVELS := ⟨_, PySem.W.mg_of X G i_TREE_LEVELS⟩
theorem law_at {fa : Addr} (X : K.In h) (G : h.Ns mainGlobals mg) (hmg : mg "law" = some (.ref fa)) (T : Txt K mg)
    (A_law : ∃ f fd, At K "law" s_law f fd) (A__law_take : ∃ f fd, At K "_law_take" s__law_take f fd) (A__law_begun : ∃ f fd, At K "_law_begun" s__law_begun f fd) (A__law_grown : ∃ f fd, At K "_law_grown" s__law_grown f fd) (A__law_tree : ∃ f fd, At K "_law_tree" s__law_tree f fd) (A__law_alike : ∃ f fd, At K "_law_alike" s__law_alike f fd) (A__law_text : ∃ f fd, At K "_law_text" s__law_text f fd) (A_has_form : ∃ f fd, At K "has_form" s_has_form f fd) (A_places_of : ∃ f fd, At K "places_of" s_places_of f fd) (A_part_text : ∃ f fd, At K "part_text" s_part_text f fd) (A_nothing_bare : ∃ f fd, At K "nothing_bare" s_nothing_bare f fd) (A_opened : ∃ f fd, At K "opened" s_opened f fd) (A_ended : ∃ f fd, At K "ended" s_ended f fd) (A_shut : ∃ f fd, At K "shut" s_shut f fd) (A_whole_read : ∃ f fd, At K "whole_read" s_whole_read f fd) (A_written : ∃ f fd, At K "written" s_written f fd) (A_read : ∃ f fd, At K "read" s_read f fd) :
    LamX.LawAtS l w K CX0 27 63 "_law_script" mg fa h := by
  obtain ⟨f_law, fd_law, A_law⟩ := A_law
  have m_law := PySem.W.mg_of X G A_law.nm
  have b_law := A_law.F.binds (ps := P_law) fun _ _ _ _ _ _ us hl => match us, hl with | [_], _ => rfl
  obtain ⟨f__law_take, fd__law_take, A__law_take⟩ := A__law_take
  have m__law_take := PySem.W.mg_of X G A__law_take.nm
  have b__law_take := A__law_take.F.binds (ps := P__law_take) fun _ _ _ _ _ _ us hl => match us, hl with | [_, _], _ => rfl
  obtain ⟨f__law_begun, fd__law_begun, A__law_begun⟩ := A__law_begun
  have m__law_begun := PySem.W.mg_of X G A__law_begun.nm
  have b__law_begun := A__law_begun.F.binds (ps := P__law_begun) fun _ _ _ _ _ _ us hl => match us, hl with | [_], _ => rfl
  obtain ⟨f__law_grown, fd__law_grown, A__law_grown⟩ := A__law_grown
  have m__law_grown := PySem.W.mg_of X G A__law_grown.nm
  have b__law_grown := A__law_grown.F.binds (ps := P__law_grown) fun _ _ _ _ _ _ us hl => match us, hl with | [_, _, _, _], _ => rfl
  obtain ⟨f__law_tree, fd__law_tree, A__law_tree⟩ := A__law_tree
  have m__law_tree := PySem.W.mg_of X G A__law_tree.nm
  have b__law_tree := A__law_tree.F.binds (ps := P__law_tree) fun _ _ _ _ _ _ us hl => match us, hl with | [_, _], _ => rfl
  obtain ⟨f__law_alike, fd__law_alike, A__law_alike⟩ := A__law_alike
  have m__law_alike := PySem.W.mg_of X G A__law_alike.nm
  have b__law_alike := A__law_alike.F.binds (ps := P__law_alike) fun _ _ _ _ _ _ us hl => match us, hl with | [_, _], _ => rfl
  obtain ⟨f__law_text, fd__law_text, A__law_text⟩ := A__law_text
  have m__law_text := PySem.W.mg_of X G A__law_text.nm
  have b__law_text := A__law_text.F.binds (ps := P__law_text) fun _ _ _ _ _ _ us hl => match us, hl with | [_], _ => rfl
  obtain ⟨f_has_form, fd_has_form, A_has_form⟩ := A_has_form
  have m_has_form := PySem.W.mg_of X G A_has_form.nm
  have b_has_form := A_has_form.F.binds (ps := P_has_form) fun _ _ _ _ _ _ us hl => match us, hl with | [_], _ => rfl
  obtain ⟨f_places_of, fd_places_of, A_places_of⟩ := A_places_of
  have m_places_of := PySem.W.mg_of X G A_places_of.nm
  have b_places_of := A_places_of.F.binds (ps := P_places_of) fun _ _ _ _ _ _ us hl => match us, hl with | [_], _ => rfl
  obtain ⟨f_part_text, fd_part_text, A_part_text⟩ := A_part_text
  have m_part_text := PySem.W.mg_of X G A_part_text.nm
  have b_part_text := A_part_text.F.binds (ps := P_part_text) fun _ _ _ _ _ _ us hl => match us, hl with | [_], _ => rfl
  obtain ⟨f_nothing_bare, fd_nothing_bare, A_nothing_bare⟩ := A_nothing_bare
  have m_nothing_bare := PySem.W.mg_of X G A_nothing_bare.nm
  have b_nothing_bare := A_nothing_bare.F.binds (ps := P_nothing_bare) fun _ _ _ _ _ _ us hl => match us, hl with | [_, _], _ => rfl
  obtain ⟨f_opened, fd_opened, A_opened⟩ := A_opened
  have m_opened := PySem.W.mg_of X G A_opened.nm
  have b_opened := A_opened.F.binds (ps := P_opened) fun _ _ _ _ _ _ us hl => match us, hl with | [_, _, _, _], _ => rfl
  obtain ⟨f_ended, fd_ended, A_ended⟩ := A_ended
  have m_ended := PySem.W.mg_of X G A_ended.nm
  have b_ended := A_ended.F.binds (ps := P_ended) fun _ _ _ _ _ _ us hl => match us, hl with | [_, _, _, _], _ => rfl
  obtain ⟨f_shut, fd_shut, A_shut⟩ := A_shut
  have m_shut := PySem.W.mg_of X G A_shut.nm
  have b_shut := A_shut.F.binds (ps := P_shut) fun _ _ _ _ _ _ us hl => match us, hl with | [_, _, _, _], _ => rfl
  obtain ⟨f_whole_read, fd_whole_read, A_whole_read⟩ := A_whole_read
  have m_whole_read := PySem.W.mg_of X G A_whole_read.nm
  have b_whole_read := A_whole_read.F.binds (ps := P_whole_read) fun _ _ _ _ _ _ us hl => match us, hl with | [_, _], _ => rfl
  obtain ⟨f_written, fd_written, A_written⟩ := A_written
  have m_written := PySem.W.mg_of X G A_written.nm
  have b_written := A_written.F.binds (ps := P_written) fun _ _ _ _ _ _ us hl => match us, hl with | [_], _ => rfl
  obtain ⟨f_read, fd_read, A_read⟩ := A_read
  have m_read := PySem.W.mg_of X G A_read.nm
  have b_read := A_read.F.binds (ps := P_read) fun _ _ _ _ _ _ us hl => match us, hl with | [_], _ => rfl
  have e := hmg.symm.trans m_law
  cases e
  refine ⟨fd_law, [], spLaw19 K, ?_, ?_, ?_, ?_, ?_, ?_⟩
  · exact fun p hp => by cases hp
  · exact fun p hp => by cases hp
  · exact fun p hp => by cases hp
  · obtain ⟨_, _, _, _, _, _, _, _, _, rfl, _, _⟩ := A_law.F.ex
    exact fun s u => .of_eq rfl
  · intro H a ns hl _ ht hS
    exact ⟨a, ns, rfl, hS, hl, fun _ => rfl⟩
  intro base _ _ TBs
  have c_law_take : Callee l.prog w K mg base 1 "_law_take" P__law_take (spTake K) := ⟨f__law_take, fd__law_take, ok_take A__law_take.F, m__law_take, A__law_take.F.kp, b__law_take⟩
  have c_law_begun : Callee l.prog w K mg base 1 "_law_begun" P__law_begun (spBegun K) := ⟨f__law_begun, fd__law_begun, ok_begun A__law_begun.F T, m__law_begun, A__law_begun.F.kp, b__law_begun⟩
  have c_law_grown : Callee l.prog w K mg base 13 "_law_grown" P__law_grown (spGrown K 12) := ⟨f__law_grown, fd__law_grown, ok_grown A__law_grown.F T c_law_take m__law_grown b__law_grown 12, m__law_grown, A__law_grown.F.kp, b__law_grown⟩
  have c_law_tree : Callee l.prog w K mg base 14 "_law_tree" P__law_tree (spTree K) := ⟨f__law_tree, fd__law_tree, ok_tree A__law_tree.F T c_law_take c_law_grown, m__law_tree, A__law_tree.F.kp, b__law_tree⟩
  have c_law_alike : Callee l.prog w K mg base 26 "_law_alike" P__law_alike (spAlike K 25) := ⟨f__law_alike, fd__law_alike, ok_alike A__law_alike.F T m__law_alike b__law_alike 25, m__law_alike, A__law_alike.F.kp, b__law_alike⟩
  have c_law_text : Callee l.prog w K mg base 13 "_law_text" P__law_text (spText K 12) := ⟨f__law_text, fd__law_text, ok_text A__law_text.F T m__law_text b__law_text 12, m__law_text, A__law_text.F.kp, b__law_text⟩
  have chas_form : Callee l.prog w K mg base 1 "has_form" P_has_form (spForm K) := ⟨f_has_form, fd_has_form, ok_form A_has_form.F T, m_has_form, A_has_form.F.kp, b_has_form⟩
  have cplaces_of : Callee l.prog w K mg base 2 "places_of" P_places_of (spPlacesOf l.prog w K) := ⟨f_places_of, fd_places_of, ok_placesOf A_places_of.F T chas_form, m_places_of, A_places_of.F.kp, b_places_of⟩
  have cpart_text : Callee l.prog w K mg base 13 "part_text" P_part_text (spPT K 12) := ⟨f_part_text, fd_part_text, ok_ptext A_part_text.F T m_part_text b_part_text 12, m_part_text, A_part_text.F.kp, b_part_text⟩
  have cnothing_bare : Callee l.prog w K mg base 1 "nothing_bare" P_nothing_bare (spRd K brNone) := ⟨f_nothing_bare, fd_nothing_bare, ok_nothing A_nothing_bare.F T, m_nothing_bare, A_nothing_bare.F.kp, b_nothing_bare⟩
  have copened : Callee l.prog w K mg base 1 "opened" P_opened (spOpened K) := ⟨f_opened, fd_opened, ok_opened A_opened.F T, m_opened, A_opened.F.kp, b_opened⟩
  have cended : Callee l.prog w K mg base 2 "ended" P_ended (spEnded l.prog w K mg base) := ⟨f_ended, fd_ended, ok_ended A_ended.F T, m_ended, A_ended.F.kp, b_ended⟩
  have cshut : Callee l.prog w K mg base 1 "shut" P_shut (spShut K) := ⟨f_shut, fd_shut, ok_shut A_shut.F T, m_shut, A_shut.F.kp, b_shut⟩
  have cwhole_read : Callee l.prog w K mg base 3 "whole_read" P_whole_read (spWhole l.prog w K mg base) := ⟨f_whole_read, fd_whole_read, ok_whole A_whole_read.F T copened cended cshut, m_whole_read, A_whole_read.F.kp, b_whole_read⟩
  have cwritten : Callee l.prog w K mg base 14 "written" P_written (spWritten K) := ⟨f_written, fd_written, ok_written A_written.F T cpart_text cplaces_of, m_written, A_written.F.kp, b_written⟩
  have cread : Callee l.prog w K mg base 4 "read" P_read (spRead K) := ⟨f_read, fd_read, ok_read A_read.F T cwhole_read cnothing_bare cplaces_of, m_read, A_read.F.kp, b_read⟩
  exact ok_law A_law.F T c_law_begun c_law_tree c_law_text cwritten cread c_law_alike
end
theorem walk {l : PySem.W.OpenLaw} {q : Program} {loose : List Str} {XP : (Str → Option Value) → Heap → Prop} {YP : World → Heap → Prop} {d : DefRec} {K : Params → PySem.W.Frag} (hn : l.most = some 63) (hdf : d.params.defaults = []) (hY : ∀ (w : World) (h : Heap), YP w h → (K w.params).In h)
    (F : ∀ (w : World) (mg : Str → Option Value) (fa : Addr) (h : Heap), YP w h → (K w.params).In h → h.Ns mainGlobals mg → mg d.name = some (.ref fa) → LamX.LawAtS l w (K w.params) CX0 27 63 "_law_script" mg fa h) :
    PySem.W.WalkO q loose XP YP l.row.toRowW d [] (fun f vs => PySem.call f vs) :=
  LamX.walk_ofTs (CX := fun _ => CX0) hn (by decide) hdf ⟨rfl, by decide, by decide⟩ hY F fun _ _ _ _ _ z => z
end TT

open PySem PySem.W PyProof.Rows
set_option maxRecDepth 100000 in
set_option maxHeartbeats 0 in
theorem PySem.Challenge.cw_treetellers_k19_trees_written_holds : PySem.Challenge.rw_treetellers_k19_trees_written.Holds := by
  w_on; o_law; k_head; (case hw => w_witness2)
  k_fill
  refine TT.walk (l := PySem.Challenge.rw_treetellers_k19_trees_written) rfl rfl (fun w h Y => PySem.W.kIn_of Y) ?F
  case F =>
    intro w mg fa h Y KX G hmg
    have T : TT.TxtX KX mg := by
      refine' TT.txt_mk KX G ?z_bool ?z_int ?z_isinstance ?z_len ?z_list ?z_range ?z_reversed ?z_str ?z_tuple ?i_MOST_KIDS ?i_MOST_PLACES ?i_TREE_LEVELS ?e_LETTERS ?l_LETTERS ?e_ANY ?l_ANY ?e_LEAF ?l_LEAF
      (case z_bool => k_is)
      (case z_int => k_is)
      (case z_isinstance => k_is)
      (case z_len => k_is)
      (case z_list => k_is)
      (case z_range => k_is)
      (case z_reversed => k_is)
      (case z_str => k_is)
      (case z_tuple => k_is)
      (case i_MOST_KIDS => k_is)
      (case i_MOST_PLACES => k_is)
      (case i_TREE_LEVELS => k_is)
      (case e_LETTERS => k_is)
      (case l_LETTERS => k_is)
      (case e_ANY => k_is)
      (case l_ANY => k_is)
      (case e_LEAF => k_is)
      (case l_LEAF => k_is)
    have A_law : TT.AtX KX "law" TT.s_law := by
      refine' TT.at_mk ?a ?l ?c ?k; (case a => k_is); (case l => k_is); (case c => k_is); (case k => k_is)
    have A__law_take : TT.AtX KX "_law_take" TT.s__law_take := by
      refine' TT.at_mk ?a ?l ?c ?k; (case a => k_is); (case l => k_is); (case c => k_is); (case k => k_is)
    have A__law_begun : TT.AtX KX "_law_begun" TT.s__law_begun := by
      refine' TT.at_mk ?a ?l ?c ?k; (case a => k_is); (case l => k_is); (case c => k_is); (case k => k_is)
    have A__law_grown : TT.AtX KX "_law_grown" TT.s__law_grown := by
      refine' TT.at_mk ?a ?l ?c ?k; (case a => k_is); (case l => k_is); (case c => k_is); (case k => k_is)
    have A__law_tree : TT.AtX KX "_law_tree" TT.s__law_tree := by
      refine' TT.at_mk ?a ?l ?c ?k; (case a => k_is); (case l => k_is); (case c => k_is); (case k => k_is)
    have A__law_alike : TT.AtX KX "_law_alike" TT.s__law_alike := by
      refine' TT.at_mk ?a ?l ?c ?k; (case a => k_is); (case l => k_is); (case c => k_is); (case k => k_is)
    have A__law_text : TT.AtX KX "_law_text" TT.s__law_text := by
      refine' TT.at_mk ?a ?l ?c ?k; (case a => k_is); (case l => k_is); (case c => k_is); (case k => k_is)
    have A_has_form : TT.AtX KX "has_form" TT.s_has_form := by
      refine' TT.at_mk ?a ?l ?c ?k; (case a => k_is); (case l => k_is); (case c => k_is); (case k => k_is)
    have A_places_of : TT.AtX KX "places_of" TT.s_places_of := by
      refine' TT.at_mk ?a ?l ?c ?k; (case a => k_is); (case l => k_is); (case c => k_is); (case k => k_is)
    have A_part_text : TT.AtX KX "part_text" TT.s_part_text := by
      refine' TT.at_mk ?a ?l ?c ?k; (case a => k_is); (case l => k_is); (case c => k_is); (case k => k_is)
    have A_nothing_bare : TT.AtX KX "nothing_bare" TT.s_nothing_bare := by
      refine' TT.at_mk ?a ?l ?c ?k; (case a => k_is); (case l => k_is); (case c => k_is); (case k => k_is)
    have A_opened : TT.AtX KX "opened" TT.s_opened := by
      refine' TT.at_mk ?a ?l ?c ?k; (case a => k_is); (case l => k_is); (case c => k_is); (case k => k_is)
    have A_ended : TT.AtX KX "ended" TT.s_ended := by
      refine' TT.at_mk ?a ?l ?c ?k; (case a => k_is); (case l => k_is); (case c => k_is); (case k => k_is)
    have A_shut : TT.AtX KX "shut" TT.s_shut := by
      refine' TT.at_mk ?a ?l ?c ?k; (case a => k_is); (case l => k_is); (case c => k_is); (case k => k_is)
    have A_whole_read : TT.AtX KX "whole_read" TT.s_whole_read := by
      refine' TT.at_mk ?a ?l ?c ?k; (case a => k_is); (case l => k_is); (case c => k_is); (case k => k_is)
    have A_written : TT.AtX KX "written" TT.s_written := by
      refine' TT.at_mk ?a ?l ?c ?k; (case a => k_is); (case l => k_is); (case c => k_is); (case k => k_is)
    have A_read : TT.AtX KX "read" TT.s_read := by
      refine' TT.at_mk ?a ?l ?c ?k; (case a => k_is); (case l => k_is); (case c => k_is); (case k => k_is)
    refine' TT.law_at KX G hmg T A_law A__law_take A__law_begun A__law_grown A__law_tree A__law_alike A__law_text A_has_form A_places_of A_part_text A_nothing_bare A_opened A_ended A_shut A_whole_read A_written A_read
#print axioms PySem.Challenge.cw_treetellers_k19_trees_written_holds

