import PyProof.Rows.All
import Wide.All
import OpenK.AllK
import Wide.FinOn
import HandS.ForMost
import HandS.TupAny
import HandS.TupMul
import HandS.Style
import HandS.SortInts
import HandS.IsInst
import KE.GoesMore
import KE.KTupSum
import HandS.ForExc
import HandS.ExcInit
import HandS.ExcField
import HandS.DictComp
import HandS.ExcIs
import KE.KExcIs
import HandS.FStr
import HandS.RaiseMore
import HandS.ExcValue
import HandS.Small
import HandS.Zip
import HandS.TryOnly
import HandS.Conv
import HandS.Walk
import HandS.Text
import HandS.Codes
import PyProof.StrBlock2
import HandS.Star
import PyProof.CollectWalk
import KE.LtData
import HandS.DictTup
import KE.DataMinMax
import KE.KDictWalk
import HandS.SortKw
import HandS.SetFor
import HandS.Strs
import KE.SortData
import PySem.Challenge.RW_walkhands_k36_whole_lists
set_option Elab.async false
set_option linter.all false
set_option maxRecDepth 100000
set_option maxHeartbeats 4000000
namespace Wk
open PySem PySem.Spec PyProof.Rows L2

/-! ## data that stands in a heap -/
mutual
inductive Da (H : Hp) : V → PyData → Prop
  | non : Da H .non .none
  | bl (b : Bool) : Da H (.bl b) (.bool b)
  | int (i : Int) : Da H (.int i) (.int i)
  | str (x : Str) : Da H (.str x) (.str x)
  | lst {a : Addr} {xs : List V} {ds : List PyData} : H a = some (.lst xs) → DaAll H xs ds → Da H (.ref a) (.list ds)
  | tup {a : Addr} {xs : List V} {ds : List PyData} : H a = some (.tup xs) → DaAll H xs ds → Da H (.ref a) (.tuple ds)
inductive DaAll (H : Hp) : List V → List PyData → Prop
  | nil : DaAll H [] []
  | cons {v : V} {vs : List V} {d : PyData} {ds : List PyData} : Da H v d → DaAll H vs ds → DaAll H (v :: vs) (d :: ds)
end
mutual
theorem Da.mono {H H' : Hp} (e : Same H H') : ∀ {v : V} {d : PyData}, Da H v d → Da H' v d
  | _, _, .non => .non
  | _, _, .bl b => .bl b
  | _, _, .int i => .int i
  | _, _, .str x => .str x
  | _, _, .lst h r => .lst (e _ _ h) (DaAll.mono e r)
  | _, _, .tup h r => .tup (e _ _ h) (DaAll.mono e r)
theorem DaAll.mono {H H' : Hp} (e : Same H H') : ∀ {vs : List V} {ds : List PyData}, DaAll H vs ds → DaAll H' vs ds
  | _, _, .nil => .nil
  | _, _, .cons h r => .cons (Da.mono e h) (DaAll.mono e r)
end
mutual
theorem Da.dp {K : PySem.W.Frag} {H : Hp} : ∀ {v : V} {d : PyData}, Da H v d → Dp K H v d
  | _, _, .non => .non
  | _, _, .bl b => .bl b
  | _, _, .int i => .int i
  | _, _, .str x => .str x
  | _, _, .lst h r => .lst (.inl (.inl h)) (DaAll.dp r)
  | _, _, .tup h r => .tup (.inl (.inl h)) (DaAll.dp r)
theorem DaAll.dp {K : PySem.W.Frag} {H : Hp} : ∀ {vs : List V} {ds : List PyData}, DaAll H vs ds → DpAll K H vs ds
  | _, _, .nil => .nil
  | _, _, .cons h r => .cons (Da.dp h) (DaAll.dp r)
end
theorem DaAll.length {H : Hp} : ∀ {vs : List V} {ds : List PyData}, DaAll H vs ds → vs.length = ds.length
  | _, _, .nil => rfl
  | _, _, .cons _ r => by rw [List.length_cons, List.length_cons, DaAll.length r]
theorem DaAll.get {H : Hp} : ∀ {vs : List V} {ds : List PyData} {i : Nat} {d : PyData}, DaAll H vs ds → ds[i]? = some d → ∃ v, vs[i]? = some v ∧ Da H v d
  | _, _, _, _, .nil, e => by simp at e
  | _, _, 0, _, .cons h _, e => by
    simp at e; subst e; exact ⟨_, rfl, h⟩
  | _, _, i + 1, _, .cons _ r, e => by
    obtain ⟨v, h1, h2⟩ := DaAll.get (i := i) r (by simpa using e)
    exact ⟨v, by simpa using h1, h2⟩
theorem DaAll.getV {H : Hp} : ∀ {vs : List V} {ds : List PyData} {i : Nat} {v : V}, DaAll H vs ds → vs[i]? = some v → ∃ d, ds[i]? = some d ∧ Da H v d
  | _, _, _, _, .nil, e => by simp at e
  | _, _, 0, _, .cons h _, e => by
    simp at e; subst e; exact ⟨_, rfl, h⟩
  | _, _, i + 1, _, .cons _ r, e => by
    obtain ⟨v, h1, h2⟩ := DaAll.getV (i := i) r (by simpa using e)
    exact ⟨v, by simpa using h1, h2⟩
theorem DaAll.append {H : Hp} : ∀ {vs ws : List V} {ds es : List PyData}, DaAll H vs ds → DaAll H ws es → DaAll H (vs ++ ws) (ds ++ es)
  | _, _, _, _, .nil, s => s
  | _, _, _, _, .cons h r, s => .cons h (DaAll.append r s)
theorem DaAll.take {H : Hp} : ∀ {vs : List V} {ds : List PyData} (n : Nat), DaAll H vs ds → DaAll H (vs.take n) (ds.take n)
  | _, _, 0, _ => .nil
  | _, _, _ + 1, .nil => .nil
  | _, _, n + 1, .cons h r => .cons h (DaAll.take n r)
theorem DaAll.drop {H : Hp} : ∀ {vs : List V} {ds : List PyData} (n : Nat), DaAll H vs ds → DaAll H (vs.drop n) (ds.drop n)
  | _, _, 0, r => r
  | _, _, _ + 1, .nil => .nil
  | _, _, n + 1, .cons _ r => DaAll.drop n r
theorem DaAll.reverse {H : Hp} : ∀ {vs : List V} {ds : List PyData}, DaAll H vs ds → DaAll H vs.reverse ds.reverse
  | _, _, .nil => .nil
  | _, _, .cons h r => by
    rw [List.reverse_cons, List.reverse_cons]
    exact DaAll.append (DaAll.reverse r) (.cons h .nil)
theorem DaAll.ints {H : Hp} : ∀ {vs : List V} {ns : List Int}, DaAll H vs (ns.map PyData.int) → vs = ns.map V.int
  | _, [], h => by cases h; rfl
  | _, n :: ns, h => by
    cases h with
    | cons h r => cases h; rw [DaAll.ints r]; rfl
theorem DaAll.of_ints {H : Hp} : ∀ (ns : List Int), DaAll H (ns.map V.int) (ns.map PyData.int)
  | [] => .nil
  | n :: ns => .cons (.int n) (DaAll.of_ints ns)
/-- a tuple, a list of ints -/
abbrev tI (ns : List Int) : PyData := .tuple (ns.map PyData.int)
abbrev lI (ns : List Int) : PyData := .list (ns.map PyData.int)

/-! ## what is said of a value: nothing, the data that it is, its address, the script -/
inductive SD where
  | non
  | dat (d : PyData)
  | ad (a : Addr)
  | scr (ns : List Int)
  | ty (n : String)
  | dic (kvs : List (Key × PyData))
  | exc (a : Addr) (cls : Value) (d : Option Addr) (C : Addr) (fs : Option (Str × PyData))
  | xob (C : Addr) (fs : Option (Str × PyData))
abbrev iV (i : Int) : SD := .dat (.int i)
abbrev bV (b : Bool) : SD := .dat (.bool b)
section
variable (K : PySem.W.Frag)
/-- an exception: its class, its own dict -/
def XDok (Hk : Hp) (cls : Value) (d : Option Addr) (C : Addr) (fs : Option (Str × PyData)) : Prop :=
  cls = .ref C ∧ match fs with
    | none => d = none
    | some (f, x) => ∃ (dd : Addr) (v : V), d = some dd ∧ Hk dd = some (.xd [(f, v)]) ∧ Da Hk v x
/-- an exception as a value -/
def XOok (Hk : Hp) (a C : Addr) (fs : Option (Str × PyData)) : Prop :=
  match fs with
    | none => Hk a = some (ExO (.ref C) a)
    | some (f, x) => ∃ (d : Addr) (v : V), Hk a = some (exo a C (some d)) ∧ Hk d = some (exd d [(f, v)]) ∧ Da Hk v x
theorem XOok.mono {H H' : Hp} (e : Same H H') {a C : Addr} : ∀ {fs : Option (Str × PyData)}, XOok H a C fs → XOok H' a C fs
  | none, h => e _ _ h
  | some (f, x), ⟨d, v, h2, h3, h4⟩ => ⟨d, v, e _ _ h2, e _ _ h3, Da.mono e h4⟩
theorem XDok.mono {H H' : Hp} (e : Same H H') {cls : Value} {d : Option Addr} {C : Addr} : ∀ {fs : Option (Str × PyData)}, XDok H cls d C fs → XDok H' cls d C fs
  | none, h => h
  | some (f, x), ⟨h1, dd, v, h2, h3, h4⟩ => ⟨h1, dd, v, h2, e _ _ h3, Da.mono e h4⟩
def SDok (Hk : Hp) (v : V) : SD → Prop
  | .non => True
  | .dat d => Da Hk v d
  | .ad a => v = .ref a
  | .scr ns => ∃ a, v = .ref a ∧ SqL K Hk a (ns.map V.int)
  | .ty n => v = .ty n
  | .dic kvs => ∃ (a : Addr) (vs : List (Key × V)), v = .ref a ∧ Hk a = some (.dK vs) ∧ vs.map (·.1) = kvs.map (·.1) ∧ DaAll Hk (vs.map (·.2)) (kvs.map (·.2))
  | .exc a cls d C fs => v = .ref a ∧ XDok Hk cls d C fs
  | .xob C fs => ∃ a, v = .ref a ∧ XOok Hk a C fs
theorem SDok.mono {K : PySem.W.Frag} {H H' : Hp} (e : Same H H') {v : V} : ∀ {r : SD}, SDok K H v r → SDok K H' v r
  | .non, _ => trivial
  | .dat _, h => Da.mono e h
  | .ad _, h => h
  | .scr _, ⟨a, h1, h2⟩ => ⟨a, h1, e.seq h2⟩
  | .ty _, h => h
  | .dic _, ⟨a, vs, h1, h2, h3, h4⟩ => ⟨a, vs, h1, e _ _ h2, h3, DaAll.mono e h4⟩
  | .exc .., ⟨h1, h2⟩ => ⟨h1, h2.mono e⟩
  | .xob .., ⟨a, h1, h2⟩ => ⟨a, h1, h2.mono e⟩
inductive SDall (Hk : Hp) : List V → List SD → Prop
  | nil : SDall Hk [] []
  | cons {v : V} {vs : List V} {r : SD} {rs : List SD} : SDok K Hk v r → SDall Hk vs rs → SDall Hk (v :: vs) (r :: rs)
section
variable {K} {H H' : Hp}
theorem SDall.mono (e : Same H H') : ∀ {vs : List V} {rs : List SD}, SDall K H vs rs → SDall K H' vs rs
  | _, _, .nil => .nil
  | _, _, .cons h r => .cons (h.mono e) (SDall.mono e r)
theorem SDall.length : ∀ {vs : List V} {rs : List SD}, SDall K H vs rs → vs.length = rs.length
  | _, _, .nil => rfl
  | _, _, .cons _ r => by rw [List.length_cons, List.length_cons, SDall.length r]
theorem SDall.append : ∀ {vs ws : List V} {ds es : List SD}, SDall K H vs ds → SDall K H ws es → SDall K H (vs ++ ws) (ds ++ es)
  | _, _, _, _, .nil, s => s
  | _, _, _, _, .cons h r, s => .cons h (SDall.append r s)
theorem SDall.get : ∀ {vs : List V} {ds : List SD} {i : Nat} {d : SD}, SDall K H vs ds → ds[i]? = some d → ∃ v, vs[i]? = some v ∧ SDok K H v d
  | _, _, _, _, .nil, e => by simp at e
  | _, _, 0, _, .cons h _, e => by
    simp at e; subst e; exact ⟨_, rfl, h⟩
  | _, _, i + 1, _, .cons _ r, e => by
    obtain ⟨v, h1, h2⟩ := SDall.get (i := i) r (by simpa using e)
    exact ⟨v, by simpa using h1, h2⟩
theorem SDall.set {v : V} {r : SD} (h : SDok K H v r) : ∀ {vs : List V} {rs : List SD} (j : Nat), SDall K H vs rs → SDall K H (vs.set j v) (rs.set j r)
  | _, _, _, .nil => .nil
  | _, _, 0, .cons _ t => .cons h t
  | _, _, j + 1, .cons q t => .cons q (SDall.set h j t)
theorem SDall.take : ∀ {vs : List V} {ds : List SD} (n : Nat), SDall K H vs ds → SDall K H (vs.take n) (ds.take n)
  | _, _, 0, _ => .nil
  | _, _, _ + 1, .nil => .nil
  | _, _, n + 1, .cons h r => .cons h (SDall.take n r)
theorem SDall.drop : ∀ {vs : List V} {ds : List SD} (n : Nat), SDall K H vs ds → SDall K H (vs.drop n) (ds.drop n)
  | _, _, 0, r => r
  | _, _, _ + 1, .nil => .nil
  | _, _, n + 1, .cons _ r => SDall.drop n r
theorem SDall.dats : ∀ {vs : List V} {ds : List PyData}, SDall K H vs (ds.map SD.dat) → DaAll H vs ds
  | _, [], h => by cases h; exact .nil
  | _, d :: ds, h => by
    cases h with
    | cons h r => exact .cons h (SDall.dats r)
theorem SDall.of_dats : ∀ {vs : List V} {ds : List PyData}, DaAll H vs ds → SDall K H vs (ds.map SD.dat)
  | _, _, .nil => .nil
  | _, _, .cons h r => .cons h (SDall.of_dats r)
end

/-! ## what is owned: lists (and dicts with text keys) that nothing else knows -/
inductive OD where
  | lst (rs : List SD)
  | dK (kvs : List (Key × SD))
  | tup (rs : List SD)
  | lstX (vs : List V) (rs : List SD)
  | obj (o : HO) (vs : List V) (rs : List SD)
abbrev Own := List (Addr × OD)
def ODok (Hk H : Hp) (a : Addr) : OD → Prop
  | .lst rs => ∃ vs, H a = some (.lst vs) ∧ SDall K Hk vs rs
  | .dK kvs => ∃ vs : List (Key × V), H a = some (.dK vs) ∧ vs.map (·.1) = kvs.map (·.1) ∧ SDall K Hk (vs.map (·.2)) (kvs.map (·.2))
  | .tup rs => ∃ vs, H a = some (.tup vs) ∧ SDall K Hk vs rs
  | .lstX vs rs => H a = some (.lst vs) ∧ SDall K Hk vs rs
  | .obj o vs rs => H a = some o ∧ SDall K Hk vs rs
structure Hold (Hk : Hp) (O : Own) (H : Hp) : Prop where
  kn : Same Hk H
  ow : ∀ p ∈ O, ODok K Hk H p.1 p.2 ∧ Hk p.1 = none
  nd : (O.map (·.1)).Nodup
structure Pt (Hk : Hp) (O : Own) (ds : List SD) (σ : L2.St) (H : Hp) : Prop where
  hold : Hold K Hk O H
  len : σ.length = ds.length
  env : ∀ (i : Nat) (r : SD), ds[i]? = some r → r = .non ∨ ∃ v, σ[i]? = some (some v) ∧ SDok K Hk v r
end
section
variable {K : PySem.W.Frag} {Hk Hk' H H' : Hp} {O O' : Own} {ds : List SD} {σ : L2.St}
theorem ODok.some {a : Addr} {x : OD} (h : ODok K Hk H a x) : ∃ o, H a = some o := by
  cases x with
  | lst rs => obtain ⟨vs, h, _⟩ := h; exact ⟨_, h⟩
  | dK rs => obtain ⟨vs, h, _⟩ := h; exact ⟨_, h⟩
  | tup rs => obtain ⟨vs, h, _⟩ := h; exact ⟨_, h⟩
  | lstX vs rs => obtain ⟨h, _⟩ := h; exact ⟨_, h⟩
  | obj o vs rs => obtain ⟨h, _⟩ := h; exact ⟨_, h⟩
theorem ODok.mono {a : Addr} {x : OD} (e : Same Hk Hk') (h : ODok K Hk H a x) (ha : H' a = H a) : ODok K Hk' H' a x := by
  cases x with
  | lst rs => obtain ⟨vs, h, q⟩ := h; exact ⟨vs, ha.trans h, q.mono e⟩
  | dK rs => obtain ⟨vs, h, k, q⟩ := h; exact ⟨vs, ha.trans h, k, q.mono e⟩
  | tup rs => obtain ⟨vs, h, q⟩ := h; exact ⟨vs, ha.trans h, q.mono e⟩
  | lstX vs rs => obtain ⟨h, q⟩ := h; exact ⟨ha.trans h, q.mono e⟩
  | obj o vs rs => obtain ⟨h, q⟩ := h; exact ⟨ha.trans h, q.mono e⟩
theorem Hold.free_own (h : Hold K Hk O H) {p : Addr} (hp : H p = none) : p ∉ O.map (·.1) := fun z => by
  obtain ⟨q, hq, e⟩ := List.mem_map.mp z
  obtain ⟨o, ho⟩ := (h.ow q hq).1.some
  rw [e, hp] at ho
  cases ho
theorem same_new {H : Hp} {p : Addr} {o : HO} (h : H p = none) : Same H (upd H p o) := fun b x e => by
  rw [upd_ne (ne_of_none e h)]
  exact e
/-- a new object that is known at once -/
theorem Hold.know (h : Hold K Hk O H) {p : Addr} {o : HO} (hp : H p = none) : Hold K (upd Hk p o) O (upd H p o) := by
  have kp : Hk p = none := h.kn.free hp
  refine ⟨fun b x e => ?_, fun q hq => ?_, h.nd⟩
  · by_cases hb : b = p
    · subst hb
      rw [upd_same] at e ⊢
      exact e
    · rw [upd_ne hb] at e ⊢
      exact h.kn b x e
  · have ne : q.1 ≠ p := fun z => h.free_own hp (z ▸ List.mem_map.mpr ⟨q, hq, rfl⟩)
    obtain ⟨h1, h2⟩ := h.ow q hq
    exact ⟨h1.mono (same_new kp) (upd_ne ne), by rw [upd_ne ne]; exact h2⟩
/-- a new list that is owned -/
theorem Hold.own (h : Hold K Hk O H) {p : Addr} {vs : List V} {rs : List SD} (hp : H p = none) (hv : SDall K Hk vs rs) : Hold K Hk ((p, .lst rs) :: O) (upd H p (.lst vs)) := by
  have kp : Hk p = none := h.kn.free hp
  refine ⟨fun b x e => ?_, fun q hq => ?_, ?_⟩
  · rw [upd_ne (ne_of_none e kp)]
    exact h.kn b x e
  · rcases List.mem_cons.mp hq with rfl | hq
    · exact ⟨⟨vs, upd_same, hv⟩, kp⟩
    · have ne : q.1 ≠ p := fun z => h.free_own hp (z ▸ List.mem_map.mpr ⟨q, hq, rfl⟩)
      obtain ⟨h1, h2⟩ := h.ow q hq
      exact ⟨h1.mono (Same.refl _) (upd_ne ne), h2⟩
  · rw [List.map_cons, List.nodup_cons]
    exact ⟨h.free_own hp, h.nd⟩
/-- a new object that is owned -/
theorem Hold.ownG (h : Hold K Hk O H) {p : Addr} {o : HO} {x : OD} (hp : H p = none) (hx : ODok K Hk (upd H p o) p x) : Hold K Hk ((p, x) :: O) (upd H p o) := by
  have kp : Hk p = none := h.kn.free hp
  refine ⟨fun b y e => ?_, fun q hq => ?_, ?_⟩
  · rw [upd_ne (ne_of_none e kp)]
    exact h.kn b y e
  · rcases List.mem_cons.mp hq with rfl | hq
    · exact ⟨hx, kp⟩
    · have ne : q.1 ≠ p := fun z => h.free_own hp (z ▸ List.mem_map.mpr ⟨q, hq, rfl⟩)
      obtain ⟨h1, h2⟩ := h.ow q hq
      exact ⟨h1.mono (Same.refl _) (upd_ne ne), h2⟩
  · rw [List.map_cons, List.nodup_cons]
    exact ⟨h.free_own hp, h.nd⟩
/-- an owned object, said otherwise -/
theorem Hold.tell {a : Addr} {x y : OD} (h : Hold K Hk ((a, x) :: O) H) (hy : ODok K Hk H a y) : Hold K Hk ((a, y) :: O) H := by
  have nd := h.nd
  rw [List.map_cons] at nd
  refine ⟨h.kn, fun q hq => ?_, by rw [List.map_cons]; exact nd⟩
  rcases List.mem_cons.mp hq with rfl | hq
  · exact ⟨hy, (h.ow (a, x) List.mem_cons_self).2⟩
  · exact h.ow q (List.mem_cons_of_mem _ hq)
/-- an owned object is written -/
theorem Hold.writeG {a : Addr} {x y : OD} {o : HO} (h : Hold K Hk ((a, x) :: O) H) (hy : ODok K Hk (upd H a o) a y) : Hold K Hk ((a, y) :: O) (upd H a o) := by
  have ka : Hk a = none := (h.ow (a, x) List.mem_cons_self).2
  have nd := h.nd
  rw [List.map_cons, List.nodup_cons] at nd
  refine ⟨fun b z e => ?_, fun q hq => ?_, ?_⟩
  · rw [upd_ne (ne_of_none e ka)]
    exact h.kn b z e
  · rcases List.mem_cons.mp hq with rfl | hq
    · exact ⟨hy, ka⟩
    · have ne : q.1 ≠ a := fun z => nd.1 (z ▸ List.mem_map.mpr ⟨q, hq, rfl⟩)
      obtain ⟨h1, h2⟩ := h.ow q (List.mem_cons_of_mem _ hq)
      exact ⟨h1.mono (Same.refl _) (upd_ne ne), h2⟩
  · rw [List.map_cons, List.nodup_cons]
    exact nd
theorem Hold.perm (h : Hold K Hk O H) (p : O.Perm O') : Hold K Hk O' H :=
  ⟨h.kn, fun q hq => h.ow q (p.mem_iff.mpr hq), (p.map _).nodup_iff.mp h.nd⟩
theorem Hold.sub (h : Hold K Hk O H) (s : List.Sublist O' O) : Hold K Hk O' H :=
  ⟨h.kn, fun q hq => h.ow q (s.subset hq), (s.map _).nodup h.nd⟩
/-- an owned list is written -/
theorem Hold.write {a : Addr} {x : OD} {vs : List V} {rs : List SD} (h : Hold K Hk ((a, x) :: O) H) (hv : SDall K Hk vs rs) : Hold K Hk ((a, .lst rs) :: O) (upd H a (.lst vs)) := by
  have ka : Hk a = none := (h.ow (a, x) List.mem_cons_self).2
  have nd := h.nd
  rw [List.map_cons, List.nodup_cons] at nd
  refine ⟨fun b y e => ?_, fun q hq => ?_, ?_⟩
  · rw [upd_ne (ne_of_none e ka)]
    exact h.kn b y e
  · rcases List.mem_cons.mp hq with rfl | hq
    · exact ⟨⟨vs, upd_same, hv⟩, ka⟩
    · have ne : q.1 ≠ a := fun z => nd.1 (z ▸ List.mem_map.mpr ⟨q, hq, rfl⟩)
      obtain ⟨h1, h2⟩ := h.ow q (List.mem_cons_of_mem _ hq)
      exact ⟨h1.mono (Same.refl _) (upd_ne ne), h2⟩
  · rw [List.map_cons, List.nodup_cons]
    exact nd
/-- an owned list of data becomes known -/
theorem Hold.freeze {a : Addr} {es : List PyData} (h : Hold K Hk ((a, .lst (es.map .dat)) :: O) H) : ∃ Hk', Same Hk Hk' ∧ Hold K Hk' O H ∧ Da Hk' (.ref a) (.list es) := by
  obtain ⟨⟨vs, ha, hv⟩, ka⟩ := h.ow (a, .lst (es.map .dat)) List.mem_cons_self
  have nd := h.nd
  rw [List.map_cons, List.nodup_cons] at nd
  have sm : Same Hk (upd Hk a (.lst vs)) := same_new ka
  refine ⟨upd Hk a (.lst vs), sm, ⟨fun b y e => ?_, fun q hq => ?_, nd.2⟩, .lst upd_same (DaAll.mono sm hv.dats)⟩
  · by_cases hb : b = a
    · subst hb
      rw [upd_same] at e
      rw [ha]
      exact e
    · rw [upd_ne hb] at e
      exact h.kn b y e
  · have ne : q.1 ≠ a := fun z => nd.1 (z ▸ List.mem_map.mpr ⟨q, hq, rfl⟩)
    obtain ⟨h1, h2⟩ := h.ow q (List.mem_cons_of_mem _ hq)
    exact ⟨h1.mono sm rfl, by rw [upd_ne ne]; exact h2⟩
theorem Pt.ext (p : Pt K Hk O ds σ H) (e : Same Hk Hk') (h : Hold K Hk' O' H') : Pt K Hk' O' ds σ H' :=
  ⟨h, p.len, fun i r hr => (p.env i r hr).imp id fun ⟨v, h1, h2⟩ => ⟨v, h1, h2.mono e⟩⟩
theorem Pt.set {v : V} {r : SD} {j : Nat} (p : Pt K Hk O ds σ H) (h : SDok K Hk v r) : Pt K Hk O (ds.set j r) (σ.set j (some v)) H :=
  ⟨p.hold, by rw [List.length_set, List.length_set, p.len], fun i q hq => by
    by_cases hi : i = j
    · subst hi
      have hl : i < (ds.set i r).length := (List.getElem?_eq_some_iff.mp hq).1
      rw [List.length_set] at hl
      rw [List.getElem?_set_self hl] at hq
      cases hq
      exact .inr ⟨v, List.getElem?_set_self (by rw [p.len]; exact hl), h⟩
    · rw [List.getElem?_set_ne (Ne.symm hi)] at hq
      rw [List.getElem?_set_ne (Ne.symm hi)]
      exact p.env i q hq⟩
theorem Pt.weak {ds' : List SD} (p : Pt K Hk O ds σ H) (hl : ds'.length = ds.length) (h : ∀ (i : Nat) (r : SD), ds'[i]? = some r → r = .non ∨ ds[i]? = some r) : Pt K Hk O ds' σ H :=
  ⟨p.hold, by rw [p.len, hl], fun i r hr => (h i r hr).elim .inl (p.env i r)⟩
end
end Wk
namespace Wk
open PySem PySem.Spec PyProof.Rows L2
/-- descriptions that are data, all of them -/
inductive Dats : List SD → List PyData → Prop
  | nil : Dats [] []
  | cons {d : PyData} {rs : List SD} {ds : List PyData} : Dats rs ds → Dats (.dat d :: rs) (d :: ds)
theorem Dats.eq : ∀ {rs : List SD} {ds : List PyData}, Dats rs ds → rs = ds.map .dat
  | _, _, .nil => rfl
  | _, _, .cons h => by rw [Dats.eq h]; rfl
theorem Dats.map : ∀ (ds : List PyData), Dats (ds.map .dat) ds
  | [] => .nil
  | _ :: r => .cons (Dats.map r)
theorem Dats.ints : ∀ (ns : List Int), Dats (ns.map fun n => iV n) (ns.map .int)
  | [] => .nil
  | _ :: r => .cons (Dats.ints r)
theorem Dats.append : ∀ {rs qs : List SD} {ds es : List PyData}, Dats rs ds → Dats qs es → Dats (rs ++ qs) (ds ++ es)
  | _, _, _, _, .nil, h => h
  | _, _, _, _, .cons h, k => .cons (Dats.append h k)
section
variable (K : PySem.W.Frag)
/-- what is wanted of a value, met -/
def Kont (Hk : Hp) (Q : SD → Own → Prop) (Q' : VK) : Prop :=
  ∀ v r O2 Hk2 H2, Same Hk Hk2 → Hold K Hk2 O2 H2 → SDok K Hk2 v r → Q r O2 → Q' v H2
def EvW (t : TE) (O : Own) (ds : List SD) (Q : SD → Own → Prop) : Prop :=
  ∀ Hk σ H, Pt K Hk O ds σ H → ∀ Q' : VK, Kont K Hk Q Q' → t σ H Q'
def AvW (t : TA) (O : Own) (ds : List SD) (Q : List SD → Own → Prop) : Prop :=
  ∀ Hk σ H, Pt K Hk O ds σ H → ∀ Q' : List V → Hp → Prop, (∀ vs rs O2 Hk2 H2, Same Hk Hk2 → Hold K Hk2 O2 H2 → SDall K Hk2 vs rs → Q rs O2 → Q' vs H2) → t σ H Q'
def TvW (t : TT) (O : Own) (ds : List SD) (Q : Bool → Own → Prop) : Prop :=
  ∀ Hk σ H, Pt K Hk O ds σ H → ∀ Q' : Bool → Hp → Prop, (∀ b O2 Hk2 H2, Same Hk Hk2 → Hold K Hk2 O2 H2 → Q b O2 → Q' b H2) → t σ H Q'
def IvW (t : TO) (O : Own) (ds : List SD) (Q : Option Int → Own → Prop) : Prop :=
  ∀ Hk σ H, Pt K Hk O ds σ H → ∀ Q' : Option Int → Hp → Prop, (∀ b O2 Hk2 H2, Same Hk Hk2 → Hold K Hk2 O2 H2 → Q b O2 → Q' b H2) → t σ H Q'
def OpW (r : R2) (x y : SD) (O : Own) (Q : SD → Own → Prop) : Prop :=
  ∀ Hk H, Hold K Hk O H → ∀ u v, SDok K Hk u x → SDok K Hk v y → ∀ Q' : VK, Kont K Hk Q Q' → r u v H Q'
def UnW (r : V → Hp → VK → Prop) (x : SD) (O : Own) (Q : SD → Own → Prop) : Prop :=
  ∀ Hk H, Hold K Hk O H → ∀ u, SDok K Hk u x → ∀ Q' : VK, Kont K Hk Q Q' → r u H Q'
def CbW (r : List V → Hp → VK → Prop) (xs : List SD) (O : Own) (Q : SD → Own → Prop) : Prop :=
  ∀ Hk H, Hold K Hk O H → ∀ us, SDall K Hk us xs → ∀ Q' : VK, Kont K Hk Q Q' → r us H Q'
def MbW (r : V → List V → Hp → VK → Prop) (x : SD) (xs : List SD) (O : Own) (Q : SD → Own → Prop) : Prop :=
  ∀ Hk H, Hold K Hk O H → ∀ u us, SDok K Hk u x → SDall K Hk us xs → ∀ Q' : VK, Kont K Hk Q Q' → r u us H Q'
def SlW (r : V → Option Int → Option Int → Hp → VK → Prop) (x : SD) (lo hi : Option Int) (O : Own) (Q : SD → Own → Prop) : Prop :=
  ∀ Hk H, Hold K Hk O H → ∀ u, SDok K Hk u x → ∀ Q' : VK, Kont K Hk Q Q' → r u lo hi H Q'
/-- a def's promise, by what it wants -/
def spW (pre : List SD → Own → (SD → Own → Prop) → Prop) : Sp := fun vs H Q' _ =>
  ∃ Hk O rs Q, Hold K Hk O H ∧ SDall K Hk vs rs ∧ pre rs O Q ∧ Kont K Hk Q Q'
def Xt (Hk : Hp) (P : Hp → Prop) : Prop := ∀ Hk', Same Hk Hk' → P Hk'
structure AE where
  nx : Own → List SD → Prop
  rt : SD → Own → Prop
  bk : Own → List SD → Prop := fun _ _ => False
  ct : Own → List SD → Prop := fun _ _ => False
  xt : Hp → Prop := fun _ => True
def Post (Hk : Hp) (P : Own → List SD → Prop) (P' : L2.St → Hp → Prop) : Prop := ∀ O2 ds2 Hk2 σ2 H2, Same Hk Hk2 → Pt K Hk2 O2 ds2 σ2 H2 → P O2 ds2 → P' σ2 H2
structure Lnk (Hk : Hp) (A : AE) (D : Ends) : Prop where
  nx : Post K Hk A.nx D.nx
  rt : Kont K Hk A.rt D.rt
  bk : Post K Hk A.bk D.bk
  ct : Post K Hk A.ct D.ct
  xt : Xt Hk A.xt
def StW (t : TS) (O : Own) (ds : List SD) (A : AE) : Prop := ∀ Hk σ H (D : Ends), Pt K Hk O ds σ H → Lnk K Hk A D → t D σ H
end
section
variable {K : PySem.W.Frag} {Hk Hk' H H' : Hp} {O O' : Own} {ds : List SD} {σ : L2.St} {Q : SD → Own → Prop} {Q' : VK} {r : R2} {x y : SD} {A : AE} {D : Ends}
theorem Kont.ext (k : Kont K Hk Q Q') (e : Same Hk Hk') : Kont K Hk' Q Q' := fun v r O2 Hk2 H2 e2 => k v r O2 Hk2 H2 (e.trans e2)
theorem Kont.now (k : Kont K Hk Q Q') (h : Hold K Hk O H) {v : V} {r : SD} (hv : SDok K Hk v r) (q : Q r O) : Q' v H := k v r O Hk H (Same.refl _) h hv q
theorem Post.ext {P : Own → List SD → Prop} {P' : L2.St → Hp → Prop} (k : Post K Hk P P') (e : Same Hk Hk') : Post K Hk' P P' := fun O2 ds2 Hk2 σ2 H2 e2 => k O2 ds2 Hk2 σ2 H2 (e.trans e2)
theorem Xt.ext {P : Hp → Prop} (k : Xt Hk P) (e : Same Hk Hk') : Xt Hk' P := fun Hk2 e2 => k Hk2 (e.trans e2)
theorem Lnk.ext (k : Lnk K Hk A D) (e : Same Hk Hk') : Lnk K Hk' A D := ⟨k.nx.ext e, k.rt.ext e, k.bk.ext e, k.ct.ext e, k.xt.ext e⟩

/-! ### expressions -/
theorem w_var {i : Nat} {r : SD} (h : ds[i]? = some r) (hn : r ≠ .non) (q : Q r O) : EvW K (tVar i) O ds Q := fun Hk σ H p Q' k => by
  rcases p.env i r h with e | ⟨v, hv, hs⟩
  · exact absurd e hn
  · exact ⟨v, hv, k.now p.hold hs q⟩
theorem w_vD {i : Nat} {d : PyData} (h : ds[i]? = some (.dat d)) (q : Q (.dat d) O) : EvW K (tVar i) O ds Q := w_var h (fun z => nomatch z) q
theorem w_vA {i : Nat} {a : Addr} (h : ds[i]? = some (.ad a)) (q : Q (.ad a) O) : EvW K (tVar i) O ds Q := w_var h (fun z => nomatch z) q
theorem w_vS {i : Nat} {ns : List Int} (h : ds[i]? = some (.scr ns)) (q : Q (.scr ns) O) : EvW K (tVar i) O ds Q := w_var h (fun z => nomatch z) q
theorem w_int {i : Int} (q : Q (iV i) O) : EvW K (tC (.int i)) O ds Q := fun Hk σ H p Q' k => k.now p.hold (r := iV i) (.int i) q
theorem w_bl {b : Bool} (q : Q (bV b) O) : EvW K (tC (.bl b)) O ds Q := fun Hk σ H p Q' k => k.now p.hold (r := bV b) (.bl b) q
theorem w_str {b : Str} (q : Q (.dat (.str b)) O) : EvW K (tC (.str b)) O ds Q := fun Hk σ H p Q' k => k.now p.hold (r := .dat (.str b)) (.str b) q
theorem w_none (q : Q (.dat .none) O) : EvW K (tC .non) O ds Q := fun Hk σ H p Q' k => k.now p.hold (r := .dat .none) .non q
theorem w_op {ta tb : TE} (h : EvW K ta O ds fun r1 O1 => EvW K tb O1 ds fun r2 O2 => OpW K r r1 r2 O2 Q) : EvW K (tOp r ta tb) O ds Q := fun Hk σ H p Q' k =>
  h Hk σ H p _ fun v1 r1 O1 Hk1 H1 e1 h1 s1 q1 => q1 Hk1 σ H1 (p.ext e1 h1) _ fun v2 r2 O2 Hk2 H2 e2 h2 s2 q2 =>
    q2 Hk2 H2 h2 v1 v2 (s1.mono e2) s2 Q' (k.ext (e1.trans e2))
theorem w_un {ta : TE} {r : V → Hp → VK → Prop} (h : EvW K ta O ds fun r1 O1 => UnW K r r1 O1 Q) : EvW K (tUn r ta) O ds Q := fun Hk σ H p Q' k =>
  h Hk σ H p _ fun v1 r1 O1 Hk1 H1 e1 h1 s1 q1 => q1 Hk1 H1 h1 v1 s1 Q' (k.ext e1)
theorem w_if {t : TT} {ta tb : TE} (h : TvW K t O ds fun b O1 => (b = true → EvW K ta O1 ds Q) ∧ (b = false → EvW K tb O1 ds Q)) : EvW K (tIf t ta tb) O ds Q := fun Hk σ H p Q' k =>
  h Hk σ H p _ fun b O1 Hk1 H1 e1 h1 q1 => by
    cases b with
    | true => exact q1.1 rfl Hk1 σ H1 (p.ext e1 h1) Q' (k.ext e1)
    | false => exact q1.2 rfl Hk1 σ H1 (p.ext e1 h1) Q' (k.ext e1)
theorem w_nil {Q : List SD → Own → Prop} (q : Q [] O) : AvW K tNil O ds Q := fun Hk σ H p Q' k => k [] [] O Hk H (Same.refl _) p.hold .nil q
theorem w_cons {ta : TE} {tr : TA} {Q : List SD → Own → Prop} (h : EvW K ta O ds fun r1 O1 => AvW K tr O1 ds fun rs O2 => Q (r1 :: rs) O2) : AvW K (tCons ta tr) O ds Q := fun Hk σ H p Q' k =>
  h Hk σ H p _ fun v1 r1 O1 Hk1 H1 e1 h1 s1 q1 => q1 Hk1 σ H1 (p.ext e1 h1) _ fun vs rs O2 Hk2 H2 e2 h2 s2 q2 =>
    k (v1 :: vs) (r1 :: rs) O2 Hk2 H2 (e1.trans e2) h2 (.cons (s1.mono e2) s2) q2
theorem w_cb {r : List V → Hp → VK → Prop} {ta : TA} (h : AvW K ta O ds fun rs O1 => CbW K r rs O1 Q) : EvW K (tCB r ta) O ds Q := fun Hk σ H p Q' k =>
  h Hk σ H p _ fun vs rs O1 Hk1 H1 e1 h1 s1 q1 => q1 Hk1 H1 h1 vs s1 Q' (k.ext e1)
theorem w_call {pre : List SD → Own → (SD → Own → Prop) → Prop} {E : XK} {ta : TA} (h : AvW K ta O ds fun rs O1 => pre rs O1 Q) : EvW K (tCall (spW K pre) [] E ta) O ds Q := fun Hk σ H p Q' k =>
  h Hk σ H p _ fun vs rs O1 Hk1 H1 e1 h1 s1 q1 => by
    show spW K pre (vs ++ []) H1 Q' E
    rw [List.append_nil]
    exact ⟨Hk1, O1, rs, Q, h1, s1, q1, k.ext e1⟩
/-- a tuple of data -/
theorem w_tup {ta : TA} (h : AvW K ta O ds fun rs O1 => ∃ es : List PyData, Dats rs es ∧ es.length ≤ sizeLine ∧ Q (.dat (.tuple es)) O1) : EvW K (tTup ta) O ds Q := fun Hk σ H p Q' k =>
  h Hk σ H p _ fun vs rs O1 Hk1 H1 e1 h1 s1 q1 => by
    obtain ⟨es, hda, hl, q⟩ := q1
    obtain rfl := hda.eq
    have hd := s1.dats
    refine ⟨by rw [hd.length]; exact hl, fun l hp => ?_⟩
    have sm : Same Hk1 (upd Hk1 l (.tup vs)) := same_new (h1.kn.free hp)
    exact k _ (.dat (.tuple es)) O1 (upd Hk1 l (.tup vs)) _ (e1.trans sm) (h1.know hp) (.tup upd_same (DaAll.mono sm hd)) q
/-- a list display as data -/
theorem w_lst {ta : TA} (h : AvW K ta O ds fun rs O1 => ∃ es : List PyData, Dats rs es ∧ es.length ≤ sizeLine ∧ Q (.dat (.list es)) O1) : EvW K (tLst ta) O ds Q := fun Hk σ H p Q' k =>
  h Hk σ H p _ fun vs rs O1 Hk1 H1 e1 h1 s1 q1 => by
    obtain ⟨es, hda, hl, q⟩ := q1
    obtain rfl := hda.eq
    have hd := s1.dats
    refine ⟨by rw [hd.length]; exact hl, fun l hp => ?_⟩
    have sm : Same Hk1 (upd Hk1 l (.lst vs)) := same_new (h1.kn.free hp)
    exact k _ (.dat (.list es)) O1 (upd Hk1 l (.lst vs)) _ (e1.trans sm) (h1.know hp) (.lst upd_same (DaAll.mono sm hd)) q
/-- a list display that is owned, in front -/
theorem w_lstO {ta : TA} (h : AvW K ta O ds fun rs O1 => rs.length ≤ sizeLine ∧ ∀ l, Q (.ad l) ((l, .lst rs) :: O1)) : EvW K (tLst ta) O ds Q := fun Hk σ H p Q' k =>
  h Hk σ H p _ fun vs rs O1 Hk1 H1 e1 h1 s1 q1 => by
    obtain ⟨hl, q⟩ := q1
    refine ⟨by rw [s1.length]; exact hl, fun l hp => ?_⟩
    exact k _ (.ad l) _ Hk1 _ e1 (h1.own hp s1) rfl (q l)
/-- .. behind the first -/
theorem w_lstO1 {ta : TA} (h : AvW K ta O ds fun rs O1 => rs.length ≤ sizeLine ∧ ∃ a Oa, O1 = a :: Oa ∧ ∀ l, Q (.ad l) (a :: (l, .lst rs) :: Oa)) : EvW K (tLst ta) O ds Q := fun Hk σ H p Q' k =>
  h Hk σ H p _ fun vs rs O1 Hk1 H1 e1 h1 s1 q1 => by
    obtain ⟨hl, a, Oa, rfl, q⟩ := q1
    refine ⟨by rw [s1.length]; exact hl, fun l hp => ?_⟩
    exact k _ (.ad l) _ Hk1 _ e1 ((h1.own hp s1).perm (List.Perm.swap ..)) rfl (q l)
/-! ### what is owned, put otherwise -/
theorem w_perm {t : TE} (s : O.Perm O') (h : EvW K t O' ds Q) : EvW K t O ds Q := fun Hk σ H p => h Hk σ H ⟨p.hold.perm s, p.len, p.env⟩
theorem w_drop {t : TE} (s : List.Sublist O' O) (h : EvW K t O' ds Q) : EvW K t O ds Q := fun Hk σ H p => h Hk σ H ⟨p.hold.sub s, p.len, p.env⟩
theorem s_perm {t : TS} (s : O.Perm O') (h : StW K t O' ds A) : StW K t O ds A := fun Hk σ H D p => h Hk σ H D ⟨p.hold.perm s, p.len, p.env⟩
theorem s_dropO {t : TS} (s : List.Sublist O' O) (h : StW K t O' ds A) : StW K t O ds A := fun Hk σ H D p => h Hk σ H D ⟨p.hold.sub s, p.len, p.env⟩
/-- the value may be taken as known data, if it is an owned list of data -/
theorem w_frz {t : TE} {Q : SD → Own → Prop} (h : EvW K t O ds fun r O1 => ∃ a rs es Oa, r = .ad a ∧ O1.Perm ((a, .lst rs) :: Oa) ∧ Dats rs es ∧ Q (.dat (.list es)) Oa) : EvW K t O ds Q := fun Hk σ H p Q' k =>
  h Hk σ H p _ fun v r O1 Hk1 H1 e1 h1 s1 q1 => by
    obtain ⟨a, rs, es, Oa, rfl, hp, hda, q⟩ := q1
    obtain rfl := hda.eq
    cases (show v = .ref a from s1)
    obtain ⟨Hk2, e2, h2, d2⟩ := (h1.perm hp).freeze
    exact k _ (.dat (.list es)) Oa Hk2 H1 (e1.trans e2) h2 d2 q
theorem w_mono {t : TE} {Q R : SD → Own → Prop} (h : EvW K t O ds R) (k : ∀ r O, R r O → Q r O) : EvW K t O ds Q := fun Hk σ H p Q' kk =>
  h Hk σ H p Q' fun v r O2 Hk2 H2 e h2 s q => kk v r O2 Hk2 H2 e h2 s (k r O2 q)
theorem s_ds {t : TS} {ds' : List SD} (hl : ds'.length = ds.length) (hd : ∀ (i : Nat) (r : SD), ds'[i]? = some r → r = .non ∨ ds[i]? = some r) (h : StW K t O ds' A) : StW K t O ds A := fun Hk σ H D p => h Hk σ H D (p.weak hl hd)

/-! ### tests -/
theorem t_test {te : TE} {Q : Bool → Own → Prop} (h : EvW K te O ds fun r O1 => ∃ b, r = bV b ∧ Q b O1) : TvW K (tTest te) O ds Q := fun Hk σ H p Q' k =>
  h Hk σ H p _ fun v r O1 Hk1 H1 e1 h1 s1 q1 => by
    obtain ⟨b, rfl, q⟩ := q1
    cases (show Da Hk1 v (.bool b) from s1)
    exact ⟨b, rfl, k b O1 Hk1 H1 e1 h1 q⟩
theorem t_B {te : TE} {Q : Bool → Own → Prop} (h : EvW K te O ds fun r O1 => ∃ b, r = bV b ∧ Q b O1) : TvW K (tB te) O ds Q := fun Hk σ H p Q' k =>
  h Hk σ H p _ fun v r O1 Hk1 H1 e1 h1 s1 q1 => by
    obtain ⟨b, rfl, q⟩ := q1
    cases (show Da Hk1 v (.bool b) from s1)
    exact ⟨b, rfl, k b O1 Hk1 H1 e1 h1 q⟩
theorem t_and {t u : TT} {Q : Bool → Own → Prop} (h : TvW K t O ds fun b O1 => (b = true → TvW K u O1 ds Q) ∧ (b = false → Q false O1)) : TvW K (tAnd t u) O ds Q := fun Hk σ H p Q' k =>
  h Hk σ H p _ fun b O1 Hk1 H1 e1 h1 q1 => by
    cases b with
    | true => exact iteT (q1.1 rfl Hk1 σ H1 (p.ext e1 h1) Q' fun b O2 Hk2 H2 e2 => k b O2 Hk2 H2 (e1.trans e2))
    | false => exact iteF (k false O1 Hk1 H1 e1 h1 (q1.2 rfl))
theorem t_or {t u : TT} {Q : Bool → Own → Prop} (h : TvW K t O ds fun b O1 => (b = true → Q true O1) ∧ (b = false → TvW K u O1 ds Q)) : TvW K (tOr t u) O ds Q := fun Hk σ H p Q' k =>
  h Hk σ H p _ fun b O1 Hk1 H1 e1 h1 q1 => by
    cases b with
    | true => exact iteT (k true O1 Hk1 H1 e1 h1 (q1.1 rfl))
    | false => exact iteF (q1.2 rfl Hk1 σ H1 (p.ext e1 h1) Q' fun b O2 Hk2 H2 e2 => k b O2 Hk2 H2 (e1.trans e2))
theorem t_not {t : TT} {Q : Bool → Own → Prop} (h : TvW K t O ds fun b O1 => Q (!b) O1) : TvW K (tNot t) O ds Q := fun Hk σ H p Q' k =>
  h Hk σ H p _ fun b O1 Hk1 H1 e1 h1 q1 => k (!b) O1 Hk1 H1 e1 h1 q1
theorem t_yes {Q : Bool → Own → Prop} (q : Q true O) : TvW K tYes O ds Q := fun Hk σ H p Q' k => k true O Hk H (Same.refl _) p.hold q
theorem w_andV {ta tb : TE} (h : EvW K ta O ds fun r O1 => ∃ c, r = bV c ∧ (c = true → EvW K tb O1 ds Q) ∧ (c = false → Q (bV false) O1)) : EvW K (tAndV ta tb) O ds Q := fun Hk σ H p Q' k =>
  h Hk σ H p _ fun v r O1 Hk1 H1 e1 h1 s1 q1 => by
    obtain ⟨c, rfl, qt, qf⟩ := q1
    cases (show Da Hk1 v (.bool c) from s1)
    refine ⟨c, rfl, ?_⟩
    cases c with
    | true => exact iteT (qt rfl Hk1 σ H1 (p.ext e1 h1) Q' (k.ext e1))
    | false => exact iteF (k _ (bV false) O1 Hk1 H1 e1 h1 (.bl false) (qf rfl))
theorem w_orV {ta tb : TE} (h : EvW K ta O ds fun r O1 => ∃ c, r = bV c ∧ (c = true → Q (bV true) O1) ∧ (c = false → EvW K tb O1 ds Q)) : EvW K (tOrV ta tb) O ds Q := fun Hk σ H p Q' k =>
  h Hk σ H p _ fun v r O1 Hk1 H1 e1 h1 s1 q1 => by
    obtain ⟨c, rfl, qt, qf⟩ := q1
    cases (show Da Hk1 v (.bool c) from s1)
    refine ⟨c, rfl, ?_⟩
    cases c with
    | true => exact iteT (k _ (bV true) O1 Hk1 H1 e1 h1 (.bl true) (qt rfl))
    | false => exact iteF (qf rfl Hk1 σ H1 (p.ext e1 h1) Q' (k.ext e1))
theorem w_notV {ta : TE} (h : EvW K ta O ds fun r O1 => ∃ c, r = bV c ∧ Q (bV (!c)) O1) : EvW K (tNotV ta) O ds Q := fun Hk σ H p Q' k =>
  h Hk σ H p _ fun v r O1 Hk1 H1 e1 h1 s1 q1 => by
    obtain ⟨c, rfl, q⟩ := q1
    cases (show Da Hk1 v (.bool c) from s1)
    exact ⟨c, rfl, k _ (bV (!c)) O1 Hk1 H1 e1 h1 (.bl _) q⟩
/-! ### operators by values -/
theorem o_I0 {g : Int → Int → V} {i j : Int} {d : PyData} (hd : ∀ H, Da H (g i j) d) (q : Q (.dat d) O) : OpW K (rI0 g) (iV i) (iV j) O Q := fun Hk H h u v hu hv Q' k => by
  cases (show Da Hk u (.int i) from hu)
  cases (show Da Hk v (.int j) from hv)
  exact ⟨i, j, rfl, rfl, k.now h (r := .dat d) (hd Hk) q⟩
theorem o_I {C : Int → Int → Prop} {g : Int → Int → V} {i j : Int} {d : PyData} (hc : C i j) (hd : ∀ H, Da H (g i j) d) (q : Q (.dat d) O) : OpW K (rI C g) (iV i) (iV j) O Q := fun Hk H h u v hu hv Q' k => by
  cases (show Da Hk u (.int i) from hu)
  cases (show Da Hk v (.int j) from hv)
  exact ⟨i, j, rfl, rfl, hc, k.now h (r := .dat d) (hd Hk) q⟩
theorem o_add {i j : Int} (q : Q (iV (i + j)) O) : OpW K (rI0 fun i j => .int (i + j)) (iV i) (iV j) O Q := o_I0 (fun _ => .int _) q
theorem o_sub {i j : Int} (q : Q (iV (i - j)) O) : OpW K (rI0 fun i j => .int (i - j)) (iV i) (iV j) O Q := o_I0 (fun _ => .int _) q
theorem o_mul {i j : Int} (hc : CMul i j) (q : Q (iV (i * j)) O) : OpW K (rI CMul fun i j => .int (i * j)) (iV i) (iV j) O Q := o_I hc (fun _ => .int _) q
theorem cmul_l {i j : Int} (h1 : -(2 ^ 64) < i) (h2 : i < 2 ^ 64) : CMul i j := .inl ⟨h1, h2⟩
theorem cmul_r {i j : Int} (h1 : -(2 ^ 64) < j) (h2 : j < 2 ^ 64) : CMul i j := .inr ⟨h1, h2⟩
theorem o_mod {i j : Int} (hc : 0 < j) (q : Q (iV (i % j)) O) : OpW K (rI (fun _ j => 0 < j) fun i j => .int (i % j)) (iV i) (iV j) O Q := o_I (C := fun _ j => 0 < j) hc (fun _ => .int _) q
/-- the rest as a letter -/
theorem o_modB {i j : Int} (hc : 0 < j) (q : ∀ n : Int, 0 ≤ n → n < j → n = i % j → Q (iV n) O) : OpW K (rI (fun _ j => 0 < j) fun i j => .int (i % j)) (iV i) (iV j) O Q :=
  o_mod hc (q _ (Int.emod_nonneg _ (by omega)) (Int.emod_lt_of_pos _ hc) rfl)
theorem o_fdiv {i j : Int} (hc : 0 < j ∧ j < 1073741824) (q : Q (iV (i / j)) O) : OpW K (rI CDiv fun i j => .int (i / j)) (iV i) (iV j) O Q := o_I (C := CDiv) hc (fun _ => .int _) q
theorem o_pow {i j : Int} (hc : CPow i j) (q : Q (iV (i ^ j.toNat)) O) : OpW K (rI CPow fun i j => .int (i ^ j.toNat)) (iV i) (iV j) O Q := o_I hc (fun _ => .int _) q
theorem o_lt {i j : Int} (q : Q (bV (decide (i < j))) O) : OpW K (rI0 fun i j => .bl (decide (i < j))) (iV i) (iV j) O Q := o_I0 (fun _ => .bl _) q
theorem o_pow18 (q : Q (iV 1000000000000000000) O) : OpW K (rI CPow fun i j => .int (i ^ j.toNat)) (iV 10) (iV 18) O Q := o_pow ⟨by decide, by decide, by decide⟩ q
theorem o_gt {i j : Int} (q : Q (bV (decide (j < i))) O) : OpW K (rI0 fun i j => .bl (decide (j < i))) (iV i) (iV j) O Q := o_I0 (fun _ => .bl _) q
theorem o_ge {i j : Int} (q : Q (bV (decide (j ≤ i))) O) : OpW K (rI0 fun i j => .bl (decide (j ≤ i))) (iV i) (iV j) O Q := o_I0 (fun _ => .bl _) q
theorem o_le {i j : Int} (q : Q (bV (decide (i ≤ j))) O) : OpW K (rI0 fun i j => .bl (decide (i ≤ j))) (iV i) (iV j) O Q := o_I0 (fun _ => .bl _) q
theorem u_neg {i : Int} (q : Q (iV (-i)) O) : UnW K (rU fun i => .int (-i)) (iV i) O Q := fun Hk H h u hu Q' k => by
  cases (show Da Hk u (.int i) from hu)
  exact ⟨i, rfl, k.now h (r := iV (-i)) (.int _) q⟩
theorem o_eqI {i j : Int} (q : Q (bV (decide (i = j))) O) : OpW K rEq (iV i) (iV j) O Q := fun Hk H h u v hu hv Q' k => by
  cases (show Da Hk u (.int i) from hu)
  cases (show Da Hk v (.int j) from hv)
  refine ⟨rfl, ?_⟩
  have e : decide (V.int i = V.int j) = decide (i = j) := by
    by_cases z : i = j
    · rw [decide_eq_true z, decide_eq_true (congrArg V.int z)]
    · rw [decide_eq_false z, decide_eq_false fun q => z (V.int.inj q)]
  rw [e]
  exact k.now h (r := bV _) (.bl _) q
theorem o_neI {i j : Int} (q : Q (bV (!decide (i = j))) O) : OpW K rNe (iV i) (iV j) O Q := fun Hk H h u v hu hv Q' k => by
  cases (show Da Hk u (.int i) from hu)
  cases (show Da Hk v (.int j) from hv)
  refine ⟨rfl, ?_⟩
  have e : decide (V.int i = V.int j) = decide (i = j) := by
    by_cases z : i = j
    · rw [decide_eq_true z, decide_eq_true (congrArg V.int z)]
    · rw [decide_eq_false z, decide_eq_false fun q => z (V.int.inj q)]
  rw [e]
  exact k.now h (r := bV _) (.bl _) q
theorem o_eqB {i j : Bool} (q : Q (bV (decide (i = j))) O) : OpW K rEq (bV i) (bV j) O Q := fun Hk H h u v hu hv Q' k => by
  cases (show Da Hk u (.bool i) from hu)
  cases (show Da Hk v (.bool j) from hv)
  refine ⟨rfl, ?_⟩
  have e : decide (V.bl i = V.bl j) = decide (i = j) := by
    by_cases z : i = j
    · rw [decide_eq_true z, decide_eq_true (congrArg V.bl z)]
    · rw [decide_eq_false z, decide_eq_false fun q => z (V.bl.inj q)]
  rw [e]
  exact k.now h (r := bV _) (.bl _) q
theorem o_neB {i j : Bool} (q : Q (bV (!decide (i = j))) O) : OpW K rNe (bV i) (bV j) O Q := fun Hk H h u v hu hv Q' k => by
  cases (show Da Hk u (.bool i) from hu)
  cases (show Da Hk v (.bool j) from hv)
  refine ⟨rfl, ?_⟩
  have e : decide (V.bl i = V.bl j) = decide (i = j) := by
    by_cases z : i = j
    · rw [decide_eq_true z, decide_eq_true (congrArg V.bl z)]
    · rw [decide_eq_false z, decide_eq_false fun q => z (V.bl.inj q)]
  rw [e]
  exact k.now h (r := bV _) (.bl _) q
theorem o_isB {i j : Bool} (q : Q (bV (decide (i = j))) O) : OpW K rIsB (bV i) (bV j) O Q := fun Hk H h u v hu hv Q' k => by
  cases (show Da Hk u (.bool i) from hu)
  cases (show Da Hk v (.bool j) from hv)
  exact ⟨i, j, rfl, rfl, k.now h (r := bV _) (.bl _) q⟩
theorem o_notB {i j : Bool} (q : Q (bV (!decide (i = j))) O) : OpW K rNotB (bV i) (bV j) O Q := fun Hk H h u v hu hv Q' k => by
  cases (show Da Hk u (.bool i) from hu)
  cases (show Da Hk v (.bool j) from hv)
  exact ⟨i, j, rfl, rfl, k.now h (r := bV _) (.bl _) q⟩
/-- == and != of data -/
theorem o_eqD {d e : PyData} (h1 : SeqAt.shaped d = true) (h2 : SeqAt.shaped e = true) (q : Q (bV (PyData.eqv d e)) O) : OpW K (rEqD K) (.dat d) (.dat e) O Q := fun Hk H h u v hu hv Q' k =>
  ⟨d, e, (Da.mono h.kn hu).dp, (Da.mono h.kn hv).dp, h1, h2, k.now h (r := bV _) (.bl _) q⟩
theorem o_neD {d e : PyData} (h1 : SeqAt.shaped d = true) (h2 : SeqAt.shaped e = true) (q : Q (bV (!PyData.eqv d e)) O) : OpW K (rNeD K) (.dat d) (.dat e) O Q := fun Hk H h u v hu hv Q' k =>
  ⟨d, e, (Da.mono h.kn hu).dp, (Da.mono h.kn hv).dp, h1, h2, k.now h (r := bV _) (.bl _) q⟩
/-- an item of a tuple, of a list of data, of an owned list -/
theorem atI_get {α : Type} {xs : List α} {i : Int} {v : α} (h : atI xs i = some v) : ∃ j : Nat, ixN xs.length i = some j ∧ xs[j]? = some v := by
  unfold atI at h
  cases e : ixN xs.length i with
  | none => rw [e] at h; cases h
  | some j => rw [e] at h; exact ⟨j, rfl, h⟩
theorem atI_of {α : Type} {xs : List α} {i : Int} {v : α} {j : Nat} (h1 : ixN xs.length i = some j) (h2 : xs[j]? = some v) : atI xs i = some v := by
  unfold atI
  rw [h1]
  exact h2
theorem o_ixT {es : List PyData} {i : Int} {d : PyData} (ha : atI es i = some d) (q : Q (.dat d) O) : OpW K (rIxT K) (.dat (.tuple es)) (iV i) O Q := fun Hk H h u v hu hv Q' k => by
  cases (show Da Hk v (.int i) from hv)
  cases (show Da Hk u (.tuple es) from hu) with
  | tup h1 h2 =>
    obtain ⟨j, e1, e2⟩ := atI_get ha
    obtain ⟨w, g1, g2⟩ := h2.get e2
    exact ⟨_, _, i, w, rfl, rfl, .inl (.inl (h.kn _ _ h1)), atI_of (by rw [h2.length]; exact e1) g1, k.now h (r := .dat d) g2 q⟩
theorem o_ixL {es : List PyData} {i : Int} {d : PyData} (ha : atI es i = some d) (q : Q (.dat d) O) : OpW K (rIxL K) (.dat (.list es)) (iV i) O Q := fun Hk H h u v hu hv Q' k => by
  cases (show Da Hk v (.int i) from hv)
  cases (show Da Hk u (.list es) from hu) with
  | lst h1 h2 =>
    obtain ⟨j, e1, e2⟩ := atI_get ha
    obtain ⟨w, g1, g2⟩ := h2.get e2
    exact ⟨_, _, i, w, rfl, rfl, .inl (.inl (h.kn _ _ h1)), atI_of (by rw [h2.length]; exact e1) g1, k.now h (r := .dat d) g2 q⟩
theorem atI_in {α : Type} {xs : List α} {i : Int} (h0 : 0 ≤ i) (h1 : i < xs.length) : ∃ v, atI xs i = some v ∧ xs[i.toNat]? = some v ∧ v ∈ xs := by
  obtain ⟨j, rfl⟩ : ∃ j : Nat, i = (j : Int) := ⟨i.toNat, by omega⟩
  have hj : j < xs.length := by omega
  refine ⟨xs[j], atI_nat (List.getElem?_eq_getElem hj), ?_, List.getElem_mem hj⟩
  rw [Int.toNat_natCast]
  exact List.getElem?_eq_getElem hj
/-- an item at a place that is not known -/
theorem o_pickL {es : List PyData} {i : Int} (h0 : 0 ≤ i) (h1 : i < es.length) (q : ∀ d, d ∈ es → Q (.dat d) O) : OpW K (rIxL K) (.dat (.list es)) (iV i) O Q := by
  obtain ⟨d, h, _, hm⟩ := atI_in h0 h1
  exact o_ixL h (q d hm)
theorem o_pickT {es : List PyData} {i : Int} (h0 : 0 ≤ i) (h1 : i < es.length) (q : ∀ d, d ∈ es → Q (.dat d) O) : OpW K (rIxT K) (.dat (.tuple es)) (iV i) O Q := by
  obtain ⟨d, h, _, hm⟩ := atI_in h0 h1
  exact o_ixT h (q d hm)
/-- an item of ints -/
theorem o_nthL {ns : List Int} {i : Int} (h0 : 0 ≤ i) (h1 : i < ns.length) (q : Q (iV (ns.getD i.toNat 0)) O) : OpW K (rIxL K) (.dat (lI ns)) (iV i) O Q := by
  obtain ⟨d, h, e, hm⟩ := atI_in (xs := ns.map PyData.int) h0 (by rw [List.length_map]; exact h1)
  rw [List.getElem?_map] at e
  refine o_ixL h ?_
  cases z : ns[i.toNat]? with
  | none => rw [z] at e; cases e
  | some n =>
    rw [z] at e
    cases e
    rw [List.getD_eq_getElem?_getD, z] at q
    exact q
theorem o_nthT {ns : List Int} {i : Int} (h0 : 0 ≤ i) (h1 : i < ns.length) (q : Q (iV (ns.getD i.toNat 0)) O) : OpW K (rIxT K) (.dat (tI ns)) (iV i) O Q := by
  obtain ⟨d, h, e, hm⟩ := atI_in (xs := ns.map PyData.int) h0 (by rw [List.length_map]; exact h1)
  rw [List.getElem?_map] at e
  refine o_ixT h ?_
  cases z : ns[i.toNat]? with
  | none => rw [z] at e; cases e
  | some n =>
    rw [z] at e
    cases e
    rw [List.getD_eq_getElem?_getD, z] at q
    exact q
theorem o_pickI {ns : List Int} {i : Int} (h0 : 0 ≤ i) (h1 : i < ns.length) (q : ∀ v, v ∈ ns → Q (iV v) O) : OpW K (rIxL K) (.dat (lI ns)) (iV i) O Q :=
  o_pickL h0 (by rw [List.length_map]; exact h1) fun d hd => by
    obtain ⟨v, hv, rfl⟩ := List.mem_map.mp hd
    exact q v hv
theorem o_pickIT {ns : List Int} {i : Int} (h0 : 0 ≤ i) (h1 : i < ns.length) (q : ∀ v, v ∈ ns → Q (iV v) O) : OpW K (rIxT K) (.dat (tI ns)) (iV i) O Q :=
  o_pickT h0 (by rw [List.length_map]; exact h1) fun d hd => by
    obtain ⟨v, hv, rfl⟩ := List.mem_map.mp hd
    exact q v hv
theorem o_ixO {a : Addr} {rs : List SD} {i : Int} {d : SD} (hm : (a, OD.lst rs) ∈ O) (ha : atI rs i = some d) (q : Q d O) : OpW K (rIxL K) (.ad a) (iV i) O Q := fun Hk H h u v hu hv Q' k => by
  cases (show Da Hk v (.int i) from hv)
  cases (show u = .ref a from hu)
  obtain ⟨⟨vs, h1, h2⟩, _⟩ := h.ow _ hm
  obtain ⟨j, e1, e2⟩ := atI_get ha
  obtain ⟨w, g1, g2⟩ := h2.get e2
  exact ⟨a, vs, i, w, rfl, rfl, .inl (.inl h1), atI_of (by rw [h2.length]; exact e1) g1, k.now h g2 q⟩
end
end Wk
namespace Wk
open PySem PySem.Spec PyProof.Rows L2
section
variable {K : PySem.W.Frag} {Hk Hk' H H' : Hp} {O O' : Own} {ds : List SD} {σ : L2.St} {Q : SD → Own → Prop} {Q' : VK} {r : R2} {x y : SD} {A : AE} {D : Ends}
theorem w_ty {n : String} (q : Q (.ty n) O) : EvW K (tC (.ty n)) O ds Q := fun Hk σ H p Q' k => k.now p.hold (r := .ty n) rfl q
theorem w_ref {a : Addr} (q : Q (.ad a) O) : EvW K (tC (.ref a)) O ds Q := fun Hk σ H p Q' k => k.now p.hold (r := .ad a) rfl q
/-! ### built-ins by values -/
theorem all1 {H : Hp} {us : List V} {a : SD} (h : SDall K H us [a]) : ∃ u, us = [u] ∧ SDok K H u a := by
  cases h with
  | cons h r => cases r; exact ⟨_, rfl, h⟩
theorem all2 {H : Hp} {us : List V} {a b : SD} (h : SDall K H us [a, b]) : ∃ u v, us = [u, v] ∧ SDok K H u a ∧ SDok K H v b := by
  cases h with
  | cons h r => obtain ⟨v, rfl, hv⟩ := all1 r; exact ⟨_, v, rfl, h, hv⟩
theorem c_lenT {es : List PyData} (q : Q (iV es.length) O) : CbW K (fun xs H Q => ∃ p ys, xs = [.ref p] ∧ (SqL K H p ys ∨ SqT K H p ys) ∧ Q (.int ys.length) H) [.dat (.tuple es)] O Q := fun Hk H h us hus Q' k => by
  obtain ⟨u, rfl, hu⟩ := all1 hus
  cases (show Da Hk u (.tuple es) from hu) with
  | @tup a xs _ h1 h2 =>
    refine ⟨_, _, rfl, .inr (.inl (.inl (h.kn _ _ h1))), ?_⟩
    rw [h2.length]
    exact k.now h (r := iV _) (.int _) q
theorem c_lenL {es : List PyData} (q : Q (iV es.length) O) : CbW K (fun xs H Q => ∃ p ys, xs = [.ref p] ∧ (SqL K H p ys ∨ SqT K H p ys) ∧ Q (.int ys.length) H) [.dat (.list es)] O Q := fun Hk H h us hus Q' k => by
  obtain ⟨u, rfl, hu⟩ := all1 hus
  cases (show Da Hk u (.list es) from hu) with
  | @lst a xs _ h1 h2 =>
    refine ⟨_, _, rfl, .inl (.inl (.inl (h.kn _ _ h1))), ?_⟩
    rw [h2.length]
    exact k.now h (r := iV _) (.int _) q
theorem c_lenO {a : Addr} {rs : List SD} (hm : (a, OD.lst rs) ∈ O) (q : Q (iV rs.length) O) : CbW K (fun xs H Q => ∃ p ys, xs = [.ref p] ∧ (SqL K H p ys ∨ SqT K H p ys) ∧ Q (.int ys.length) H) [.ad a] O Q := fun Hk H h us hus Q' k => by
  obtain ⟨u, rfl, hu⟩ := all1 hus
  cases (show u = .ref a from hu)
  obtain ⟨⟨vs, h1, h2⟩, _⟩ := h.ow _ hm
  refine ⟨_, _, rfl, .inl (.inl (.inl h1)), ?_⟩
  rw [h2.length]
  exact k.now h (r := iV _) (.int _) q
theorem c_lenS {ns : List Int} (q : Q (iV ns.length) O) : CbW K (fun xs H Q => ∃ p ys, xs = [.ref p] ∧ (SqL K H p ys ∨ SqT K H p ys) ∧ Q (.int ys.length) H) [.scr ns] O Q := fun Hk H h us hus Q' k => by
  obtain ⟨u, rfl, hu⟩ := all1 hus
  obtain ⟨a, rfl, hs⟩ := hu
  refine ⟨_, _, rfl, .inl (h.kn.seq hs), ?_⟩
  rw [List.length_map]
  exact k.now h (r := iV _) (.int _) q
theorem c_max2 {i j : Int} (q : Q (iV (max i j)) O) : CbW K (fun xs H Q => ∃ i j, xs = [.int i, .int j] ∧ Q (.int (if j > i then j else i)) H) [iV i, iV j] O Q := fun Hk H h us hus Q' k => by
  obtain ⟨u, v, rfl, hu, hv⟩ := all2 hus
  cases (show Da Hk u (.int i) from hu)
  cases (show Da Hk v (.int j) from hv)
  refine ⟨i, j, rfl, ?_⟩
  rw [show (if j > i then j else i) = max i j by split <;> omega]
  exact k.now h (r := iV _) (.int _) q
theorem c_min2 {i j : Int} (q : Q (iV (min i j)) O) : CbW K (fun xs H Q => ∃ i j, xs = [.int i, .int j] ∧ Q (.int (if j < i then j else i)) H) [iV i, iV j] O Q := fun Hk H h us hus Q' k => by
  obtain ⟨u, v, rfl, hu, hv⟩ := all2 hus
  cases (show Da Hk u (.int i) from hu)
  cases (show Da Hk v (.int j) from hv)
  refine ⟨i, j, rfl, ?_⟩
  rw [show (if j < i then j else i) = min i j by split <;> omega]
  exact k.now h (r := iV _) (.int _) q
theorem c_int {i : Int} (q : Q (iV i) O) : CbW K (fun xs H Q => (∃ i, xs = [.int i] ∧ Q (.int i) H) ∨ ∃ k, xs = [.bl k] ∧ Q (.int (if k then 1 else 0)) H) [iV i] O Q := fun Hk H h us hus Q' k => by
  obtain ⟨u, rfl, hu⟩ := all1 hus
  cases (show Da Hk u (.int i) from hu)
  exact .inl ⟨i, rfl, k.now h (r := iV _) (.int _) q⟩
theorem c_intB {i : Bool} (q : Q (iV (if i then 1 else 0)) O) : CbW K (fun xs H Q => (∃ i, xs = [.int i] ∧ Q (.int i) H) ∨ ∃ k, xs = [.bl k] ∧ Q (.int (if k then 1 else 0)) H) [bV i] O Q := fun Hk H h us hus Q' k => by
  obtain ⟨u, rfl, hu⟩ := all1 hus
  cases (show Da Hk u (.bool i) from hu)
  exact .inr ⟨i, rfl, k.now h (r := iV _) (.int _) q⟩
theorem c_sum {ns : List Int} (q : Q (iV ns.sum) O) : CbW K (rSum K) [.dat (lI ns)] O Q := fun Hk H h us hus Q' k => by
  obtain ⟨u, rfl, hu⟩ := all1 hus
  cases (show Da Hk u (lI ns) from hu) with
  | @lst a xs _ h1 h2 =>
    rw [h2.ints] at h1
    exact ⟨_, ns, rfl, .inl (.inl (h.kn _ _ h1)), k.now h (r := iV _) (.int _) q⟩
theorem c_max {ns : List Int} (hn : 0 < ns.length) (q : ∀ m, m ∈ ns → (∀ y ∈ ns, y ≤ m) → Q (iV m) O) : CbW K (rMax K) [.dat (lI ns)] O Q := fun Hk H h us hus Q' k => by
  obtain ⟨u, rfl, hu⟩ := all1 hus
  cases (show Da Hk u (lI ns) from hu) with
  | @lst a xs _ h1 h2 =>
    rw [h2.ints] at h1
    exact ⟨_, ns, rfl, .inl (.inl (h.kn _ _ h1)), hn, fun m hm hl => k.now h (r := iV _) (.int _) (q m hm hl)⟩
/-- sorted, the list that comes is data; ordered ascending -/
theorem c_sorted {ns : List Int} (q : ∀ ms : List Int, ms.Perm ns → ms.Pairwise (· ≤ ·) → Q (.dat (lI ms)) O) : CbW K (rSortedI K) [.dat (lI ns)] O Q := fun Hk H h us hus Q' k => by
  obtain ⟨u, rfl, hu⟩ := all1 hus
  cases (show Da Hk u (lI ns) from hu) with
  | @lst a xs _ h1 h2 =>
    rw [h2.ints] at h1
    refine ⟨_, ns, rfl, .inl (.inl (h.kn _ _ h1)), fun ms p hp hs hf => ?_⟩
    have sm : Same Hk (upd Hk p (.lst (ms.map V.int))) := same_new (h.kn.free hf)
    exact k _ (.dat (lI ms)) O _ _ sm (h.know hf) (.lst upd_same (DaAll.of_ints ms)) (q ms hp hs)
/-- tuple(list), tuple(tuple), list(tuple), list(list): as data -/
theorem c_tupL {es : List PyData} (q : Q (.dat (.tuple es)) O) : CbW K (fun xs H Q => ∃ p ys, xs = [.ref p] ∧ ((SqL K H p ys ∧ ∀ l, H l = none → Q (.ref l) (upd H l (.tup ys))) ∨ (SqT K H p ys ∧ Q (.ref p) H))) [.dat (.list es)] O Q := fun Hk H h us hus Q' k => by
  obtain ⟨u, rfl, hu⟩ := all1 hus
  cases (show Da Hk u (.list es) from hu) with
  | @lst a xs _ h1 h2 =>
    refine ⟨_, _, rfl, .inl ⟨.inl (.inl (h.kn _ _ h1)), fun l hf => ?_⟩⟩
    have sm := same_new (o := .tup xs) (h.kn.free hf)
    exact k _ (.dat (.tuple es)) O _ _ sm (h.know hf) (.tup upd_same (DaAll.mono sm h2)) q
theorem c_tupT {es : List PyData} (q : Q (.dat (.tuple es)) O) : CbW K (fun xs H Q => ∃ p ys, xs = [.ref p] ∧ ((SqL K H p ys ∧ ∀ l, H l = none → Q (.ref l) (upd H l (.tup ys))) ∨ (SqT K H p ys ∧ Q (.ref p) H))) [.dat (.tuple es)] O Q := fun Hk H h us hus Q' k => by
  obtain ⟨u, rfl, hu⟩ := all1 hus
  have hu' := hu
  cases (show Da Hk u (.tuple es) from hu) with
  | @tup a xs _ h1 h2 => exact ⟨_, _, rfl, .inr ⟨.inl (.inl (h.kn _ _ h1)), k.now h (r := .dat (.tuple es)) hu' q⟩⟩
theorem c_listT {es : List PyData} (q : Q (.dat (.list es)) O) : CbW K (fun xs H Q => ∃ p ys, xs = [.ref p] ∧ (SqL K H p ys ∨ SqT K H p ys) ∧ ∀ l, H l = none → Q (.ref l) (upd H l (.lst ys))) [.dat (.tuple es)] O Q := fun Hk H h us hus Q' k => by
  obtain ⟨u, rfl, hu⟩ := all1 hus
  cases (show Da Hk u (.tuple es) from hu) with
  | @tup a xs _ h1 h2 =>
    refine ⟨_, _, rfl, .inr (.inl (.inl (h.kn _ _ h1))), fun l hf => ?_⟩
    have sm := same_new (o := .lst xs) (h.kn.free hf)
    exact k _ (.dat (.list es)) O _ _ sm (h.know hf) (.lst upd_same (DaAll.mono sm h2)) q
theorem c_listL {es : List PyData} (q : Q (.dat (.list es)) O) : CbW K (fun xs H Q => ∃ p ys, xs = [.ref p] ∧ (SqL K H p ys ∨ SqT K H p ys) ∧ ∀ l, H l = none → Q (.ref l) (upd H l (.lst ys))) [.dat (.list es)] O Q := fun Hk H h us hus Q' k => by
  obtain ⟨u, rfl, hu⟩ := all1 hus
  cases (show Da Hk u (.list es) from hu) with
  | @lst a xs _ h1 h2 =>
    refine ⟨_, _, rfl, .inl (.inl (.inl (h.kn _ _ h1))), fun l hf => ?_⟩
    have sm := same_new (o := .lst xs) (h.kn.free hf)
    exact k _ (.dat (.list es)) O _ _ sm (h.know hf) (.lst upd_same (DaAll.mono sm h2)) q
/-- .. as a list that is owned -/
theorem c_listTO {es : List PyData} (q : ∀ l, Q (.ad l) ((l, .lst (es.map .dat)) :: O)) : CbW K (fun xs H Q => ∃ p ys, xs = [.ref p] ∧ (SqL K H p ys ∨ SqT K H p ys) ∧ ∀ l, H l = none → Q (.ref l) (upd H l (.lst ys))) [.dat (.tuple es)] O Q := fun Hk H h us hus Q' k => by
  obtain ⟨u, rfl, hu⟩ := all1 hus
  cases (show Da Hk u (.tuple es) from hu) with
  | @tup a xs _ h1 h2 => exact ⟨_, _, rfl, .inr (.inl (.inl (h.kn _ _ h1))), fun l hf => k _ (.ad l) _ Hk _ (Same.refl _) (h.own hf (SDall.of_dats h2)) rfl (q l)⟩
theorem c_listLO {es : List PyData} (q : ∀ l, Q (.ad l) ((l, .lst (es.map .dat)) :: O)) : CbW K (fun xs H Q => ∃ p ys, xs = [.ref p] ∧ (SqL K H p ys ∨ SqT K H p ys) ∧ ∀ l, H l = none → Q (.ref l) (upd H l (.lst ys))) [.dat (.list es)] O Q := fun Hk H h us hus Q' k => by
  obtain ⟨u, rfl, hu⟩ := all1 hus
  cases (show Da Hk u (.list es) from hu) with
  | @lst a xs _ h1 h2 => exact ⟨_, _, rfl, .inl (.inl (.inl (h.kn _ _ h1))), fun l hf => k _ (.ad l) _ Hk _ (Same.refl _) (h.own hf (SDall.of_dats h2)) rfl (q l)⟩
/-- the type of data -/
def tyD : PyData → String
  | .none => "NoneType" | .bool _ => "bool" | .int _ => "int" | .str _ => "str" | .list _ => "list" | .tuple _ => "tuple" | .dict _ => "dict"
theorem tyX_of {v : V} {d : PyData} (h : Da H v d) : TyX K H v (.type (tyD d)) := by
  cases h with
  | non => exact .base .non
  | bl b => exact .base (.bl b)
  | int b => exact .base (.int b)
  | str b => exact .base (.str b)
  | lst h1 _ => exact .base (.lst h1)
  | tup h1 _ => exact .base (.tup h1)
theorem c_isi {d : PyData} {n : String} {b : Bool} (hb : kitB (tyD d) n = some b) (q : Q (bV b) O) : CbW K (rIsi K) [.dat d, .ty n] O Q := fun Hk H h us hus Q' k => by
  obtain ⟨u, v, rfl, hu, hv⟩ := all2 hus
  cases (show v = .ty n from hv)
  exact ⟨u, .ty n, _, _, b, rfl, .ty n, tyX_of (Da.mono h.kn hu), kit_ty hb, k.now h (r := bV _) (.bl _) q⟩
theorem c_isiO {a : Addr} {rs : List SD} {n : String} {b : Bool} (hm : (a, OD.lst rs) ∈ O) (hb : kitB "list" n = some b) (q : Q (bV b) O) : CbW K (rIsi K) [.ad a, .ty n] O Q := fun Hk H h us hus Q' k => by
  obtain ⟨u, v, rfl, hu, hv⟩ := all2 hus
  cases (show v = .ty n from hv)
  cases (show u = .ref a from hu)
  obtain ⟨⟨vs, h1, h2⟩, _⟩ := h.ow _ hm
  exact ⟨_, .ty n, _, _, b, rfl, .ty n, .base (.lst h1), kit_ty hb, k.now h (r := bV _) (.bl _) q⟩
/-! ### reversal, slices, sums of sequences -/
theorem w_rev {te : TE} (h : EvW K te O ds fun r O1 => ∃ es : List PyData, r = .dat (.list es) ∧ Q (.dat (.list es.reverse)) O1) : EvW K (tRevL K te) O ds Q := fun Hk σ H p Q' k =>
  h Hk σ H p _ fun v r O1 Hk1 H1 e1 h1 s1 q1 => by
    obtain ⟨es, rfl, q⟩ := q1
    cases (show Da Hk1 v (.list es) from s1) with
    | @lst a xs _ g1 g2 =>
      refine ⟨_, _, rfl, .inl (.inl (h1.kn _ _ g1)), fun l hf => ?_⟩
      have sm := same_new (o := .lst xs.reverse) (h1.kn.free hf)
      exact k _ (.dat (.list es.reverse)) O1 _ _ (e1.trans sm) (h1.know hf) (.lst upd_same (DaAll.mono sm g2.reverse)) q
def cut {α : Type} (xs : List α) (lo hi : Option Int) : List α := (xs.drop (HT.sIx xs.length 0 lo)).take (HT.sIx xs.length xs.length hi - HT.sIx xs.length 0 lo)
theorem DaAll.cut {vs : List V} {es : List PyData} (h : DaAll H vs es) (lo hi : Option Int) : DaAll H (cutV vs lo hi) (cut es lo hi) := by
  unfold cutV Wk.cut
  rw [h.length]
  exact (h.drop _).take _
theorem w_sl {r : V → Option Int → Option Int → Hp → VK → Prop} {te : TE} {tl th : TO} (h : EvW K te O ds fun x O1 => IvW K tl O1 ds fun lo O2 => IvW K th O2 ds fun hi O3 => SlW K r x lo hi O3 Q) : EvW K (tSl r te tl th) O ds Q := fun Hk σ H p Q' k =>
  h Hk σ H p _ fun v x O1 Hk1 H1 e1 h1 s1 q1 => q1 Hk1 σ H1 (p.ext e1 h1) _ fun lo O2 Hk2 H2 e2 h2 q2 => q2 Hk2 σ H2 ((p.ext e1 h1).ext e2 h2) _ fun hi O3 Hk3 H3 e3 h3 q3 =>
    q3 Hk3 H3 h3 v (s1.mono (e2.trans e3)) Q' (k.ext (e1.trans (e2.trans e3)))
theorem i_none {Q : Option Int → Own → Prop} (q : Q none O) : IvW K tNoPart O ds Q := fun Hk σ H p Q' k => k none O Hk H (Same.refl _) p.hold q
theorem i_some {te : TE} {Q : Option Int → Own → Prop} (h : EvW K te O ds fun r O1 => ∃ i, r = iV i ∧ Q (some i) O1) : IvW K (tPart te) O ds Q := fun Hk σ H p Q' k =>
  h Hk σ H p _ fun v r O1 Hk1 H1 e1 h1 s1 q1 => by
    obtain ⟨i, rfl, q⟩ := q1
    cases (show Da Hk1 v (.int i) from s1)
    exact ⟨i, rfl, k (some i) O1 Hk1 H1 e1 h1 q⟩
theorem sl_L {es : List PyData} {lo hi : Option Int} (q : Q (.dat (.list (cut es lo hi))) O) : SlW K (rSlL K) (.dat (.list es)) lo hi O Q := fun Hk H h u hu Q' k => by
  cases (show Da Hk u (.list es) from hu) with
  | @lst a xs _ h1 h2 =>
    refine ⟨_, _, rfl, .inl (.inl (h.kn _ _ h1)), fun l hf => ?_⟩
    have sm := same_new (o := .lst (cutV xs lo hi)) (h.kn.free hf)
    exact k _ (.dat (.list (cut es lo hi))) O _ _ sm (h.know hf) (.lst upd_same (DaAll.mono sm (h2.cut lo hi))) q
theorem cut_whole {α : Type} {xs : List α} {lo hi : Option Int} (h : HT.sIx xs.length 0 lo = 0 ∧ HT.sIx xs.length xs.length hi = xs.length) : cut xs lo hi = xs := by
  unfold cut
  rw [h.1, h.2]
  simp
theorem sl_T {es : List PyData} {lo hi : Option Int} (q : Q (.dat (.tuple (cut es lo hi))) O) : SlW K (rSlA K) (.dat (.tuple es)) lo hi O Q := fun Hk H h u hu Q' k => by
  have hu' := hu
  cases (show Da Hk u (.tuple es) from hu) with
  | @tup a xs _ h1 h2 =>
    refine ⟨_, _, rfl, .inl (.inl (h.kn _ _ h1)), fun hw => ?_, fun hw l hf => ?_⟩
    · rw [h2.length] at hw
      rw [cut_whole hw] at q
      exact k.now h (r := .dat (.tuple es)) hu' q
    · have sm := same_new (o := .tup (cutV xs lo hi)) (h.kn.free hf)
      exact k _ (.dat (.tuple (cut es lo hi))) O _ _ sm (h.know hf) (.tup upd_same (DaAll.mono sm (h2.cut lo hi))) q
theorem o_catT {es fs : List PyData} (hz : es.length + fs.length ≤ sizeLine) (q : Q (.dat (.tuple (es ++ fs))) O) : OpW K (rCatA K) (.dat (.tuple es)) (.dat (.tuple fs)) O Q := fun Hk H h u v hu hv Q' k => by
  have hu' := hu
  have hv' := hv
  cases (show Da Hk u (.tuple es) from hu) with
  | @tup a xs _ h1 h2 =>
    cases (show Da Hk v (.tuple fs) from hv) with
    | @tup b ys _ g1 g2 =>
      refine ⟨a, b, xs, ys, rfl, rfl, .inl (.inl (h.kn _ _ h1)), .inl (.inl (h.kn _ _ g1)), by rw [h2.length, g2.length]; exact hz, fun e => ?_, fun _ e => ?_, fun _ _ l hf => ?_⟩
      · subst e
        have e2 : es = [] := by cases h2; rfl
        subst e2
        exact k.now h (r := .dat (.tuple _)) hv' q
      · subst e
        have e2 : fs = [] := by cases g2; rfl
        subst e2
        rw [List.append_nil] at q
        exact k.now h (r := .dat (.tuple _)) hu' q
      · have sm := same_new (o := .tup (xs ++ ys)) (h.kn.free hf)
        exact k _ (.dat (.tuple (es ++ fs))) O _ _ sm (h.know hf) (.tup upd_same (DaAll.mono sm (h2.append g2))) q
theorem o_catL {es fs : List PyData} (hz : es.length + fs.length ≤ sizeLine) (q : Q (.dat (.list (es ++ fs))) O) : OpW K rCat (.dat (.list es)) (.dat (.list fs)) O Q := fun Hk H h u v hu hv Q' k => by
  cases (show Da Hk u (.list es) from hu) with
  | @lst a xs _ h1 h2 =>
    cases (show Da Hk v (.list fs) from hv) with
    | @lst b ys _ g1 g2 =>
      refine ⟨a, b, xs, ys, rfl, rfl, h.kn _ _ h1, h.kn _ _ g1, by rw [h2.length, g2.length]; exact hz, fun l hf => ?_⟩
      have sm := same_new (o := .lst (xs ++ ys)) (h.kn.free hf)
      exact k _ (.dat (.list (es ++ fs))) O _ _ sm (h.know hf) (.lst upd_same (DaAll.mono sm (h2.append g2))) q
theorem DaAll.rep {vs : List V} {es : List PyData} (h : DaAll H vs es) : ∀ n : Nat, DaAll H (List.replicate n vs).flatten (List.replicate n es).flatten
  | 0 => .nil
  | n + 1 => by
    rw [List.replicate_succ, List.replicate_succ, List.flatten_cons, List.flatten_cons]
    exact h.append (DaAll.rep h n)
/-! ### methods: append -/
def TyW (K : PySem.W.Frag) (T : String) (x : SD) (O : Own) : Prop := ∀ Hk H, Hold K Hk O H → ∀ u, SDok K Hk u x → tyV K T u H
theorem w_bm {T : String} {r : V → List V → Hp → VK → Prop} {to : TE} {ta : TA} (h : EvW K to O ds fun x O1 => TyW K T x O1 ∧ AvW K ta O1 ds fun rs O2 => MbW K r x rs O2 Q) : EvW K (tBM K T r to ta) O ds Q := fun Hk σ H p Q' k =>
  h Hk σ H p _ fun v x O1 Hk1 H1 e1 h1 s1 q1 => ⟨q1.1 Hk1 H1 h1 v s1, q1.2 Hk1 σ H1 (p.ext e1 h1) _ fun vs rs O2 Hk2 H2 e2 h2 s2 q2 => q2 Hk2 H2 h2 v vs (s1.mono e2) s2 Q' (k.ext (e1.trans e2))⟩
theorem ty_own {a : Addr} {rs : List SD} (hm : (a, OD.lst rs) ∈ O) : TyW K "list" (.ad a) O := fun Hk H h u hu => by
  cases (show u = .ref a from hu)
  obtain ⟨⟨vs, h1, h2⟩, _⟩ := h.ow _ hm
  exact .inl ⟨rfl, vs, .inl (.inl h1)⟩
theorem m_app {a : Addr} {rs : List SD} {x : SD} {Oa : Own} (hp : O.Perm ((a, OD.lst rs) :: Oa)) (hz : rs.length < sizeLine) (q : Q (.dat .none) ((a, .lst (rs ++ [x])) :: Oa)) : MbW K rAppend (.ad a) [x] O Q := fun Hk H h u us hu hus Q' k => by
  cases (show u = .ref a from hu)
  obtain ⟨v, rfl, hv⟩ := all1 hus
  have h' := h.perm hp
  obtain ⟨⟨vs, h1, h2⟩, _⟩ := h'.ow _ List.mem_cons_self
  refine ⟨a, vs, v, rfl, rfl, h1, by rw [h2.length]; exact hz, ?_⟩
  exact k _ (.dat .none) _ Hk _ (Same.refl _) (h'.write (h2.append (.cons hv .nil))) .non q
theorem m_app0 {a : Addr} {rs : List SD} {x : SD} {Oa : Own} (hz : rs.length ≤ 100000) (q : Q (.dat .none) ((a, .lst (rs ++ [x])) :: Oa)) : MbW K rAppend (.ad a) [x] ((a, OD.lst rs) :: Oa) Q := m_app (.refl _) (Nat.lt_of_le_of_lt hz (by decide)) q
theorem mb_perm {r : V → List V → Hp → VK → Prop} {xs : List SD} (h : MbW K r x xs O fun r O1 => ∃ O2, O1.Perm O2 ∧ Q r O2) : MbW K r x xs O Q := fun Hk H hh u us hu hus Q' k =>
  h Hk H hh u us hu hus Q' fun v r O2 Hk2 H2 e h2 s q => by
    obtain ⟨O3, hp, q⟩ := q
    exact k v r O3 Hk2 H2 e (h2.perm hp) s q
theorem m_app1 {a : Addr} {rs : List SD} {x : SD} {b : Addr × OD} {Oa : Own} (hz : rs.length ≤ 100000) (q : Q (.dat .none) (b :: (a, .lst (rs ++ [x])) :: Oa)) : MbW K rAppend (.ad a) [x] (b :: (a, OD.lst rs) :: Oa) Q :=
  mb_perm (m_app (.swap ..) (Nat.lt_of_le_of_lt hz (by decide)) ⟨_, .swap .., q⟩)
theorem m_app2 {a : Addr} {rs : List SD} {x : SD} {b c : Addr × OD} {Oa : Own} (hz : rs.length ≤ 100000) (q : Q (.dat .none) (b :: c :: (a, .lst (rs ++ [x])) :: Oa)) : MbW K rAppend (.ad a) [x] (b :: c :: (a, OD.lst rs) :: Oa) Q :=
  mb_perm (m_app ((List.Perm.swap (a, OD.lst rs) c Oa).cons b |>.trans (.swap ..)) (Nat.lt_of_le_of_lt hz (by decide)) ⟨_, (List.Perm.swap b (a, OD.lst (rs ++ [x])) (c :: Oa)).trans ((List.Perm.swap c (a, OD.lst (rs ++ [x])) Oa).cons b), q⟩)
end
end Wk
namespace Wk
open PySem PySem.Spec PyProof.Rows L2
section
variable {K : PySem.W.Frag} {Hk Hk' H H' : Hp} {O O' : Own} {ds : List SD} {σ : L2.St} {Q : SD → Own → Prop} {Q' : VK} {r : R2} {x y : SD} {A : AE} {D : Ends} {t u : TS} {te : TE} {tc : TT}
/-! ### statements -/
theorem s_next (h : A.nx O ds) : StW K tNext O ds A := fun Hk σ H D p l => l.nx O ds Hk σ H (Same.refl _) p h
theorem s_cont (h : A.ct O ds) : StW K tCont O ds A := fun Hk σ H D p l => l.ct O ds Hk σ H (Same.refl _) p h
theorem s_break (h : A.bk O ds) : StW K tBreak O ds A := fun Hk σ H D p l => l.bk O ds Hk σ H (Same.refl _) p h
theorem s_seq (h : StW K t O ds ⟨fun O1 ds1 => StW K u O1 ds1 A, A.rt, A.bk, A.ct, A.xt⟩) : StW K (tSeq t u) O ds A := fun Hk σ H D p l =>
  h Hk σ H _ p ⟨fun O2 ds2 Hk2 σ2 H2 e p2 q => q Hk2 σ2 H2 D p2 (l.ext e), l.rt, l.bk, l.ct, l.xt⟩
theorem s_asg {i : Nat} (h : EvW K te O ds fun r O1 => A.nx O1 (ds.set i r)) : StW K (tAsg te (gName i)) O ds A := fun Hk σ H D p l =>
  h Hk σ H p _ fun v r O1 Hk1 H1 e1 h1 s1 q1 => l.nx O1 _ Hk1 _ H1 e1 ((p.ext e1 h1).set s1) q1
theorem s_ret (h : EvW K te O ds A.rt) : StW K (tRet te) O ds A := fun Hk σ H D p l => h Hk σ H p _ l.rt
theorem s_retN (h : A.rt (.dat .none) O) : StW K tRetN O ds A := fun Hk σ H D p l => l.rt.now p.hold (r := .dat .none) .non h
theorem s_drop (h : EvW K te O ds fun _ O1 => A.nx O1 ds) : StW K (tDrop te) O ds A := fun Hk σ H D p l =>
  h Hk σ H p _ fun v r O1 Hk1 H1 e1 h1 s1 q1 => l.nx O1 ds Hk1 σ H1 e1 (p.ext e1 h1) q1
theorem s_if (h : TvW K tc O ds fun b O1 => (b = true → StW K t O1 ds A) ∧ (b = false → StW K u O1 ds A)) : StW K (tIfS tc t u) O ds A := fun Hk σ H D p l =>
  h Hk σ H p _ fun b O1 Hk1 H1 e1 h1 q1 => by
    cases b with
    | true => exact iteT (q1.1 rfl Hk1 σ H1 D (p.ext e1 h1) (l.ext e1))
    | false => exact iteF (q1.2 rfl Hk1 σ H1 D (p.ext e1 h1) (l.ext e1))
abbrev Own.P (O O' : Own) : Prop := O.Perm O'
/-- xs[i] = e, the list owned -/
theorem s_setL {to ti : TE} (h : EvW K te O ds fun r O1 => EvW K to O1 ds fun ro O2 => EvW K ti O2 ds fun ri O3 =>
    ∃ a k rs j Oa O4, ro = .ad a ∧ ri = iV k ∧ O3.Perm ((a, .lst rs) :: Oa) ∧ ixN rs.length k = some j ∧ Own.P ((a, .lst (rs.set j r)) :: Oa) O4 ∧ A.nx O4 ds) : StW K (tAsg te (gSub to ti rSetL)) O ds A := fun Hk σ H D p l =>
  h Hk σ H p _ fun v r O1 Hk1 H1 e1 h1 s1 q1 => q1 Hk1 σ H1 (p.ext e1 h1) _ fun vo ro O2 Hk2 H2 e2 h2 s2 q2 => q2 Hk2 σ H2 ((p.ext e1 h1).ext e2 h2) _ fun vi ri O3 Hk3 H3 e3 h3 s3 q3 => by
    obtain ⟨a, k, rs, j, Oa, O4, rfl, rfl, hp, hj, hp2, q⟩ := q3
    cases (show vo = .ref a from s2)
    cases (show Da Hk3 vi (.int k) from s3)
    have h' := h3.perm hp
    obtain ⟨⟨vs, g1, g2⟩, _⟩ := h'.ow _ List.mem_cons_self
    refine ⟨a, vs, k, j, rfl, rfl, g1, by rw [g2.length]; exact hj, ?_⟩
    exact l.nx _ ds Hk3 σ _ (e1.trans (e2.trans e3)) (p.ext (e1.trans (e2.trans e3)) ((h'.write (g2.set (s1.mono (e2.trans e3)) j)).perm hp2)) q
/-! ### what follows may be proved from a weaker word -/
theorem s_cut {t u : TS} (I : Own → List SD → Prop) (h : StW K t O ds ⟨I, A.rt, A.bk, A.ct, A.xt⟩) (k : ∀ O1 ds1, I O1 ds1 → StW K u O1 ds1 A) : StW K (tSeq t u) O ds A := s_seq fun Hk σ H D p l =>
  h Hk σ H D p ⟨fun O2 ds2 Hk2 σ2 H2 e p2 q => l.nx O2 ds2 Hk2 σ2 H2 e p2 (k O2 ds2 q), l.rt, l.bk, l.ct, l.xt⟩
theorem s_mono {t : TS} {A B : AE} (h : StW K t O ds B) (nx : ∀ O ds, B.nx O ds → A.nx O ds) (rt : ∀ r O, B.rt r O → A.rt r O) (bk : ∀ O ds, B.bk O ds → A.bk O ds) (ct : ∀ O ds, B.ct O ds → A.ct O ds) (xt : ∀ Hk, A.xt Hk → B.xt Hk := by first | exact fun _ h => h | exact fun _ _ => True.intro) : StW K t O ds A := fun Hk σ H D p l =>
  h Hk σ H D p ⟨fun O2 ds2 Hk2 σ2 H2 e p2 q => l.nx O2 ds2 Hk2 σ2 H2 e p2 (nx _ _ q), fun v r O2 Hk2 H2 e h s q => l.rt v r O2 Hk2 H2 e h s (rt _ _ q), fun O2 ds2 Hk2 σ2 H2 e p2 q => l.bk O2 ds2 Hk2 σ2 H2 e p2 (bk _ _ q), fun O2 ds2 Hk2 σ2 H2 e p2 q => l.ct O2 ds2 Hk2 σ2 H2 e p2 (ct _ _ q), fun Hk' e' => xt _ (l.xt Hk' e')⟩
/-! ### for -/
/-- what a turn of a loop may end in -/
structure Bdy (I : Nat → Own → List SD → Prop) (i : Nat) (A B : AE) : Prop where
  nx : ∀ O ds, I (i + 1) O ds → B.nx O ds
  ct : ∀ O ds, I (i + 1) O ds → B.ct O ds
  rt : ∀ r O, A.rt r O → B.rt r O
  bk : ∀ O ds, A.nx O ds → B.bk O ds
  xt : ∀ Hk, B.xt Hk → A.xt Hk
theorem Bdy.mk' {I : Nat → Own → List SD → Prop} {i : Nat} {A : AE} : Bdy I i A ⟨I (i + 1), A.rt, A.nx, I (i + 1), A.xt⟩ := ⟨fun _ _ h => h, fun _ _ h => h, fun _ _ h => h, fun _ _ h => h, fun _ h => h⟩
theorem for_rg {lo : Int} {n : Nat} {j : Nat} {tb : TS} {H0 : Hp} (I : Nat → Own → List SD → Prop) (p : Pt K Hk O ds σ H) (l : Lnk K Hk A D) (h0 : I 0 O ds)
    (hs : ∀ (i : Nat) O2 ds2, i < n → I i O2 ds2 → StW K tb O2 (ds2.set j (iV (lo + i))) ⟨I (i + 1), A.rt, A.nx, I (i + 1), A.xt⟩) (hd : ∀ O2 ds2, I n O2 ds2 → A.nx O2 ds2) :
    ∃ W : Nat → Nat → L2.St → Hp → Prop, (∃ m, W 0 m σ H) ∧ ∀ i m σ H, W i m σ H →
      ((Itr lo n).stop i H ∧ D.nx σ H) ∨ ((Itr lo n).go i H ∧ ∃ N : L2.St → Hp → Prop, (∀ σ' H', N σ' H' → ∃ m', m' < m ∧ W (i + 1) m' σ' H') ∧ ∀ x H', (Itr lo n).yld i H x H' → gName j x σ H' fun σ2 H2 => tb { D with nx := N, ct := N, bk := D.nx } σ2 H2) :=
  for_range (fun i σ H => ∃ O2 ds2 Hk2, Same Hk Hk2 ∧ Pt K Hk2 O2 ds2 σ H ∧ I i O2 ds2) ⟨O, ds, Hk, Same.refl _, p, h0⟩
    (fun i σ' H' hi ⟨O2, ds2, Hk2, e, p2, q⟩ => hs i O2 ds2 hi q Hk2 _ H' _ (p2.set (r := iV (lo + i)) (.int _))
      ⟨fun O3 ds3 Hk3 σ3 H3 e3 p3 q3 => ⟨O3, ds3, Hk3, e.trans e3, p3, q3⟩, l.rt.ext e, l.nx.ext e, fun O3 ds3 Hk3 σ3 H3 e3 p3 q3 => ⟨O3, ds3, Hk3, e.trans e3, p3, q3⟩, l.xt.ext e⟩)
    (fun σ' H' ⟨O2, ds2, Hk2, e, p2, q⟩ => l.nx O2 ds2 Hk2 σ' H' e p2 (hd O2 ds2 q))
theorem s_for1 {ta : TA} {j : Nat} {tb : TS} (h : AvW K ta O ds fun rs O1 => ∃ n : Int, rs = [iV n] ∧ n < 2 ^ 62 ∧ -(2 ^ 62) ≤ n ∧ ∃ I : Nat → Own → List SD → Prop, I 0 O1 ds ∧
    (∀ (i : Nat) O2 ds2, (i : Int) < n → I i O2 ds2 → ∀ B : AE, Bdy I i A B → StW K tb O2 (ds2.set j (iV (i : Int))) B) ∧ ∀ O2 ds2, I n.toNat O2 ds2 → A.nx O2 ds2) : StW K (tFor (iRng1 ta) (gName j) tb) O ds A := fun Hk σ H D p l =>
  h Hk σ H p _ fun vs rs O1 Hk1 H1 e1 h1 s1 q1 => by
    obtain ⟨n, rfl, hn, hn2, I, h0, hs, hd⟩ := q1
    obtain ⟨v, rfl, hv⟩ := all1 s1
    cases (show Da Hk1 v (.int n) from hv)
    refine ⟨n, rfl, hn2, hn, for_rg (H0 := H) (A := A) I (p.ext e1 h1) (l.ext e1) h0 (fun i O2 ds2 hi q => ?_) hd⟩
    rw [Int.zero_add]
    exact hs i O2 ds2 (by omega) q _ .mk'
theorem s_for2 {ta : TA} {j : Nat} {tb : TS} (h : AvW K ta O ds fun rs O1 => ∃ lo n : Int, rs = [iV lo, iV n] ∧ (-(2 ^ 62) ≤ lo ∧ lo < 2 ^ 62 ∧ -(2 ^ 62) ≤ n ∧ n < 2 ^ 62) ∧ ∃ I : Nat → Own → List SD → Prop, I 0 O1 ds ∧
    (∀ (i : Nat) O2 ds2, lo + (i : Int) < n → I i O2 ds2 → ∀ B : AE, Bdy I i A B → StW K tb O2 (ds2.set j (iV (lo + (i : Int)))) B) ∧ ∀ O2 ds2, I (n - lo).toNat O2 ds2 → A.nx O2 ds2) : StW K (tFor (iRng2 ta) (gName j) tb) O ds A := fun Hk σ H D p l =>
  h Hk σ H p _ fun vs rs O1 Hk1 H1 e1 h1 s1 q1 => by
    obtain ⟨lo, n, rfl, hn, I, h0, hs, hd⟩ := q1
    obtain ⟨v, v2, rfl, hv, hv2⟩ := all2 s1
    cases (show Da Hk1 v (.int lo) from hv)
    cases (show Da Hk1 v2 (.int n) from hv2)
    exact ⟨lo, n, rfl, hn, for_rg (H0 := H) (A := A) I (p.ext e1 h1) (l.ext e1) h0 (fun i O2 ds2 hi q => hs i O2 ds2 (by omega) q _ .mk') hd⟩
/-- over data: a list -/
theorem s_forL {tl : TE} {j : Nat} {tb : TS} (h : EvW K tl O ds fun r O1 => ∃ es : List PyData, r = .dat (.list es) ∧ ∃ I : Nat → Own → List SD → Prop, I 0 O1 ds ∧
    (∀ (i : Nat) d O2 ds2, es[i]? = some d → I i O2 ds2 → ∀ B : AE, Bdy I i A B → StW K tb O2 (ds2.set j (.dat d)) B) ∧ ∀ O2 ds2, I es.length O2 ds2 → A.nx O2 ds2) : StW K (tFor (iList K tl) (gName j) tb) O ds A := fun Hk σ H D p l =>
  h Hk σ H p _ fun v r O1 Hk1 H1 e1 h1 s1 q1 => by
    obtain ⟨es, rfl, I, h0, hs, hd⟩ := q1
    cases (show Da Hk1 v (.list es) from s1) with
    | @lst a xs _ g1 g2 =>
      refine ⟨a, rfl, ⟨xs, .inl (.inl (h1.kn _ _ g1))⟩, for_list (xs := xs) (fun i σ H => ∃ O2 ds2 Hk2, Same Hk1 Hk2 ∧ Pt K Hk2 O2 ds2 σ H ∧ I i O2 ds2) ⟨O1, ds, Hk1, Same.refl _, p.ext e1 h1, h0⟩
        (fun i σ' H' hi ⟨O2, ds2, Hk2, e, p2, q⟩ => .inl (.inl (p2.hold.kn _ _ (e _ _ g1)))) (fun i x σ' H' hi ⟨O2, ds2, Hk2, e, p2, q⟩ => ?_) (fun σ' H' ⟨O2, ds2, Hk2, e, p2, q⟩ => ?_)⟩
      · obtain ⟨d, hd1, hd2⟩ := g2.getV hi
        exact hs i d O2 ds2 hd1 q _ .mk' Hk2 _ H' _ (p2.set (r := .dat d) (Da.mono e hd2)) ⟨fun O3 ds3 Hk3 σ3 H3 e3 p3 q3 => ⟨O3, ds3, Hk3, e.trans e3, p3, q3⟩, l.rt.ext (e1.trans e), l.nx.ext (e1.trans e), fun O3 ds3 Hk3 σ3 H3 e3 p3 q3 => ⟨O3, ds3, Hk3, e.trans e3, p3, q3⟩, l.xt.ext (e1.trans e)⟩
      · rw [g2.length] at q
        exact l.nx O2 ds2 Hk2 σ' H' (e1.trans e) p2 (hd O2 ds2 q)
theorem s_forT {tl : TE} {j : Nat} {tb : TS} (h : EvW K tl O ds fun r O1 => ∃ es : List PyData, r = .dat (.tuple es) ∧ ∃ I : Nat → Own → List SD → Prop, I 0 O1 ds ∧
    (∀ (i : Nat) d O2 ds2, es[i]? = some d → I i O2 ds2 → ∀ B : AE, Bdy I i A B → StW K tb O2 (ds2.set j (.dat d)) B) ∧ ∀ O2 ds2, I es.length O2 ds2 → A.nx O2 ds2) : StW K (tFor (iTup K tl) (gName j) tb) O ds A := fun Hk σ H D p l =>
  h Hk σ H p _ fun v r O1 Hk1 H1 e1 h1 s1 q1 => by
    obtain ⟨es, rfl, I, h0, hs, hd⟩ := q1
    cases (show Da Hk1 v (.tuple es) from s1) with
    | @tup a xs _ g1 g2 =>
      refine ⟨a, rfl, ⟨xs, .inl (.inl (h1.kn _ _ g1))⟩, for_tup (xs := xs) (fun i σ H => ∃ O2 ds2 Hk2, Same Hk1 Hk2 ∧ Pt K Hk2 O2 ds2 σ H ∧ I i O2 ds2) ⟨O1, ds, Hk1, Same.refl _, p.ext e1 h1, h0⟩
        (fun i σ' H' hi ⟨O2, ds2, Hk2, e, p2, q⟩ => .inl (.inl (p2.hold.kn _ _ (e _ _ g1)))) (fun i x σ' H' hi ⟨O2, ds2, Hk2, e, p2, q⟩ => ?_) (fun σ' H' ⟨O2, ds2, Hk2, e, p2, q⟩ => ?_)⟩
      · obtain ⟨d, hd1, hd2⟩ := g2.getV hi
        exact hs i d O2 ds2 hd1 q _ .mk' Hk2 _ H' _ (p2.set (r := .dat d) (Da.mono e hd2)) ⟨fun O3 ds3 Hk3 σ3 H3 e3 p3 q3 => ⟨O3, ds3, Hk3, e.trans e3, p3, q3⟩, l.rt.ext (e1.trans e), l.nx.ext (e1.trans e), fun O3 ds3 Hk3 σ3 H3 e3 p3 q3 => ⟨O3, ds3, Hk3, e.trans e3, p3, q3⟩, l.xt.ext (e1.trans e)⟩
      · rw [g2.length] at q
        exact l.nx O2 ds2 Hk2 σ' H' (e1.trans e) p2 (hd O2 ds2 q)
/-- over the script -/
theorem s_forS {tl : TE} {j : Nat} {tb : TS} (h : EvW K tl O ds fun r O1 => ∃ ns : List Int, r = .scr ns ∧ ∃ I : Nat → Own → List SD → Prop, I 0 O1 ds ∧
    (∀ (i : Nat) d O2 ds2, ns[i]? = some d → I i O2 ds2 → ∀ B : AE, Bdy I i A B → StW K tb O2 (ds2.set j (iV d)) B) ∧ ∀ O2 ds2, I ns.length O2 ds2 → A.nx O2 ds2) : StW K (tFor (iList K tl) (gName j) tb) O ds A := fun Hk σ H D p l =>
  h Hk σ H p _ fun v r O1 Hk1 H1 e1 h1 s1 q1 => by
    obtain ⟨ns, rfl, I, h0, hs, hd⟩ := q1
    obtain ⟨a, rfl, g1⟩ := s1
    refine ⟨a, rfl, ⟨ns.map V.int, h1.kn.seq g1⟩, for_list (xs := ns.map V.int) (fun i σ H => ∃ O2 ds2 Hk2, Same Hk1 Hk2 ∧ Pt K Hk2 O2 ds2 σ H ∧ I i O2 ds2) ⟨O1, ds, Hk1, Same.refl _, p.ext e1 h1, h0⟩
      (fun i σ' H' hi ⟨O2, ds2, Hk2, e, p2, q⟩ => p2.hold.kn.seq (e.seq g1)) (fun i x σ' H' hi ⟨O2, ds2, Hk2, e, p2, q⟩ => ?_) (fun σ' H' ⟨O2, ds2, Hk2, e, p2, q⟩ => ?_)⟩
    · rw [List.getElem?_map] at hi
      cases hn : ns[i]? with
      | none => rw [hn] at hi; cases hi
      | some d =>
        rw [hn] at hi
        cases hi
        exact hs i d O2 ds2 hn q _ .mk' Hk2 _ H' _ (p2.set (r := iV d) (.int d)) ⟨fun O3 ds3 Hk3 σ3 H3 e3 p3 q3 => ⟨O3, ds3, Hk3, e.trans e3, p3, q3⟩, l.rt.ext (e1.trans e), l.nx.ext (e1.trans e), fun O3 ds3 Hk3 σ3 H3 e3 p3 q3 => ⟨O3, ds3, Hk3, e.trans e3, p3, q3⟩, l.xt.ext (e1.trans e)⟩
    · rw [List.length_map] at q
      exact l.nx O2 ds2 Hk2 σ' H' (e1.trans e) p2 (hd O2 ds2 q)
/-! ### comprehensions: one variable, slot j -/
theorem wipe_wipe {σ : L2.St} {j : Nat} (v : V) : wipe ((wipe σ [j]).set j (some v)) [j] = wipe σ [j] := by
  show ((σ.set j none).set j (some v)).set j none = σ.set j none
  rw [List.set_set, List.set_set]
theorem wipe_set {σ : L2.St} {j : Nat} (v : V) : (wipe σ [j]).set j (some v) = σ.set j (some v) := by
  show (σ.set j none).set j (some v) = σ.set j (some v)
  rw [List.set_set]
/-- one turn: the new list at Dl is the first of what is owned -/
def LcTurn (K : PySem.W.Frag) (tt : TT) (te : TE) (O2 : Own) (ds : List SD) (acc : List SD) (I' : List SD → Own → Prop) : Prop :=
  ∀ Dl : Addr, TvW K tt ((Dl, OD.lst acc) :: O2) ds fun b O3 => (b = true → EvW K te O3 ds fun r O4 => ∃ O5, O4.Perm ((Dl, OD.lst acc) :: O5) ∧ I' (acc ++ [r]) O5) ∧ (b = false → ∃ O5, O3.Perm ((Dl, OD.lst acc) :: O5) ∧ I' acc O5)
/-- .. the second -/
def LcTurn1 (K : PySem.W.Frag) (tt : TT) (te : TE) (a : Addr × OD) (O2 : Own) (ds : List SD) (acc : List SD) (I' : List SD → Own → Prop) : Prop :=
  ∀ Dl : Addr, TvW K tt (a :: (Dl, OD.lst acc) :: O2) ds fun b O3 => (b = true → EvW K te O3 ds fun r O4 => ∃ a' O5, O4 = a' :: (Dl, OD.lst acc) :: O5 ∧ I' (acc ++ [r]) (a' :: O5)) ∧ (b = false → ∃ a' O5, O3 = a' :: (Dl, OD.lst acc) :: O5 ∧ I' acc (a' :: O5))
theorem LcTurn1.to {tt : TT} {te : TE} {a : Addr × OD} {O2 : Own} {ds acc : List SD} {I' : List SD → Own → Prop} (h : LcTurn1 K tt te a O2 ds acc I') : LcTurn K tt te (a :: O2) ds acc I' := fun Dl Hk σ H p Q' k =>
  h Dl Hk σ H ⟨p.hold.perm (.swap ..), p.len, p.env⟩ Q' fun b O3 Hk3 H3 e3 h3 q3 => k b O3 Hk3 H3 e3 h3 ⟨fun hb => w_mono (q3.1 hb) fun r O4 ⟨a', O5, e4, q4⟩ => ⟨a' :: O5, by rw [e4]; exact .swap .., q4⟩, fun hb => by
    obtain ⟨a', O5, e4, q4⟩ := q3.2 hb
    exact ⟨a' :: O5, by rw [e4]; exact .swap .., q4⟩⟩
theorem lc_turn {tt : TT} {te : TE} {O2 : Own} {acc : List SD} {I' : List SD → Own → Prop} {Dl : Addr} {j : Nat} {v : V} {d : SD} {P' : Hp → Prop} (h : LcTurn K tt te O2 (ds.set j d) acc I') (hl : acc.length < sizeLine)
    (p : Pt K Hk O' ds σ H') (hh : Hold K Hk ((Dl, OD.lst acc) :: O2) H) (hv : SDok K Hk v d) (k : ∀ acc2 O3 Hk2 H2, Same Hk Hk2 → Hold K Hk2 ((Dl, OD.lst acc2) :: O3) H2 → I' acc2 O3 → P' H2) :
    gName j v (wipe σ [j]) H fun σ2 H2 => wipe σ2 [j] = wipe σ [j] ∧ tt σ2 H2 fun b H3 =>
      if b = true then te σ2 H3 fun y H4 => ∃ acc, H4 Dl = some (.lst acc) ∧ acc.length < sizeLine ∧ P' (upd H4 Dl (.lst (acc ++ [y]))) else P' H3 := by
  refine ⟨wipe_wipe v, ?_⟩
  rw [wipe_set]
  have p1 : Pt K Hk ((Dl, OD.lst acc) :: O2) (ds.set j d) (σ.set j (some v)) H := (p.ext (Same.refl _) hh).set hv
  refine h Dl Hk _ H p1 _ fun b O3 Hk3 H3 e3 h3 q3 => ?_
  cases b with
  | true =>
    refine iteT (q3.1 rfl Hk3 _ H3 (p1.ext e3 h3) _ fun y r O4 Hk4 H4 e4 h4 s4 q4 => ?_)
    obtain ⟨O5, hp, q5⟩ := q4
    have h5 := h4.perm hp
    obtain ⟨⟨vs, g1, g2⟩, _⟩ := h5.ow _ List.mem_cons_self
    exact ⟨vs, g1, by rw [g2.length]; exact hl, k _ O5 Hk4 _ (e3.trans e4) (h5.write (g2.append (.cons s4 .nil))) q5⟩
  | false =>
    obtain ⟨O5, hp, q5⟩ := q3.2 rfl
    exact iteF (k _ O5 Hk3 _ e3 (h3.perm hp) q5)
theorem w_lc1 {ta : TA} {j : Nat} {tt : TT} (h : AvW K ta O ds fun rs O1 => ∃ n : Int, rs = [iV n] ∧ n ≤ 1000000 ∧ -(2 ^ 62) ≤ n ∧ ∃ I : Nat → List SD → Own → Prop, I 0 [] O1 ∧
    (∀ (i : Nat) acc O2, (i : Int) < n → acc.length ≤ i → I i acc O2 → LcTurn K tt te O2 (ds.set j (iV (i : Int))) acc (I (i + 1))) ∧ ∀ acc O2 Dl, I n.toNat acc O2 → Q (.ad Dl) ((Dl, .lst acc) :: O2)) : EvW K (tLc (iRng1 ta) (gName j) tt te [j]) O ds Q := fun Hk σ H p Q' k =>
  h Hk σ H p _ fun vs rs O1 Hk1 H1 e1 h1 s1 q1 => by
    obtain ⟨n, rfl, hn, hn2, I, h0, hs, hd⟩ := q1
    obtain ⟨v, rfl, hv⟩ := all1 s1
    cases (show Da Hk1 v (.int n) from hv)
    refine ⟨n, rfl, by omega, by omega, fun Dl hf => lc_range (lo := 0) (n := n.toNat) (fun i H => ∃ acc O2 Hk2, Same Hk1 Hk2 ∧ acc.length ≤ i ∧ Hold K Hk2 ((Dl, OD.lst acc) :: O2) H ∧ I i acc O2)
      ⟨[], O1, Hk1, Same.refl _, Nat.le_refl _, h1.own hf .nil, h0⟩ (fun i H2 hi hP => ?_) (fun H2 hP => ?_)⟩
    · obtain ⟨acc, O2, Hk2, e2, hl, hh, q⟩ := hP
      have hz : acc.length < sizeLine := Nat.lt_of_lt_of_le (show acc.length < 1000001 by omega) (by decide)
      have ht := hs i acc O2 (by omega) hl q
      rw [← Int.zero_add (i : Int)] at ht
      refine lc_turn (d := iV (0 + (i : Int))) (P' := fun H => ∃ acc2 O3 Hk2, Same Hk1 Hk2 ∧ acc2.length ≤ i + 1 ∧ Hold K Hk2 ((Dl, OD.lst acc2) :: O3) H ∧ I (i + 1) acc2 O3) (I' := fun acc2 O3 => acc2.length ≤ i + 1 ∧ I (i + 1) acc2 O3) ?_ hz ((p.ext e1 h1).ext e2 (hh.sub (List.sublist_cons_self ..))) hh (.int _) fun acc2 O3 Hk3 H3 e3 h3 q3 => ⟨acc2, O3, Hk3, e2.trans e3, q3.1, h3, q3.2⟩
      intro Dl2 Hk3 σ3 H3 p3 Q3 k3
      refine ht Dl2 Hk3 σ3 H3 p3 Q3 fun b O3 Hk4 H4 e4 h4 q4 => k3 b O3 Hk4 H4 e4 h4 ⟨fun hb => w_mono (q4.1 hb) fun r O4 ⟨O5, hp, q5⟩ => ⟨O5, hp, by rw [List.length_append]; simp; omega, q5⟩, fun hb => ?_⟩
      obtain ⟨O5, hp, q5⟩ := q4.2 hb
      exact ⟨O5, hp, by omega, q5⟩
    · obtain ⟨acc, O2, Hk2, e2, hl, hh, q⟩ := hP
      exact k _ (.ad Dl) _ Hk2 H2 (e1.trans e2) hh rfl (hd acc O2 Dl q)
theorem w_lcL {tl : TE} {j : Nat} {tt : TT} (h : EvW K tl O ds fun r O1 => ∃ es : List PyData, r = .dat (.list es) ∧ es.length ≤ 1000000 ∧ ∃ I : Nat → List SD → Own → Prop, I 0 [] O1 ∧
    (∀ (i : Nat) d acc O2, es[i]? = some d → acc.length ≤ i → I i acc O2 → LcTurn K tt te O2 (ds.set j (.dat d)) acc (I (i + 1))) ∧ ∀ acc O2 Dl, I es.length acc O2 → Q (.ad Dl) ((Dl, .lst acc) :: O2)) : EvW K (tLc (iList K tl) (gName j) tt te [j]) O ds Q := fun Hk σ H p Q' k =>
  h Hk σ H p _ fun v rs O1 Hk1 H1 e1 h1 s1 q1 => by
    obtain ⟨es, rfl, hn, I, h0, hs, hd⟩ := q1
    cases (show Da Hk1 v (.list es) from s1) with
    | @lst a xs _ g1 g2 =>
    refine ⟨a, rfl, ⟨xs, .inl (.inl (h1.kn _ _ g1))⟩, fun Dl hf => lc_list (xs := xs) (fun i H => ∃ acc O2 Hk2, Same Hk1 Hk2 ∧ acc.length ≤ i ∧ Hold K Hk2 ((Dl, OD.lst acc) :: O2) H ∧ I i acc O2)
      ⟨[], O1, Hk1, Same.refl _, Nat.le_refl _, h1.own hf .nil, h0⟩ (fun i H2 _ ⟨acc, O2, Hk2, e2, hl, hh, q⟩ => .inl (.inl (hh.kn _ _ (e2 _ _ g1)))) (fun i x H2 hi hP => ?_) (fun H2 hP => ?_)⟩
    · obtain ⟨acc, O2, Hk2, e2, hl, hh, q⟩ := hP
      obtain ⟨d, hd1, hd2⟩ := g2.getV hi
      have hlt := (List.getElem?_eq_some_iff.mp hd1).1
      have hz : acc.length < sizeLine := Nat.lt_of_lt_of_le (show acc.length < 1000001 by omega) (by decide)
      have ht := hs i d acc O2 hd1 hl q
      refine lc_turn (d := .dat d) (P' := fun H => ∃ acc2 O3 Hk2, Same Hk1 Hk2 ∧ acc2.length ≤ i + 1 ∧ Hold K Hk2 ((Dl, OD.lst acc2) :: O3) H ∧ I (i + 1) acc2 O3) (I' := fun acc2 O3 => acc2.length ≤ i + 1 ∧ I (i + 1) acc2 O3) ?_ hz ((p.ext e1 h1).ext e2 (hh.sub (List.sublist_cons_self ..))) hh (Da.mono e2 hd2) fun acc2 O3 Hk3 H3 e3 h3 q3 => ⟨acc2, O3, Hk3, e2.trans e3, q3.1, h3, q3.2⟩
      intro Dl2 Hk3 σ3 H3 p3 Q3 k3
      refine ht Dl2 Hk3 σ3 H3 p3 Q3 fun b O3 Hk4 H4 e4 h4 q4 => k3 b O3 Hk4 H4 e4 h4 ⟨fun hb => w_mono (q4.1 hb) fun r O4 ⟨O5, hp, q5⟩ => ⟨O5, hp, by rw [List.length_append]; simp; omega, q5⟩, fun hb => ?_⟩
      obtain ⟨O5, hp, q5⟩ := q4.2 hb
      exact ⟨O5, hp, by omega, q5⟩
    · obtain ⟨acc, O2, Hk2, e2, hl, hh, q⟩ := hP
      rw [g2.length] at q
      exact k _ (.ad Dl) _ Hk2 H2 (e1.trans e2) hh rfl (hd acc O2 Dl q)
theorem w_lcT {tl : TE} {j : Nat} {tt : TT} (h : EvW K tl O ds fun r O1 => ∃ es : List PyData, r = .dat (.tuple es) ∧ es.length ≤ 1000000 ∧ ∃ I : Nat → List SD → Own → Prop, I 0 [] O1 ∧
    (∀ (i : Nat) d acc O2, es[i]? = some d → acc.length ≤ i → I i acc O2 → LcTurn K tt te O2 (ds.set j (.dat d)) acc (I (i + 1))) ∧ ∀ acc O2 Dl, I es.length acc O2 → Q (.ad Dl) ((Dl, .lst acc) :: O2)) : EvW K (tLc (iTup K tl) (gName j) tt te [j]) O ds Q := fun Hk σ H p Q' k =>
  h Hk σ H p _ fun v rs O1 Hk1 H1 e1 h1 s1 q1 => by
    obtain ⟨es, rfl, hn, I, h0, hs, hd⟩ := q1
    cases (show Da Hk1 v (.tuple es) from s1) with
    | @tup a xs _ g1 g2 =>
    refine ⟨a, rfl, ⟨xs, .inl (.inl (h1.kn _ _ g1))⟩, fun Dl hf => lc_tup (xs := xs) (fun i H => ∃ acc O2 Hk2, Same Hk1 Hk2 ∧ acc.length ≤ i ∧ Hold K Hk2 ((Dl, OD.lst acc) :: O2) H ∧ I i acc O2)
      ⟨[], O1, Hk1, Same.refl _, Nat.le_refl _, h1.own hf .nil, h0⟩ (fun i H2 _ ⟨acc, O2, Hk2, e2, hl, hh, q⟩ => .inl (.inl (hh.kn _ _ (e2 _ _ g1)))) (fun i x H2 hi hP => ?_) (fun H2 hP => ?_)⟩
    · obtain ⟨acc, O2, Hk2, e2, hl, hh, q⟩ := hP
      obtain ⟨d, hd1, hd2⟩ := g2.getV hi
      have hlt := (List.getElem?_eq_some_iff.mp hd1).1
      have hz : acc.length < sizeLine := Nat.lt_of_lt_of_le (show acc.length < 1000001 by omega) (by decide)
      have ht := hs i d acc O2 hd1 hl q
      refine lc_turn (d := .dat d) (P' := fun H => ∃ acc2 O3 Hk2, Same Hk1 Hk2 ∧ acc2.length ≤ i + 1 ∧ Hold K Hk2 ((Dl, OD.lst acc2) :: O3) H ∧ I (i + 1) acc2 O3) (I' := fun acc2 O3 => acc2.length ≤ i + 1 ∧ I (i + 1) acc2 O3) ?_ hz ((p.ext e1 h1).ext e2 (hh.sub (List.sublist_cons_self ..))) hh (Da.mono e2 hd2) fun acc2 O3 Hk3 H3 e3 h3 q3 => ⟨acc2, O3, Hk3, e2.trans e3, q3.1, h3, q3.2⟩
      intro Dl2 Hk3 σ3 H3 p3 Q3 k3
      refine ht Dl2 Hk3 σ3 H3 p3 Q3 fun b O3 Hk4 H4 e4 h4 q4 => k3 b O3 Hk4 H4 e4 h4 ⟨fun hb => w_mono (q4.1 hb) fun r O4 ⟨O5, hp, q5⟩ => ⟨O5, hp, by rw [List.length_append]; simp; omega, q5⟩, fun hb => ?_⟩
      obtain ⟨O5, hp, q5⟩ := q4.2 hb
      exact ⟨O5, hp, by omega, q5⟩
    · obtain ⟨acc, O2, Hk2, e2, hl, hh, q⟩ := hP
      rw [g2.length] at q
      exact k _ (.ad Dl) _ Hk2 H2 (e1.trans e2) hh rfl (hd acc O2 Dl q)
end
/-! ### a def -/
section
variable {P : Program} {w : World} {K : PySem.W.Frag} {mg : Str → Option Value} {base : Heap}
theorem start_pt {Hk H : Hp} {O : Own} {vs : List V} {rs : List SD} {N : List Str} (h : Hold K Hk O H) (hv : SDall K Hk vs rs) : Pt K Hk O (rs ++ List.replicate (N.length - rs.length) .non) (L2.start N vs) H :=
  ⟨h, by unfold L2.start; rw [List.length_append, List.length_append, List.length_map, List.length_replicate, List.length_replicate, hv.length], fun i r hr => by
    by_cases hi : i < rs.length
    · rw [List.getElem?_append_left hi] at hr
      obtain ⟨v, h1, h2⟩ := hv.get hr
      refine .inr ⟨v, ?_, h2⟩
      unfold L2.start
      rw [List.getElem?_append_left (by rw [List.length_map, hv.length]; exact hi), List.getElem?_map, h1]
      rfl
    · rw [List.getElem?_append_right (by omega), List.getElem?_replicate] at hr
      split at hr
      · cases hr; exact .inl rfl
      · cases hr⟩
theorem fn_ok {x qual : Str} {st : Stmt} {f : Addr} {fd : FuncData} {N ps : List Str} {k : Nat} {pre : List SD → Own → (SD → Own → Prop) → Prop} (F : Fun K x qual st f fd) (S : FnScope N ps (defScope st)) (len : ∀ rs O Q, pre rs O Q → rs.length = ps.length)
    (hbody : ∀ (cdv : Value) (A : Around) (outer : List Env) (s : Shared) (H : Hp) (E : XK), Room k (A.deeper (envOfC qual (defScope st) s.heap.objs.size f cdv)) →
      ∃ t, PSs (cxOf CX0 P w K mg base N qual (defScope st) f cdv A outer s H E).nox (defBody st) t ∧ ∀ rs O Q, pre rs O Q → StW K t O (rs ++ List.replicate (N.length - rs.length) .non) ⟨fun O _ => Q (.dat .none) O, Q, fun _ _ => False, fun _ _ => False, fun _ => True⟩) :
    FnOk P w K mg base CX0 (k + 1) f fd ps (spW K pre) :=
  F.ok S (fun vs H Q E ⟨Hk, O, rs, Q0, h, hv, hp, kk⟩ => by rw [hv.length]; exact len rs O Q0 hp) fun cdv A outer s H vs Q E hr ⟨Hk, O, rs, Q0, h, hv, hp, kk⟩ => by
    obtain ⟨t, ht, hs⟩ := hbody cdv A outer s H E hr
    refine ⟨t, ht, hs rs O Q0 hp Hk _ H _ (start_pt h hv) ⟨fun O2 ds2 Hk2 σ2 H2 e p2 q => kk _ (.dat .none) O2 Hk2 H2 e p2.hold .non q, kk, fun O2 ds2 Hk2 σ2 H2 e p2 q => q.elim, fun O2 ds2 Hk2 σ2 H2 e p2 q => q.elim, fun _ _ => True.intro⟩⟩
end
end Wk
namespace Wk
open PySem PySem.Spec PyProof.Rows L2
section
variable (P : Program) (w : World) (K : PySem.W.Frag) (mg : Str → Option Value) (base : Heap)
def Def (x : Str) (st : Stmt) : Prop := ∃ f fd, Fun K x x st f fd ∧ mg x = some (.ref f)
def Callee (x : Str) (ps : List Str) (k : Nat) (pre : List SD → Own → (SD → Own → Prop) → Prop) : Prop :=
  ∃ f fd, FnOk P w K mg base CX0 k f fd ps (spW K pre) ∧ mg x = some (.ref f) ∧ PySem.W.keepIn K (.ref f) = true ∧ Binds K fd ps [] ∧ ∃ oc od sl, K.lookup f = some ⟨oc, od, .func fd, sl⟩
end
theorem callee_law {P : Program} {w : World} {K : PySem.W.Frag} {mg : Str → Option Value} {base : Heap} {x : Str} {ps : List Str} {k : Nat} {pre : List SD → Own → (SD → Own → Prop) → Prop} {f : Addr} {fd : FuncData} {qual : Str} {st : Stmt}
    (C : Callee P w K mg base x ps k pre) (g : mg x = some (.ref f)) (F : Fun K x qual st f fd) : FnOk P w K mg base CX0 k f fd ps (spW K pre) := by
  obtain ⟨f', fd', G, g', _, _, oc', od', sl', lk'⟩ := C
  rw [g] at g'
  cases g'
  obtain ⟨oc, od, kV, doc, pm, an, cdv, ct, osl, rfl, lk, hcd⟩ := F.ex
  rw [lk] at lk'
  cases lk'
  exact G
theorem Fun.lk {K : PySem.W.Frag} {x qual : Str} {st : Stmt} {f : Addr} {fd : FuncData} (F : Fun K x qual st f fd) : ∃ oc od sl, K.lookup f = some ⟨oc, od, .func fd, sl⟩ := by
  obtain ⟨oc, od, kV, doc, pm, an, cdv, ct, osl, rfl, lk, hcd⟩ := F.ex
  exact ⟨_, _, _, lk⟩
theorem cx_K {CX : CXT} {P : Program} {w : World} {K : PySem.W.Frag} {mg : Str → Option Value} {base : Heap} {N : List Str} {qual : Str} {scope : Scope} {f : Addr} {cd : Value} {A : Around} {outer : List Env} {s : Shared} {H : Hp} {E : XK} :
    (cxOf CX P w K mg base N qual scope f cd A outer s H E).nox.K = K := rfl
theorem b_dec {p : Prop} [Decidable p] {A B : Prop} (h1 : p → A) (h2 : ¬p → B) : (decide p = true → A) ∧ (decide p = false → B) := ⟨fun h => h1 (of_decide_eq_true h), fun h => h2 (of_decide_eq_false h)⟩
theorem b_ndec {p : Prop} [Decidable p] {A B : Prop} (h1 : ¬p → A) (h2 : p → B) : ((!decide p) = true → A) ∧ ((!decide p) = false → B) := by
  by_cases hp : p
  · exact ⟨fun h => by simp [hp] at h, fun _ => h2 hp⟩
  · exact ⟨fun _ => h1 hp, fun h => by simp [hp] at h⟩
theorem b_true {A B : Prop} (h : A) : (true = true → A) ∧ (true = false → B) := ⟨fun _ => h, fun h => Bool.noConfusion h⟩
theorem b_false {A B : Prop} (h : B) : (false = true → A) ∧ (false = false → B) := ⟨fun h => Bool.noConfusion h, fun _ => h⟩
/-- the law's own start -/
theorem law_start {K : PySem.W.Frag} {H : Hp} {a : Addr} {ns : List Int} {pre : List SD → Own → (SD → Own → Prop) → Prop} (hS : SqL K H a (ns.map V.int)) (hp : pre [.scr ns] [] fun r _ => r = bV true) : spW K pre [.ref a] H (fun v _ => v = .bl true) fun _ _ _ => False :=
  ⟨H, [], [.scr ns], _, ⟨Same.refl _, fun p hp => (nomatch hp), List.nodup_nil⟩, .cons ⟨a, rfl, hS⟩ .nil, hp, fun v r O2 Hk2 H2 e h s q => by
    subst q
    cases (show Da Hk2 v (.bool true) from s)
    rfl⟩
end Wk
namespace Wk
open PySem PySem.Spec PyProof.Rows L2
/-! ### the rules that speak of the written part, at a given one -/
section
variable {X : Cx} (K : PySem.W.Frag)
theorem ixL (h : X.K = K := by rfl) : IxR X (rIxL K) := h ▸ ix_list
theorem ixT (h : X.K = K := by rfl) : IxR X (rIxT K) := h ▸ ix_tup
theorem slL (h : X.K = K := by rfl) : SlR X (rSlL K) := h ▸ sl_list
theorem slT (h : X.K = K := by rfl) : SlR X (rSlA K) := h ▸ sl_tupA
theorem kCatT (h : X.K = K := by rfl) : OpR X (binaryOp .Add) (rCatA K) := h ▸ op_catA
theorem kRepT (h : X.K = K := by rfl) : OpR X (binaryOp .Mult) (rRepT K) := h ▸ op_repT
def rLen (K : PySem.W.Frag) : List V → Hp → VK → Prop := fun xs H Q => ∃ p ys, xs = [.ref p] ∧ (SqL K H p ys ∨ SqT K H p ys) ∧ Q (.int ys.length) H
def rListOf (K : PySem.W.Frag) : List V → Hp → VK → Prop := fun xs H Q => ∃ p ys, xs = [.ref p] ∧ (SqL K H p ys ∨ SqT K H p ys) ∧ ∀ l, H l = none → Q (.ref l) (upd H l (.lst ys))
def rTupOf (K : PySem.W.Frag) : List V → Hp → VK → Prop := fun xs H Q => ∃ p ys, xs = [.ref p] ∧ ((SqL K H p ys ∧ ∀ l, H l = none → Q (.ref l) (upd H l (.tup ys))) ∨ (SqT K H p ys ∧ Q (.ref p) H))
def rMax2 : List V → Hp → VK → Prop := fun xs H Q => ∃ i j, xs = [.int i, .int j] ∧ Q (.int (if j > i then j else i)) H
def rMin2 : List V → Hp → VK → Prop := fun xs H Q => ∃ i j, xs = [.int i, .int j] ∧ Q (.int (if j < i then j else i)) H
def rInt1 : List V → Hp → VK → Prop := fun xs H Q => (∃ i, xs = [.int i] ∧ Q (.int i) H) ∨ ∃ k, xs = [.bl k] ∧ Q (.int (if k then 1 else 0)) H
theorem kLen (h : X.K = K := by rfl) : CallR X (.builtin "len") (rLen K) := h ▸ call_len_seq
theorem kListOf (h : X.K = K := by rfl) : CallR X (.type "list") (rListOf K) := h ▸ call_list_of
theorem kTupOf (h : X.K = K := by rfl) : CallR X (.type "tuple") (rTupOf K) := h ▸ call_tuple_of
theorem kMax2 (hc : X.calm = true) : CallR X (.builtin "max") rMax2 := call_max2 hc
theorem kMin2 (hc : X.calm = true) : CallR X (.builtin "min") rMin2 := call_min2 hc
theorem kInt1 : CallR X (.type "int") rInt1 := call_int1
theorem kSum (hc : X.calm = true) (h : X.K = K := by rfl) : CallR X (.builtin "sum") (rSum K) := h ▸ cr_sum hc
theorem kMax (hc : X.calm = true) (h : X.K = K := by rfl) : CallR X (.builtin "max") (rMax K) := h ▸ cr_max hc
theorem kMin (hc : X.calm = true) (h : X.K = K := by rfl) : CallR X (.builtin "min") (rMin K) := h ▸ cr_min hc
theorem kSorted (h : X.K = K := by rfl) : CallR X (.builtin "sorted") (rSortedI K) := h ▸ cr_sortedI
theorem kIsi (h : X.K = K := by rfl) : CallR X (.builtin "isinstance") (rIsi K) := h ▸ call_isi
theorem kEqD (hu : X.A.units + 64 < cLine) (h : X.K = K := by rfl) : OpR X (compareOp .Eq) (rEqD K) := h ▸ op_eqD hu
theorem kNeD (hu : X.A.units + 64 < cLine) (h : X.K = K := by rfl) : OpR X (compareOp .NotEq) (rNeD K) := h ▸ op_neD hu
theorem piL {tg l : Expr} {tl : TE} (hl : PE X l tl) (h : X.K = K := by rfl) : PI X tg l (iList K tl) := h ▸ pi_list hl
theorem piT {tg l : Expr} {tl : TE} (hl : PE X l tl) (h : X.K = K := by rfl) : PI X tg l (iTup K tl) := h ▸ pi_tup hl
theorem peRev {e : Expr} {te : TE} {k : Nat} {p1 p2 p3 pos : Pos} (he : PE X e te) (h : X.K = K := by rfl) : PE X (.Subscript e (.Slice none none (some (.UnaryOp .USub (.Constant (.int 1) k p1) p2)) p3) pos) (tRevL K te) := h ▸ pe_revL he
theorem psApp {st : Stmt} {to : TE} {ta : TA} (hs : PS X st (tDrop (tBM X.K "list" rAppend to ta))) (h : X.K = K := by rfl) : PS X st (tDrop (tBM K "list" rAppend to ta)) := h ▸ hs
end
section
variable {K : PySem.W.Frag} {Hk Hk' H H' : Hp} {O O' Oa : Own} {ds : List SD} {σ : L2.St} {Q : SD → Own → Prop} {Q' : VK} {x y : SD} {es fs : List PyData} {lo hi : Option Int} {b : Addr × OD} {te : TE}
/-! ### lists that are data or owned -/
inductive Lst (O : Own) : SD → List PyData → Prop
  | d {es : List PyData} : Lst O (.dat (.list es)) es
  | o {a : Addr} {rs : List SD} {es : List PyData} (hm : (a, OD.lst rs) ∈ O) (hd : Dats rs es) : Lst O (.ad a) es
theorem Lst.get (l : Lst O x es) (h : Hold K Hk O H) {u : V} (hu : SDok K Hk u x) : ∃ a xs, u = .ref a ∧ H a = some (.lst xs) ∧ DaAll Hk xs es := by
  cases l with
  | d =>
    cases (show Da Hk u (.list es) from hu) with
    | @lst a xs _ h1 h2 => exact ⟨a, xs, rfl, h.kn _ _ h1, h2⟩
  | @o a rs _ hm hd =>
    cases (show u = .ref a from hu)
    obtain ⟨⟨vs, h1, h2⟩, _⟩ := h.ow _ hm
    obtain rfl := hd.eq
    exact ⟨a, vs, rfl, h1, h2.dats⟩
theorem sq_of {a : Addr} {xs : List V} (h : H a = some (.lst xs)) : SqL K H a xs := .inl (.inl h)
/-- a new list, as data; as owned in front; as owned behind the first -/
theorem Kont.newD (k : Kont K Hk Q Q') (h : Hold K Hk O H) {l : Addr} {xs : List V} (hf : H l = none) (hd : DaAll Hk xs es) (q : Q (.dat (.list es)) O) : Q' (.ref l) (upd H l (.lst xs)) := by
  have sm := same_new (o := .lst xs) (h.kn.free hf)
  exact k _ (.dat (.list es)) O _ _ sm (h.know hf) (.lst upd_same (DaAll.mono sm hd)) q
theorem Kont.newO (k : Kont K Hk Q Q') (h : Hold K Hk O H) {l : Addr} {xs : List V} (hf : H l = none) (hd : DaAll Hk xs es) (q : ∀ l, Q (.ad l) ((l, .lst (es.map .dat)) :: O)) : Q' (.ref l) (upd H l (.lst xs)) :=
  k _ (.ad l) _ Hk _ (Same.refl _) (h.own hf (SDall.of_dats hd)) rfl (q l)
theorem Kont.newO1 (k : Kont K Hk Q Q') (h : Hold K Hk (b :: Oa) H) {l : Addr} {xs : List V} (hf : H l = none) (hd : DaAll Hk xs es) (q : ∀ l, Q (.ad l) (b :: (l, .lst (es.map .dat)) :: Oa)) : Q' (.ref l) (upd H l (.lst xs)) :=
  k _ (.ad l) _ Hk _ (Same.refl _) ((h.own hf (SDall.of_dats hd)).perm (.swap ..)) rfl (q l)
theorem g_len (l : Lst O x es) (q : Q (iV es.length) O) : CbW K (rLen K) [x] O Q := fun Hk H h us hus Q' k => by
  obtain ⟨u, rfl, hu⟩ := all1 hus
  obtain ⟨a, xs, rfl, h1, h2⟩ := l.get h hu
  refine ⟨_, _, rfl, .inl (sq_of h1), ?_⟩
  rw [h2.length]
  exact k.now h (r := iV _) (.int _) q
theorem g_lenT (q : Q (iV es.length) O) : CbW K (rLen K) [.dat (.tuple es)] O Q := c_lenT q
theorem g_lenS {ns : List Int} (q : Q (iV ns.length) O) : CbW K (rLen K) [.scr ns] O Q := c_lenS q
theorem g_lenO {a : Addr} {rs : List SD} (hm : (a, OD.lst rs) ∈ O) (q : Q (iV rs.length) O) : CbW K (rLen K) [.ad a] O Q := c_lenO hm q
theorem g_max2 {i j : Int} (q : Q (iV (max i j)) O) : CbW K rMax2 [iV i, iV j] O Q := c_max2 q
theorem g_min2 {i j : Int} (q : Q (iV (min i j)) O) : CbW K rMin2 [iV i, iV j] O Q := c_min2 q
theorem g_int {i : Int} (q : Q (iV i) O) : CbW K rInt1 [iV i] O Q := c_int q
theorem g_intB {i : Bool} (q : Q (iV (if i then 1 else 0)) O) : CbW K rInt1 [bV i] O Q := c_intB q
theorem g_tupT (q : Q (.dat (.tuple es)) O) : CbW K (rTupOf K) [.dat (.tuple es)] O Q := c_tupT q
theorem g_tup (l : Lst O x es) (q : Q (.dat (.tuple es)) O) : CbW K (rTupOf K) [x] O Q := fun Hk H h us hus Q' k => by
  obtain ⟨u, rfl, hu⟩ := all1 hus
  obtain ⟨a, xs, rfl, h1, h2⟩ := l.get h hu
  refine ⟨_, _, rfl, .inl ⟨sq_of h1, fun l hf => ?_⟩⟩
  have sm := same_new (o := .tup xs) (h.kn.free hf)
  exact k _ (.dat (.tuple es)) O _ _ sm (h.know hf) (.tup upd_same (DaAll.mono sm h2)) q
theorem g_list (l : Lst O x es) (q : Q (.dat (.list es)) O) : CbW K (rListOf K) [x] O Q := fun Hk H h us hus Q' k => by
  obtain ⟨u, rfl, hu⟩ := all1 hus
  obtain ⟨a, xs, rfl, h1, h2⟩ := l.get h hu
  exact ⟨_, _, rfl, .inl (sq_of h1), fun l hf => k.newD h hf h2 q⟩
theorem g_listO (l : Lst O x es) (q : ∀ l, Q (.ad l) ((l, .lst (es.map .dat)) :: O)) : CbW K (rListOf K) [x] O Q := fun Hk H h us hus Q' k => by
  obtain ⟨u, rfl, hu⟩ := all1 hus
  obtain ⟨a, xs, rfl, h1, h2⟩ := l.get h hu
  exact ⟨_, _, rfl, .inl (sq_of h1), fun l hf => k.newO h hf h2 q⟩
theorem g_listO1 (l : Lst (b :: Oa) x es) (q : ∀ l, Q (.ad l) (b :: (l, .lst (es.map .dat)) :: Oa)) : CbW K (rListOf K) [x] (b :: Oa) Q := fun Hk H h us hus Q' k => by
  obtain ⟨u, rfl, hu⟩ := all1 hus
  obtain ⟨a, xs, rfl, h1, h2⟩ := l.get h hu
  exact ⟨_, _, rfl, .inl (sq_of h1), fun l hf => k.newO1 h hf h2 q⟩
theorem g_listT (q : Q (.dat (.list es)) O) : CbW K (rListOf K) [.dat (.tuple es)] O Q := c_listT q
theorem g_listTO1 (q : ∀ l, Q (.ad l) (b :: (l, .lst (es.map .dat)) :: Oa)) : CbW K (rListOf K) [.dat (.tuple es)] (b :: Oa) Q := fun Hk H h us hus Q' k => by
  obtain ⟨u, rfl, hu⟩ := all1 hus
  cases (show Da Hk u (.tuple es) from hu) with
  | @tup a xs _ h1 h2 => exact ⟨_, _, rfl, .inr (.inl (.inl (h.kn _ _ h1))), fun l hf => k.newO1 h hf h2 q⟩
theorem g_sum {ns : List Int} (l : Lst O x (ns.map .int)) (q : Q (iV ns.sum) O) : CbW K (rSum K) [x] O Q := fun Hk H h us hus Q' k => by
  obtain ⟨u, rfl, hu⟩ := all1 hus
  obtain ⟨a, xs, rfl, h1, h2⟩ := l.get h hu
  rw [h2.ints] at h1
  exact ⟨_, ns, rfl, sq_of h1, k.now h (r := iV _) (.int _) q⟩
theorem g_max {ns : List Int} (l : Lst O x (ns.map .int)) (hn : 0 < ns.length) (q : ∀ m, m ∈ ns → (∀ y ∈ ns, y ≤ m) → Q (iV m) O) : CbW K (rMax K) [x] O Q := fun Hk H h us hus Q' k => by
  obtain ⟨u, rfl, hu⟩ := all1 hus
  obtain ⟨a, xs, rfl, h1, h2⟩ := l.get h hu
  rw [h2.ints] at h1
  exact ⟨_, ns, rfl, sq_of h1, hn, fun m hm hl => k.now h (r := iV _) (.int _) (q m hm hl)⟩
theorem g_sorted {ns : List Int} (l : Lst O x (ns.map .int)) (q : ∀ ms : List Int, ms.Perm ns → ms.Pairwise (· ≤ ·) → Q (.dat (lI ms)) O) : CbW K (rSortedI K) [x] O Q := fun Hk H h us hus Q' k => by
  obtain ⟨u, rfl, hu⟩ := all1 hus
  obtain ⟨a, xs, rfl, h1, h2⟩ := l.get h hu
  rw [h2.ints] at h1
  exact ⟨_, ns, rfl, sq_of h1, fun ms p hp hs hf => k.newD h hf (DaAll.of_ints ms) (q ms hp hs)⟩
theorem g_rev (h : EvW K te O ds fun r O1 => ∃ es, Lst O1 r es ∧ Q (.dat (.list es.reverse)) O1) : EvW K (tRevL K te) O ds Q := fun Hk σ H p Q' k =>
  h Hk σ H p _ fun v r O1 Hk1 H1 e1 h1 s1 q1 => by
    obtain ⟨es, l, q⟩ := q1
    obtain ⟨a, xs, rfl, g1, g2⟩ := l.get h1 s1
    exact ⟨_, _, rfl, sq_of g1, fun l hf => (k.ext e1).newD h1 hf g2.reverse q⟩
theorem g_revO1 (h : EvW K te O ds fun r O1 => ∃ es b Oa, O1 = b :: Oa ∧ Lst O1 r es ∧ ∀ l, Q (.ad l) (b :: (l, .lst (es.reverse.map .dat)) :: Oa)) : EvW K (tRevL K te) O ds Q := fun Hk σ H p Q' k =>
  h Hk σ H p _ fun v r O1 Hk1 H1 e1 h1 s1 q1 => by
    obtain ⟨es, b, Oa, rfl, l, q⟩ := q1
    obtain ⟨a, xs, rfl, g1, g2⟩ := l.get h1 s1
    exact ⟨_, _, rfl, sq_of g1, fun l hf => (k.ext e1).newO1 h1 hf g2.reverse q⟩
theorem g_sl (l : Lst O x es) (q : Q (.dat (.list (cut es lo hi))) O) : SlW K (rSlL K) x lo hi O Q := fun Hk H h u hu Q' k => by
  obtain ⟨a, xs, rfl, h1, h2⟩ := l.get h hu
  exact ⟨_, _, rfl, sq_of h1, fun l hf => k.newD h hf (h2.cut lo hi) q⟩
theorem g_slO1 (l : Lst (b :: Oa) x es) (q : ∀ l, Q (.ad l) (b :: (l, .lst ((cut es lo hi).map .dat)) :: Oa)) : SlW K (rSlL K) x lo hi (b :: Oa) Q := fun Hk H h u hu Q' k => by
  obtain ⟨a, xs, rfl, h1, h2⟩ := l.get h hu
  exact ⟨_, _, rfl, sq_of h1, fun l hf => k.newO1 h hf (h2.cut lo hi) q⟩
theorem g_cat (l1 : Lst O x es) (l2 : Lst O y fs) (hz : es.length + fs.length ≤ 1000000) (q : Q (.dat (.list (es ++ fs))) O) : OpW K rCat x y O Q := fun Hk H h u v hu hv Q' k => by
  obtain ⟨a, xs, rfl, h1, h2⟩ := l1.get h hu
  obtain ⟨a2, ys, rfl, g1, g2⟩ := l2.get h hv
  exact ⟨_, _, xs, ys, rfl, rfl, h1, g1, by rw [h2.length, g2.length]; exact Nat.le_trans hz (by decide), fun l hf => k.newD h hf (h2.append g2) q⟩
theorem g_catO1 (l1 : Lst (b :: Oa) x es) (l2 : Lst (b :: Oa) y fs) (hz : es.length + fs.length ≤ 1000000) (q : ∀ l, Q (.ad l) (b :: (l, .lst ((es ++ fs).map .dat)) :: Oa)) : OpW K rCat x y (b :: Oa) Q := fun Hk H h u v hu hv Q' k => by
  obtain ⟨a, xs, rfl, h1, h2⟩ := l1.get h hu
  obtain ⟨a2, ys, rfl, g1, g2⟩ := l2.get h hv
  exact ⟨_, _, xs, ys, rfl, rfl, h1, g1, by rw [h2.length, g2.length]; exact Nat.le_trans hz (by decide), fun l hf => k.newO1 h hf (h2.append g2) q⟩
theorem g_rep {k : Int} (l1 : Lst O x es) (h0 : k ≤ 1000) (h00 : -1000 ≤ k) (hz : es.length ≤ 1000) (q : Q (.dat (.list (List.replicate k.toNat es).flatten)) O) : OpW K rRep x (iV k) O Q := fun Hk H h u v hu hv Q' kk => by
  obtain ⟨a, xs, rfl, h1, h2⟩ := l1.get h hu
  cases (show Da Hk v (.int k) from hv)
  refine ⟨_, k, xs, rfl, rfl, h1, by omega, by omega, ?_, fun l hf => kk.newD h hf (h2.rep _) q⟩
  rw [h2.length]
  have h3 : es.length * k.toNat ≤ 1000 * 1000 := Nat.mul_le_mul hz (by omega)
  exact Nat.le_trans h3 (by decide)
theorem g_ix {i : Int} {d : PyData} (l : Lst O x es) (ha : atI es i = some d) (q : Q (.dat d) O) : OpW K (rIxL K) x (iV i) O Q := fun Hk H h u v hu hv Q' k => by
  obtain ⟨a, xs, rfl, h1, h2⟩ := l.get h hu
  cases (show Da Hk v (.int i) from hv)
  obtain ⟨j, e1, e2⟩ := atI_get ha
  obtain ⟨w, g1, g2⟩ := h2.get e2
  exact ⟨_, xs, i, w, rfl, rfl, sq_of h1, atI_of (by rw [h2.length]; exact e1) g1, k.now h (r := .dat d) g2 q⟩
end
theorem sz_ok {n : Nat} (h : Nat.ble n 1000000 = true) : n ≤ sizeLine := Nat.le_trans (Nat.le_of_ble_eq_true h) (by decide)
def intOf : PyData → Int
  | .int n => n
  | _ => 0
/-- an item of a written menu of ints -/
theorem o_pickM {K : PySem.W.Frag} {O : Own} {Q : SD → Own → Prop} {es : List PyData} {i : Int} (he : es = (es.map intOf).map .int) (h0 : 0 ≤ i) (h1 : i < es.length) (q : ∀ v, v ∈ es.map intOf → Q (iV v) O) : OpW K (rIxL K) (.dat (.list es)) (iV i) O Q :=
  o_pickL h0 h1 fun d hd => by
    rw [he] at hd
    obtain ⟨v, hv, rfl⟩ := List.mem_map.mp hd
    exact q v hv
section
variable {K : PySem.W.Frag} {O O' Oa : Own} {ds : List SD} {Q : SD → Own → Prop} {A : AE} {t : TS} {te : TE}
/-- a name of an owned list of data: from here on it is data -/
theorem s_frz {i : Nat} {a : Addr} {rs : List SD} {es : List PyData} (hi : ds[i]? = some (.ad a)) (hp : O.Perm ((a, OD.lst rs) :: Oa)) (hd : Dats rs es) (h : StW K t Oa (ds.set i (.dat (.list es))) A) : StW K t O ds A := fun Hk σ H D p l => by
  obtain rfl := hd.eq
  obtain ⟨Hk2, e2, h2, d2⟩ := (p.hold.perm hp).freeze
  have p2 : Pt K Hk2 Oa ds σ H := p.ext e2 h2
  rcases p.env i (.ad a) hi with z | ⟨v, hv, hs⟩
  · cases z
  · cases (show v = .ref a from hs)
    refine h Hk2 σ H D ?_ (l.ext e2)
    have p3 := p2.set (j := i) (r := .dat (.list es)) (v := .ref a) d2
    have e : σ.set i (some (.ref a)) = σ := by
      obtain ⟨hl, e⟩ := List.getElem?_eq_some_iff.mp hv
      rw [← e]
      exact List.set_getElem_self hl
    rw [e] at p3
    exact p3
theorem g_nthO {a : Addr} {ns : List Int} {i : Int} (hm : (a, OD.lst (ns.map fun n => iV n)) ∈ O) (h0 : 0 ≤ i) (h1 : i < ns.length) (q : Q (iV (ns.getD i.toNat 0)) O) : OpW K (rIxL K) (.ad a) (iV i) O Q := by
  obtain ⟨d, h, e, _⟩ := atI_in (xs := ns.map PyData.int) h0 (by rw [List.length_map]; exact h1)
  rw [List.getElem?_map] at e
  refine g_ix (.o hm (Dats.ints ns)) h ?_
  cases z : ns[i.toNat]? with
  | none => rw [z] at e; cases e
  | some n =>
    rw [z] at e
    cases e
    rw [List.getD_eq_getElem?_getD, z] at q
    exact q
theorem ixN_in {n : Nat} {k : Int} (h0 : 0 ≤ k) (h1 : k < n) : ixN n k = some k.toNat := by
  unfold ixN
  rw [if_pos h0, if_pos h1]
theorem dats_iV (ns : List Int) : (ns.map PyData.int).map SD.dat = ns.map fun n => iV n := by rw [List.map_map]; rfl
theorem iV_set (ns : List Int) (j : Nat) (v : Int) : (ns.map fun n => iV n).set j (iV v) = (ns.set j v).map fun n => iV n := by rw [List.map_set]
end
section
variable {K : PySem.W.Frag} {O : Own} {Q : SD → Own → Prop} {n : String} {b : Bool}
theorem i_B {x : Bool} (hb : kitB "bool" n = some b) (q : Q (bV b) O) : CbW K (rIsi K) [bV x, .ty n] O Q := c_isi (d := .bool x) hb q
theorem i_I {x : Int} (hb : kitB "int" n = some b) (q : Q (bV b) O) : CbW K (rIsi K) [iV x, .ty n] O Q := c_isi (d := .int x) hb q
theorem i_T {x : List PyData} (hb : kitB "tuple" n = some b) (q : Q (bV b) O) : CbW K (rIsi K) [.dat (.tuple x), .ty n] O Q := c_isi (d := .tuple x) hb q
theorem i_L {x : List PyData} (hb : kitB "list" n = some b) (q : Q (bV b) O) : CbW K (rIsi K) [.dat (.list x), .ty n] O Q := c_isi (d := .list x) hb q
theorem i_N (hb : kitB "NoneType" n = some b) (q : Q (bV b) O) : CbW K (rIsi K) [.dat .none, .ty n] O Q := c_isi (d := .none) hb q
theorem i_O {a : Addr} {rs : List SD} (hm : (a, OD.lst rs) ∈ O) (hb : kitB "list" n = some b) (q : Q (bV b) O) : CbW K (rIsi K) [.ad a, .ty n] O Q := c_isiO hm hb q
end
theorem cut_lo {α : Type} (xs : List α) {i : Int} (h0 : 0 ≤ i) : cut xs (some i) none = xs.drop i.toNat := by
  obtain ⟨k, rfl⟩ : ∃ k : Nat, i = (k : Int) := ⟨i.toNat, by omega⟩
  unfold cut
  rw [HT.sIx_nat, HT.sIx_none, Int.toNat_natCast]
  by_cases h : k ≤ xs.length
  · rw [Nat.min_eq_left h]
    exact List.take_of_length_le (by rw [List.length_drop]; exact Nat.le_refl _)
  · rw [Nat.min_eq_right (by omega), List.drop_length, List.take_nil, List.drop_eq_nil_of_le (by omega)]
theorem cut_hi {α : Type} (xs : List α) {i : Int} (h0 : 0 ≤ i) : cut xs none (some i) = xs.take i.toNat := by
  obtain ⟨k, rfl⟩ : ∃ k : Nat, i = (k : Int) := ⟨i.toNat, by omega⟩
  unfold cut
  rw [HT.sIx_nat, HT.sIx_none, Int.toNat_natCast, List.drop_zero, Nat.sub_zero]
  by_cases h : k ≤ xs.length
  · rw [Nat.min_eq_left h]
  · rw [Nat.min_eq_right (by omega), List.take_length, List.take_of_length_le (by omega)]
theorem cut_map {α β : Type} (f : α → β) (xs : List α) (lo hi : Option Int) : cut (xs.map f) lo hi = (cut xs lo hi).map f := by
  unfold cut
  rw [List.length_map, ← List.map_drop, ← List.map_take]
theorem cut_len {α : Type} (xs : List α) (lo hi : Option Int) : (cut xs lo hi).length ≤ xs.length := by
  unfold cut
  rw [List.length_take, List.length_drop]
  omega
theorem g_catT {K : PySem.W.Frag} {O : Own} {Q : SD → Own → Prop} {es fs : List PyData} (hz : es.length + fs.length ≤ 1000000) (q : Q (.dat (.tuple (es ++ fs))) O) : OpW K (rCatA K) (.dat (.tuple es)) (.dat (.tuple fs)) O Q := o_catT (Nat.le_trans hz (by decide)) q
theorem map_app1 (ns : List Int) (v : Int) : ns.map PyData.int ++ [PyData.int v] = (ns ++ [v]).map PyData.int := by rw [List.map_append]; rfl
theorem b_any {b : Bool} {A B : Prop} (h1 : b = true → A) (h2 : b = false → B) : (b = true → A) ∧ (b = false → B) := ⟨h1, h2⟩
end Wk
namespace Wk
open PySem PySem.Spec PyProof.Rows L2
/-! ### plain data: ints and None in lists and tuples, n deep -/
def plB : Nat → PyData → Bool
  | _, .int _ => true
  | _, .none => true
  | n + 1, .list xs => xs.all (plB n)
  | n + 1, .tuple xs => xs.all (plB n)
  | _, _ => false
def PlAll (n : Nat) (xs : List PyData) : Prop := ∀ x ∈ xs, plB n x = true
theorem PlAll.nil (n : Nat) : PlAll n [] := fun _ h => absurd h List.not_mem_nil
theorem PlAll.cons {n : Nat} {x : PyData} {xs : List PyData} (h : plB n x = true) (r : PlAll n xs) : PlAll n (x :: xs) := fun y hy => (List.mem_cons.mp hy).elim (fun e => e ▸ h) (r y)
theorem PlAll.app {n : Nat} {xs ys : List PyData} (h : PlAll n xs) (r : PlAll n ys) : PlAll n (xs ++ ys) := fun y hy => (List.mem_append.mp hy).elim (h y) (r y)
theorem PlAll.map {α : Type} {n : Nat} {f : α → PyData} {xs : List α} (h : ∀ x, plB n (f x) = true) : PlAll n (xs.map f) := fun y hy => by
  obtain ⟨x, _, rfl⟩ := List.mem_map.mp hy
  exact h x
theorem pl_int (n : Nat) (i : Int) : plB n (.int i) = true := by cases n <;> rfl
theorem pl_none (n : Nat) : plB n .none = true := by cases n <;> rfl
theorem pl_list {n : Nat} {xs : List PyData} (h : PlAll n xs) : plB (n + 1) (.list xs) = true := List.all_eq_true.mpr h
theorem pl_tuple {n : Nat} {xs : List PyData} (h : PlAll n xs) : plB (n + 1) (.tuple xs) = true := List.all_eq_true.mpr h
theorem plAll_of {n : Nat} {x : PyData} {xs : List PyData} (h : PlAll n (x :: xs)) : plB n x = true ∧ PlAll n xs := ⟨h x List.mem_cons_self, fun y hy => h y (List.mem_cons_of_mem _ hy)⟩
theorem pl_lay : ∀ (n : Nat) (d : PyData), plB n d = true → d.canLay0 = true ∧ d.depth ≤ n := by
  intro n
  induction n with
  | zero => intro d h; cases d <;> first | (cases h; done) | exact ⟨rfl, Nat.le_refl _⟩ | cases h
  | succ n ih =>
    have all : ∀ xs : List PyData, PlAll n xs → PyData.canLayAll0 xs = true ∧ PyData.depthAll xs ≤ n := by
      intro xs
      induction xs with
      | nil => intro _; exact ⟨rfl, Nat.zero_le _⟩
      | cons x xs ihx =>
        intro h
        obtain ⟨h1, h2⟩ := plAll_of h
        obtain ⟨a1, a2⟩ := ih x h1
        obtain ⟨b1, b2⟩ := ihx h2
        refine ⟨by simp [PyData.canLayAll0, a1, b1], ?_⟩
        simp only [PyData.depthAll]
        omega
    intro d h
    cases d with
    | none => exact ⟨rfl, Nat.zero_le _⟩
    | int i => exact ⟨rfl, Nat.zero_le _⟩
    | bool b => cases h
    | str b => cases h
    | dict b => cases h
    | list xs =>
      obtain ⟨a, b⟩ := all xs (List.all_eq_true.mp h)
      exact ⟨by simpa [PyData.canLay0] using a, by simp only [PyData.depth]; omega⟩
    | tuple xs =>
      obtain ⟨a, b⟩ := all xs (List.all_eq_true.mp h)
      exact ⟨by simpa [PyData.canLay0] using a, by simp only [PyData.depth]; omega⟩
theorem pl_shaped {n : Nat} {d : PyData} (h : plB n d = true) (hn : n ≤ 64) : SeqAt.shaped d = true := by
  obtain ⟨a, b⟩ := pl_lay n d h
  unfold SeqAt.shaped
  rw [a, decide_eq_true (Nat.le_trans b hn)]
  rfl
theorem eqv_iff : ∀ (n : Nat) (d e : PyData), plB n d = true → plB n e = true → (PyData.eqv d e = true ↔ d = e) := by
  intro n
  induction n with
  | zero =>
    intro d e h k
    cases d <;> cases e <;> first | (cases h; done) | (cases k; done) | (simp [PyData.eqv])
  | succ n ih =>
    have all : ∀ xs ys : List PyData, PlAll n xs → PlAll n ys → (PyData.eqvAll xs ys = true ↔ xs = ys) := by
      intro xs
      induction xs with
      | nil => intro ys _ _; cases ys <;> simp [PyData.eqvAll]
      | cons x xs ihx =>
        intro ys h k
        cases ys with
        | nil => simp [PyData.eqvAll]
        | cons y ys =>
          obtain ⟨h1, h2⟩ := plAll_of h
          obtain ⟨k1, k2⟩ := plAll_of k
          simp only [PyData.eqvAll, Bool.and_eq_true, ih x y h1 k1, ihx ys h2 k2, List.cons.injEq]
    intro d e h k
    cases d with
    | bool b => cases h
    | str b => cases h
    | dict b => cases h
    | none => cases e <;> first | (cases k; done) | (simp [PyData.eqv])
    | int i => cases e <;> first | (cases k; done) | (simp [PyData.eqv])
    | list xs =>
      cases e with
      | list ys => simp only [PyData.eqv, PyData.list.injEq, all xs ys (List.all_eq_true.mp h) (List.all_eq_true.mp k)]
      | bool b => cases k
      | str b => cases k
      | dict b => cases k
      | none => simp [PyData.eqv]
      | int i => simp [PyData.eqv]
      | tuple i => simp [PyData.eqv]
    | tuple xs =>
      cases e with
      | tuple ys => simp only [PyData.eqv, PyData.tuple.injEq, all xs ys (List.all_eq_true.mp h) (List.all_eq_true.mp k)]
      | bool b => cases k
      | str b => cases k
      | dict b => cases k
      | none => simp [PyData.eqv]
      | int i => simp [PyData.eqv]
      | list i => simp [PyData.eqv]
section
variable {K : PySem.W.Frag} {O : Own} {Q : SD → Own → Prop} {d e : PyData}
theorem o_eqP (h1 : plB 8 d = true) (h2 : plB 8 e = true) (q : ∀ b, (b = true ↔ d = e) → Q (bV b) O) : OpW K (rEqD K) (.dat d) (.dat e) O Q :=
  o_eqD (pl_shaped h1 (by decide)) (pl_shaped h2 (by decide)) (q _ (eqv_iff 8 d e h1 h2))
theorem o_neP (h1 : plB 8 d = true) (h2 : plB 8 e = true) (q : ∀ b, (b = true ↔ d = e) → Q (bV (!b)) O) : OpW K (rNeD K) (.dat d) (.dat e) O Q :=
  o_neD (pl_shaped h1 (by decide)) (pl_shaped h2 (by decide)) (q _ (eqv_iff 8 d e h1 h2))
end
theorem ints_inj {a b : List Int} (h : a.map PyData.int = b.map PyData.int) : a = b := by
  induction a generalizing b with
  | nil => cases b with
    | nil => rfl
    | cons y s => cases h
  | cons x r ih => cases b with
    | nil => cases h
    | cons y s =>
      rw [List.map_cons, List.map_cons] at h
      injection h with h1 h2
      injection h1 with h1
      rw [h1, ih h2]
theorem tI_inj {a b : List Int} (h : tI a = tI b) : a = b := by
  injection h with h
  exact ints_inj h
abbrev lS (cs : List (List Int)) : PyData := .list (cs.map fun c => tI c)
abbrev tS (cs : List (List Int)) : PyData := .tuple (cs.map fun c => tI c)
theorem shapes_inj {a b : List (List Int)} (h : (a.map fun c => tI c) = b.map fun c => tI c) : a = b := by
  induction a generalizing b with
  | nil => cases b with
    | nil => rfl
    | cons y s => cases h
  | cons x r ih => cases b with
    | nil => cases h
    | cons y s =>
      rw [List.map_cons, List.map_cons] at h
      injection h with h1 h2
      rw [tI_inj h1, ih h2]
theorem lS_inj {a b : List (List Int)} (h : lS a = lS b) : a = b := by
  injection h with h
  exact shapes_inj h
section
variable {K : PySem.W.Frag} {O : Own} {Q : SD → Own → Prop}
theorem getD_some {α : Type} {xs : List α} {j : Nat} {d : α} (h : j < xs.length) : xs[j]? = some (xs.getD j d) := by
  rw [List.getD_eq_getElem?_getD, List.getElem?_eq_getElem h]
  rfl
/-- a shape of a list of shapes, a row of a tuple of rows -/
theorem o_nthS {cs : List (List Int)} {i : Int} (h0 : 0 ≤ i) (h1 : i < cs.length) (q : Q (.dat (tI (cs.getD i.toNat []))) O) : OpW K (rIxL K) (.dat (lS cs)) (iV i) O Q := by
  obtain ⟨d, h, e, _⟩ := atI_in (xs := cs.map fun c => tI c) h0 (by rw [List.length_map]; exact h1)
  rw [List.getElem?_map, getD_some (d := []) (by omega)] at e
  cases e
  exact o_ixL h q
theorem o_nthST {cs : List (List Int)} {i : Int} (h0 : 0 ≤ i) (h1 : i < cs.length) (q : Q (.dat (tI (cs.getD i.toNat []))) O) : OpW K (rIxT K) (.dat (tS cs)) (iV i) O Q := by
  obtain ⟨d, h, e, _⟩ := atI_in (xs := cs.map fun c => tI c) h0 (by rw [List.length_map]; exact h1)
  rw [List.getElem?_map, getD_some (d := []) (by omega)] at e
  cases e
  exact o_ixT h q
/-- the last -/
theorem at_last {α : Type} {xs : List α} {d : α} (h : xs ≠ []) : atI xs (-1) = some (xs.getD (xs.length - 1) d) := by
  have hl : 0 < xs.length := List.length_pos_iff.mpr h
  unfold atI ixN
  rw [if_neg (by decide), if_pos (by omega)]
  show xs[((-1 : Int) + (xs.length : Int)).toNat]? = _
  rw [show ((-1 : Int) + (xs.length : Int)).toNat = xs.length - 1 by omega]
  exact getD_some (by omega)
theorem o_lastS {cs : List (List Int)} (h : cs ≠ []) (q : Q (.dat (tI (cs.getD (cs.length - 1) []))) O) : OpW K (rIxL K) (.dat (lS cs)) (iV (-1)) O Q := by
  refine o_ixL (d := tI (cs.getD (cs.length - 1) [])) ?_ q
  rw [at_last (d := .none) (by simpa using h)]
  congr 1
  rw [List.length_map, List.getD_eq_getElem?_getD, List.getElem?_map, getD_some (d := []) (by have := List.length_pos_iff.mpr h; omega)]
  rfl
end
theorem cut_length {α : Type} (xs : List α) (lo hi : Option Int) : (cut xs lo hi).length = min (HT.sIx xs.length xs.length hi - HT.sIx xs.length 0 lo) (xs.length - HT.sIx xs.length 0 lo) := by
  unfold cut
  rw [List.length_take, List.length_drop]
/-- lists of shapes of bounded sizes -/
def GoodX (n : Nat) (xs : List PyData) : Prop := ∃ o : List (List Int), xs = o.map (fun c => tI c) ∧ o.length ≤ n ∧ ∀ c ∈ o, c.length ≤ 1000
theorem GoodX.cut {n : Nat} {xs : List PyData} (h : GoodX n xs) (lo hi : Option Int) : GoodX n (cut xs lo hi) := by
  obtain ⟨o, rfl, h1, h2⟩ := h
  refine ⟨Wk.cut o lo hi, cut_map _ _ _ _, Nat.le_trans (cut_len _ _ _) h1, fun c hc => h2 c ?_⟩
  unfold Wk.cut at hc
  exact List.mem_of_mem_drop (List.mem_of_mem_take hc)
theorem GoodX.app {n m : Nat} {xs ys : List PyData} (h : GoodX n xs) (k : GoodX m ys) : GoodX (n + m) (xs ++ ys) := by
  obtain ⟨o, rfl, h1, h2⟩ := h
  obtain ⟨p, rfl, k1, k2⟩ := k
  refine ⟨o ++ p, by rw [List.map_append], by rw [List.length_append]; omega, fun c hc => ?_⟩
  rcases List.mem_append.mp hc with hc | hc
  · exact h2 c hc
  · exact k2 c hc
theorem GoodX.rev {n : Nat} {xs : List PyData} (h : GoodX n xs) : GoodX n xs.reverse := by
  obtain ⟨o, rfl, h1, h2⟩ := h
  exact ⟨o.reverse, by rw [List.map_reverse], by rw [List.length_reverse]; exact h1, fun c hc => h2 c (List.mem_reverse.mp hc)⟩
theorem GoodX.one {ns : List Int} (h : ns.length ≤ 1000) : GoodX 1 [tI ns] := ⟨[ns], rfl, Nat.le_refl _, fun c hc => by rw [List.mem_singleton.mp hc]; exact h⟩
theorem GoodX.len {n : Nat} {xs : List PyData} (h : GoodX n xs) : xs.length ≤ n := by
  obtain ⟨o, rfl, h1, h2⟩ := h
  rw [List.length_map]
  exact h1
section
variable {K : PySem.W.Frag} {O O' : Own} {ds : List SD} {Q : SD → Own → Prop} {x y : SD} {es : List PyData} {d e : PyData}
theorem Lst.ne (l : Lst O x es) : x ≠ .non := by
  cases l with
  | d => exact fun z => nomatch z
  | o _ _ => exact fun z => nomatch z
theorem Lst.weak (l : Lst O x es) (h : ∀ p ∈ O, p ∈ O') : Lst O' x es := by
  cases l with
  | d => exact .d
  | o hm hd => exact .o (h _ hm) hd
theorem w_vX {i : Nat} (h : ds[i]? = some x) (l : Lst O x es) (q : Q x O) : EvW K (tVar i) O ds Q := w_var h l.ne q
theorem o_nthG {cs : List (List Int)} {i : Int} (l : Lst O x (cs.map fun c => tI c)) (h0 : 0 ≤ i) (h1 : i < cs.length) (q : Q (.dat (tI (cs.getD i.toNat []))) O) : OpW K (rIxL K) x (iV i) O Q := by
  obtain ⟨d, h, e, _⟩ := atI_in (xs := cs.map fun c => tI c) h0 (by rw [List.length_map]; exact h1)
  rw [List.getElem?_map, getD_some (d := []) (by omega)] at e
  cases e
  exact g_ix l h q
/-- what may be compared: data, or an owned list of data -/
inductive Val (O : Own) : SD → PyData → Prop
  | d {d : PyData} : Val O (.dat d) d
  | l {x : SD} {es : List PyData} (h : Lst O x es) : Val O x (.list es)
theorem Val.dp {H Hk : Hp} (v : Val O x d) (h : Hold K Hk O H) {u : V} (hu : SDok K Hk u x) : Dp K H u d := by
  cases v with
  | d => exact (Da.mono h.kn hu).dp
  | l h1 =>
    obtain ⟨a, xs, rfl, g1, g2⟩ := h1.get h hu
    exact .lst (sq_of g1) (DaAll.mono h.kn g2).dp
theorem o_eqV (v1 : Val O x d) (v2 : Val O y e) (h1 : plB 8 d = true) (h2 : plB 8 e = true) (q : ∀ b, (b = true ↔ d = e) → Q (bV b) O) : OpW K (rEqD K) x y O Q := fun Hk H h u v hu hv Q' k =>
  ⟨d, e, v1.dp h hu, v2.dp h hv, pl_shaped h1 (by decide), pl_shaped h2 (by decide), k.now h (r := bV _) (.bl _) (q _ (eqv_iff 8 d e h1 h2))⟩
theorem o_neV (v1 : Val O x d) (v2 : Val O y e) (h1 : plB 8 d = true) (h2 : plB 8 e = true) (q : ∀ b, (b = true ↔ d = e) → Q (bV (!b)) O) : OpW K (rNeD K) x y O Q := fun Hk H h u v hu hv Q' k =>
  ⟨d, e, v1.dp h hu, v2.dp h hv, pl_shaped h1 (by decide), pl_shaped h2 (by decide), k.now h (r := bV _) (.bl _) (q _ (eqv_iff 8 d e h1 h2))⟩
end
theorem w_chain {K : PySem.W.Frag} {O : Own} {ds : List SD} {Q : SD → Own → Prop} {r r' : R2} {ta tb tc : TE} (h : EvW K ta O ds fun x O1 => EvW K tb O1 ds fun y O2 => OpW K r x y O2 fun z O3 => ∃ k, z = bV k ∧ (k = true → EvW K tc O3 ds fun w O4 => OpW K r' y w O4 Q) ∧ (k = false → Q (bV false) O3)) : EvW K (tChain r r' ta tb tc) O ds Q := fun Hk σ H p Q' k =>
  h Hk σ H p _ fun v1 x O1 Hk1 H1 e1 h1 s1 q1 => q1 Hk1 σ H1 (p.ext e1 h1) _ fun v2 y O2 Hk2 H2 e2 h2 s2 q2 =>
    q2 Hk2 H2 h2 v1 v2 (s1.mono e2) s2 _ fun v3 z O3 Hk3 H3 e3 h3 s3 q3 => by
      obtain ⟨c, rfl, qt, qf⟩ := q3
      cases (show Da Hk3 v3 (.bool c) from s3)
      refine ⟨c, rfl, ?_⟩
      cases c with
      | true => exact iteT (qt rfl Hk3 σ H3 (((p.ext e1 h1).ext e2 h2).ext e3 h3) _ fun v4 w O4 Hk4 H4 e4 h4 s4 q4 => q4 Hk4 H4 h4 v2 v4 (s2.mono (e3.trans e4)) s4 Q' (k.ext (e1.trans (e2.trans (e3.trans e4)))))
      | false => exact iteF (k _ (bV false) O3 Hk3 H3 (e1.trans (e2.trans e3)) h3 (.bl false) (qf rfl))
end Wk
namespace Wk
open PySem PySem.Spec PyProof.Rows L2
/-! ### enumerate of a tuple -/
theorem enumT_meets (a : Addr) (xs : Array Value) (n : Nat) (d0 : Option Addr) (sl : Array (Option Value)) :
    Meets (Builtin.«enumerate.__new__» ⟨[.type "enumerate", .ref a], []⟩) (fun _ R s => s.heap.get? a = some { cls := .type "tuple", dict := d0, data := .seq xs n, slots := sl } ∧
      R (.ok (.ret (.ref (s.heap.push { cls := .type "tuple_iterator", data := .fields #[.ref a, .int 0 0] }).objs.size)))
        { s with heap := (s.heap.push { cls := .type "tuple_iterator", data := .fields #[.ref a, .int 0 0] }).push { cls := .type "enumerate", data := .fields #[.none, .bool false, .ref s.heap.objs.size, rawInt 0, .none, .none] } }) :=
  .of_wp fun prog w A R s h => by
    obtain ⟨hp, g, dr, tk, os⟩ := s
    obtain ⟨ha, h⟩ := h
    have sub := sub_enumerate
    have hT : Heap.IsTuple (Shared.heap ⟨hp, g, dr, tk, os⟩) a xs := ⟨_, ha, rfl, n, rfl⟩
    wp_walk using AutoSeq1.wpAny_loadPart' ha
    refine wpAny_stack_any fun st => wpAny_pure ?_
    split
    · rename_i c _ _ _ _ _
      cases (c == Value.type "enumerate")
      · wp_walk using AutoSeq1.wpAny_loadPart' ha, wpAny_pyIter_tuple hT
        exact ⟨_, rfl, h⟩
      · wp_walk using AutoSeq1.wpAny_loadPart' ha, wpAny_pyIter_tuple hT
        exact ⟨_, rfl, h⟩
    · wp_walk using AutoSeq1.wpAny_loadPart' ha, wpAny_pyIter_tuple hT
      exact ⟨_, rfl, h⟩
theorem call_enumT {prog : Program} {w : World} {A : Around} {E : Value → Shared → Prop} {s : Shared} {a : Addr} {xs : Array Value} {Q : Value → Shared → Prop} (hT : s.heap.IsTuple a xs)
    (h : ∀ h', IsEnum h' (s.heap.objs.size + 1) s.heap.objs.size 0 .none → h'.IsTupleIter s.heap.objs.size a 0 → h'.objs.size = s.heap.objs.size + 2 → (∀ b o, s.heap.get? b = some o → h'.get? b = some o) →
      Q (.ref (s.heap.objs.size + 1)) { s with heap := h' }) : wpAny (model prog w) A (call (.type "enumerate") [.ref a]) Q E s := by
  obtain ⟨⟨c, d0, dt, sl⟩, ha, hc, n, hd⟩ := hT
  replace hc : c = .type "tuple" := hc
  replace hd : dt = .seq xs n := hd
  subst hc hd
  refine callType_new F.called_enumerate (by decide) (F.typeCall_enumerate_1 _) (F.newCall_enumerate_1 _) (fun ob => F.args_object_init_2 ob _) F.entry_enumerate_new (enumT_meets a xs n d0 sl) ⟨ha, ?_⟩
  have z1 : (s.heap.push { cls := .type "tuple_iterator", data := .fields #[.ref a, .int 0 0] }).objs.size = s.heap.objs.size + 1 := Heap.size_push ..
  show _ ∧ _
  rw [z1]
  have he : IsEnum ((s.heap.push { cls := .type "tuple_iterator", data := .fields #[.ref a, .int 0 0] }).push { cls := .type "enumerate", data := .fields #[.none, .bool false, .ref s.heap.objs.size, rawInt 0, .none, .none] }) (s.heap.objs.size + 1) s.heap.objs.size 0 .none := by
    have g := Heap.get?_push_size (s.heap.push { cls := .type "tuple_iterator", data := .fields #[.ref a, .int 0 0] }) (o := { cls := .type "enumerate", data := .fields #[.none, .bool false, .ref s.heap.objs.size, rawInt 0, .none, .none] }) rfl
    rw [z1] at g
    exact g
  refine ⟨⟨_, he, rfl⟩, h _ he ⟨_, Heap.get?_push_of_some _ (Heap.get?_push_size _ rfl), rfl, rfl⟩ ?_ fun b o y => Heap.get?_push_of_some _ (Heap.get?_push_of_some _ y)⟩
  rw [Heap.size_push, z1]
/-- a tuple's items, each in a new pair with its number -/
def IteT (K : PySem.W.Frag) (a : Addr) : It :=
  ⟨fun i H => ∃ (xs : List V) (x : V), SqT K H a xs ∧ xs[i]? = some x, fun i H v H' => ∃ T x, v = .ref T ∧ H T = none ∧ H' = upd H T (.tup [.int (i : Nat), x]) ∧ ∀ xs, SqT K H a xs → xs[i]? = some x, fun i H => ∃ xs : List V, SqT K H a xs ∧ xs.length = i⟩
theorem turn_enumT {P : Program} {w : World} {K : PySem.W.Frag} {elts : List Expr} {kk : Nat} {tpos : Pos} (a e it : Addr) (ne : e ≠ it) (na : a ≠ it) (nea : e ≠ a) :
    Turn P w K (.Tuple elts kk tpos) (IteT K a) [e, it] e (fun i h => (∃ old, IsEnum h e it ((i : Nat) : Int) old) ∧ h.IsTupleIter it a i) where
  mem := by simp
  obj := fun i h st b hb => by
    obtain ⟨⟨old, he⟩, ⟨o, ho, hc, hd⟩⟩ := st
    have e' : b = e ∨ b = it := by simpa using hb
    rcases e' with z | z
    · subst z
      exact ⟨_, he, fun v q => nomatch q⟩
    · subst z
      exact ⟨o, ho, fun v q => by rw [hd] at q; cases q⟩
  keep := fun i h h' st k => let ⟨⟨old, he⟩, hi⟩ := st; ⟨⟨old, k e (by simp) _ he⟩, hi.at fun o q => k it (by simp) o q⟩
  item := by
    intro X hP hw hK hc i pins s σ H E I hf st hg
    subst hP hw hK
    obtain ⟨⟨old, he⟩, hit⟩ := st
    obtain ⟨xs, x, hq, hx⟩ := hg
    obtain ⟨its, rv, p, hz⟩ := I.tuple hq
    obtain ⟨u, hu, ru⟩ := rv.get hx
    have hel : e < s.heap.objs.size := Heap.lt_size he
    have hil : it < s.heap.objs.size := by obtain ⟨_, q, _⟩ := hit; exact Heap.lt_size q
    have hlt : i < its.toArray.size := by
      have := (List.getElem?_eq_some_iff.mp hu).1
      simpa using this
    refine wpAny_pyNext_enum_itemD (Draws.tuple (A := X.A.in1) (show X.A.in1.handled = none from I.ok.hd hc) it a na its.toArray) he ⟨hit, show s.heap.IsTuple a its.toArray from p⟩ hlt ne (by simp [ne, nea]) fun x' h' tk hx' ho hst' hT hsz hk => ?_
    have ex : x' = u := by
      rw [List.getElem?_toArray, hu] at hx'
      exact (Option.some.inj hx').symm
    subst ex
    refine ⟨_, rfl, wpAny_letOwnedTupleGo_enum (s := { s with heap := h', toks := tk + 1 }) ho fun h'' he' sb => ?_⟩
    have hT2 : h''.get? s.heap.objs.size = some { cls := .type "tuple", data := .seq #[.int i tk, x'] } := (sb.2 _ (Nat.ne_of_gt hel)).trans hT
    have new : ObjOk X.prog X.w (upd H s.heap.objs.size (.tup [.int (i : Nat), x])) h'' s.heap.objs.size (.tup [.int (i : Nat), x]) :=
      ⟨by show 2 ≤ sizeLine; decide, [.int i tk, x'], .cons ⟨_, rfl⟩ (.cons ru .nil), ⟨_, hT2, rfl, _, rfl⟩⟩
    have I1 : Inv X pins σ (upd H s.heap.objs.size (.tup [.int (i : Nat), x])) { s with heap := h'', toks := tk + 1 } :=
      I.turnedNew (ch := [e, it]) (fun b ob hb q => (sb.2 b (fun z => hb (by simp [z]))).trans (hk b ob (fun z => hb (by simp [z])) (fun z => hb (by simp [z])) q)) hf (Nat.le_refl _) new
    refine ⟨.ref s.heap.objs.size, _, I1, rfl, ⟨_, x, rfl, I.hok.fresh (Nat.le_refl _), rfl, fun ys hy => by rw [I.tuple_inj hy hq]; exact hx⟩, ⟨⟨x', ?_⟩, hst'.1.at fun o q => (sb.2 it (Ne.symm ne)).trans q⟩, fun b hb => ?_⟩
    · have e1 : ((i + 1 : Nat) : Int) = (i : Int) + 1 := by omega
      rw [e1]
      exact he'
    · have hb' : b < s.heap.objs.size := by
        have e' : b = e ∨ b = it := by simpa using hb
        rcases e' with z | z
        · subst z; exact hel
        · subst z; exact hil
      rw [upd_ne (Nat.ne_of_lt hb')]
      exact (hf b hb).1
  done := by
    intro X hP hw hK hc i pins s σ H E I hf st hg
    subst hP hw hK
    obtain ⟨⟨old, he⟩, hit⟩ := st
    obtain ⟨xs, hq, hx⟩ := hg
    obtain ⟨its, rv, p, hz⟩ := I.tuple hq
    obtain ⟨f0, f1, f2, f3, f4, f5⟩ := hf it (by simp)
    have hl := rv.length
    have hs : its.toArray.size = i := by rw [List.size_toArray]; omega
    have hit2 : s.heap.IsTupleIter it a its.toArray.size := by rw [hs]; exact hit
    exact wpAny_pyNext_enum_endD (Draws.tuple (A := X.A.in1) (show X.A.in1.handled = none from I.ok.hd hc) it a na its.toArray) he ⟨hit2, show s.heap.IsTuple a its.toArray from p⟩ fun h' eb => ⟨rfl, I.turned (t' := s.toks) (fun b o hb q => eb b o hb q) f0 f1 f3 f4 f5⟩
  self := fun A i s Q E st h => let ⟨⟨_, he⟩, _⟩ := st; wpAny_pyIter_enum he h
def iEnumT (K : PySem.W.Frag) (ta : TA) : TI := fun σ H R => ta σ H fun vs H1 => ∃ a xs, vs = [.ref a] ∧ SqT K H1 a xs ∧ R (IteT K a) H1
theorem pi_enumT {X : Cx} (K : PySem.W.Frag) {e : Expr} {ta : TA} {p pos tpos : Pos} {elts : List Expr} {kk : Nat} (hg : Gl X "enumerate") (hm : X.mg "enumerate" = none) (ha : PA X [e] ta) (hK : X.K = K := by rfl) (hs : starEach [e] X.env = [(false, eval e X.env)] := by rfl) :
    PI X (.Tuple elts kk tpos) (.Call (.Name "enumerate" p) [e] [] pos) (iEnumT K ta) := by
  subst hK
  refine ⟨fun pins s σ H R I h => ?_⟩
  refine Call_ (ld_blt I hg hm boot_enumerate (PyProof.Rows.callWith_type1 (thn (ha.run pos pins s σ H _ I h) fun us s1 ⟨vs, H1, I1, r1, q1⟩ => ?_) hs rfl))
  obtain ⟨a, xs, ex, hq, q⟩ := q1
  subst ex
  cases r1 with
  | cons r rr =>
    cases rr
    cases r
    obtain ⟨its, rv, p', hz⟩ := I1.tuple hq
    have hT : s1.heap.IsTuple a its.toArray := p'
    have hal : a < s1.heap.objs.size := by obtain ⟨_, g, _⟩ := hT; exact Heap.lt_size g
    refine call_enumT hT fun h' he hit hsz hk => wpAny_pyIter_enum he ?_
    have I2 : Inv X pins σ H1 { s1 with heap := h' } := I1.kept (t' := s1.toks) hk
    refine ⟨s1.heap.objs.size + 1, [s1.heap.objs.size + 1, s1.heap.objs.size], _, _, H1, rfl, I2, turn_enumT a (s1.heap.objs.size + 1) s1.heap.objs.size (Nat.succ_ne_self _) (Nat.ne_of_lt hal) (Nat.ne_of_gt (Nat.lt_succ_of_lt hal)), ⟨⟨.none, he⟩, hit⟩, fun b hb => ?_, q⟩
    have e' : b = s1.heap.objs.size + 1 ∨ b = s1.heap.objs.size := by simpa using hb
    have hle : s1.heap.objs.size ≤ b := by
      rcases e' with z | z
      · rw [z]; exact Nat.le_add_right _ _
      · rw [z]; exact Nat.le_refl _
    exact I1.fpOk hle (I1.hok.fresh hle)
theorem pgTup {X : Cx} (K : PySem.W.Frag) {es : List Expr} {k : Nat} {pos : Pos} {t : TGs} {n : Nat} (hc : X.calm = true) (h : PGs X es t) (hK : X.K = K := by rfl) (hn : (assignEach es X.env).length = n := by rfl)
    (hst : (assignEach es X.env).findIdx? (·.1) = none := by rfl) : PG X (.Tuple es k pos) (gTup K n t) := hK ▸ pg_tup hc h hn hst
section
variable {K : PySem.W.Frag} {Hk Hk' H H' : Hp} {O O' : Own} {ds : List SD} {σ : L2.St} {Q : SD → Own → Prop} {A : AE}
/-- for i, x in enumerate(t), t data -/
theorem s_forET {ta : TA} {j1 j2 : Nat} {tb : TS} (h : AvW K ta O ds fun rs O1 => ∃ es : List PyData, rs = [.dat (.tuple es)] ∧ ∃ I : Nat → Own → List SD → Prop, I 0 O1 ds ∧
    (∀ (i : Nat) d O2 ds2, es[i]? = some d → I i O2 ds2 → ∀ B : AE, Bdy I i A B → StW K tb O2 ((ds2.set j1 (iV (i : Int))).set j2 (.dat d)) B) ∧ ∀ O2 ds2, I es.length O2 ds2 → A.nx O2 ds2) :
    StW K (tFor (iEnumT K ta) (gTup K 2 (gCons (gName j1) (gCons (gName j2) gNil))) tb) O ds A := fun Hk σ H D p l =>
  h Hk σ H p _ fun vs rs O1 Hk1 H1 e1 h1 s1 q1 => by
    obtain ⟨es, rfl, I, h0, hs, hd⟩ := q1
    obtain ⟨v, rfl, hv⟩ := all1 s1
    cases (show Da Hk1 v (.tuple es) from hv) with
    | @tup a xs _ g1 g2 =>
      refine ⟨a, xs, rfl, .inl (.inl (h1.kn _ _ g1)), fun i m σ H => m = xs.length - i ∧ i ≤ xs.length ∧ ∃ O2 ds2 Hk2, Same Hk1 Hk2 ∧ Pt K Hk2 O2 ds2 σ H ∧ I i O2 ds2, ⟨xs.length, by simp, Nat.zero_le _, O1, ds, Hk1, Same.refl _, p.ext e1 h1, h0⟩, ?_⟩
      rintro i m σ' H' ⟨rfl, hi, O2, ds2, Hk2, e, p2, q⟩
      have sq : SqT K H' a xs := .inl (.inl (p2.hold.kn _ _ (e _ _ g1)))
      by_cases hlt : i < xs.length
      · have hx : xs[i]? = some xs[i] := List.getElem?_eq_getElem hlt
        refine .inr ⟨⟨xs, xs[i], sq, hx⟩, fun σ2 H2 => ∃ O3 ds3 Hk3, Same Hk1 Hk3 ∧ Pt K Hk3 O3 ds3 σ2 H2 ∧ I (i + 1) O3 ds3, fun σ2 H2 hN => ⟨xs.length - (i + 1), by omega, rfl, hlt, hN⟩, fun x H2 y => ?_⟩
        obtain ⟨T, x', rfl, nT, rfl, fx⟩ := y
        have ex : x' = xs[i] := by
          have := fx xs sq
          rw [hx] at this
          exact (Option.some.inj this).symm
        obtain ⟨d, hd1, hd2⟩ := g2.getV hx
        have smT : Same Hk2 (upd Hk2 T (.tup [.int (i : Nat), x'])) := same_new (p2.hold.kn.free nT)
        have p3 : Pt K (upd Hk2 T (.tup [.int (i : Nat), x'])) O2 ds2 σ' (upd H' T (.tup [.int (i : Nat), x'])) := p2.ext smT (p2.hold.know nT)
        refine ⟨T, [.int (i : Nat), x'], rfl, .inl (.inl upd_same), rfl, .int (i : Nat), [x'], rfl, x', [], rfl, rfl, ?_⟩
        have hdx : SDok K (upd Hk2 T (.tup [.int (i : Nat), x'])) x' (.dat d) := by
          have := Da.mono (e.trans smT) hd2
          rw [← ex] at this
          exact this
        have e4 := e.trans smT
        exact hs i d O2 ds2 hd1 q _ .mk' _ _ _ _ ((p3.set (j := j1) (r := iV (i : Int)) (.int _)).set (j := j2) hdx) ⟨fun O3 ds3 Hk3 σ3 H3 e3 p3 q3 => ⟨O3, ds3, Hk3, e4.trans e3, p3, q3⟩, l.rt.ext (e1.trans e4), l.nx.ext (e1.trans e4), fun O3 ds3 Hk3 σ3 H3 e3 p3 q3 => ⟨O3, ds3, Hk3, e4.trans e3, p3, q3⟩, l.xt.ext (e1.trans e4)⟩
      · have ei : i = xs.length := by omega
        refine .inl ⟨⟨xs, sq, ei.symm⟩, ?_⟩
        rw [ei, g2.length] at q
        exact l.nx O2 ds2 Hk2 σ' H' (e1.trans e) p2 (hd O2 ds2 q)
end
end Wk
namespace Wk
open PySem PySem.Spec PyProof.Rows L2
/-! ### the sum of a tuple -/
theorem sum_rawT {prog : Program} {w : World} {A : Around} {E : Value → Shared → Prop} {s : Shared} {l : Addr} {its : List Value} {ns : List Int} {Q : Value → Shared → Prop} (hh : A.handled = none) (hl : s.heap.IsTuple l its.toArray) (hi : IntsAre its ns)
    (h : ∀ h' tk t', (∀ b o, s.heap.get? b = some o → h'.get? b = some o) → Q (.int ns.sum t') { s with heap := h', toks := tk }) : wpAny (model prog w) A (call (.builtin "sum") [.ref l]) Q E s := by
  obtain ⟨xs, e⟩ := hi.allInts.items
  have hn : numsOf (intItems xs).toList = ns := by rw [← e]; exact hi.numsOf
  rw [nums_intItems] at hn
  rw [e] at hl
  refine PySem.W.ktm_sumG hh hl fun h' tk t' hk => ?_
  have := h h' tk t' hk
  rw [preSum_eq, List.take_of_length_le (by simp), hn]
  exact this
def rSumT (K : PySem.W.Frag) : List V → Hp → VK → Prop := fun vs H Q => ∃ (a : Addr) (ns : List Int), vs = [V.ref a] ∧ SqT K H a (ns.map V.int) ∧ Q (.int ns.sum) H
theorem cr_sumT {X : Cx} (hc : X.calm = true) : CallR X (.builtin "sum") (rSumT X.K) := by
  intro pins s σ H vs us Q I r h
  obtain ⟨a, ns, rfl, hs, q⟩ := h
  obtain ⟨its, rv, hl, _⟩ := I.tuple hs
  rw [Vals.ref1 r]
  exact sum_rawT (I.ok.hd hc) hl rv.ints fun h' tk t' hk => ⟨.int _, H, I.kept hk, ⟨_, rfl⟩, q⟩
section
variable {X : Cx} (K : PySem.W.Frag)
theorem kSumT (hc : X.calm = true) (h : X.K = K := by rfl) : CallR X (.builtin "sum") (rSumT K) := h ▸ cr_sumT hc
end
section
variable {K : PySem.W.Frag} {O : Own} {Q : SD → Own → Prop}
theorem g_sumT {ns : List Int} (q : Q (iV ns.sum) O) : CbW K (rSumT K) [.dat (tI ns)] O Q := fun Hk H h us hus Q' k => by
  obtain ⟨u, rfl, hu⟩ := all1 hus
  cases (show Da Hk u (.tuple (ns.map .int)) from hu) with
  | @tup a xs _ h1 h2 =>
    rw [h2.ints] at h1
    exact ⟨_, ns, rfl, .inl (.inl (h.kn _ _ h1)), k.now h (r := iV _) (.int _) q⟩
variable {x : SD} {es : List PyData}
theorem g_repO {k : Int} (l1 : Lst O x es) (h0 : k ≤ 1000) (h00 : -1000 ≤ k) (hz : es.length ≤ 1000) (q : ∀ l, Q (.ad l) ((l, .lst ((List.replicate k.toNat es).flatten.map .dat)) :: O)) : OpW K rRep x (iV k) O Q := fun Hk H h u v hu hv Q' kk => by
  obtain ⟨a, xs, rfl, h1, h2⟩ := l1.get h hu
  cases (show Da Hk v (.int k) from hv)
  refine ⟨_, k, xs, rfl, rfl, h1, by omega, by omega, ?_, fun l hf => kk.newO h hf (h2.rep _) q⟩
  rw [h2.length]
  have h3 : es.length * k.toNat ≤ 1000 * 1000 := Nat.mul_le_mul hz (by omega)
  exact Nat.le_trans h3 (by decide)
theorem at_snoc {α : Type} (xs : List α) (x : α) : atI (xs ++ [x]) (-1) = some x := by
  rw [at_last (d := x) (by simp), List.getD_eq_getElem?_getD, List.length_append, List.length_singleton, Nat.add_sub_cancel, List.getElem?_append_right (Nat.le_refl _), Nat.sub_self]
  rfl
end
end Wk
namespace Wk
open PySem PySem.Spec PyProof.Rows L2
/-! ### what is owned, seen as data for a while -/
section
variable {K : PySem.W.Frag} {Hk H H' : Hp} {O : Own} {ds : List SD} {Q : SD → Own → Prop} {x y : SD} {d e : PyData}
theorem Hold.grow (h : Hold K Hk O H) (s : Same H H') : Hold K Hk O H' := ⟨h.kn.trans s, fun p hp => ⟨by
    obtain ⟨h1, _⟩ := h.ow p hp
    obtain ⟨a, o⟩ := p
    cases o with
    | lst rs =>
      obtain ⟨vs, g1, g2⟩ := h1
      exact ⟨vs, s _ _ g1, g2⟩
    | dK kvs =>
      obtain ⟨vs, g1, g2⟩ := h1
      exact ⟨vs, s _ _ g1, g2⟩
    | tup kvs =>
      obtain ⟨vs, g1, g2⟩ := h1
      exact ⟨vs, s _ _ g1, g2⟩
    | lstX vs kvs =>
      obtain ⟨g1, g2⟩ := h1
      exact ⟨s _ _ g1, g2⟩
    | obj o vs kvs =>
      obtain ⟨g1, g2⟩ := h1
      exact ⟨s _ _ g1, g2⟩, (h.ow p hp).2⟩, h.nd⟩
/-- the data that it reads as, now -/
def VD (K : PySem.W.Frag) (O : Own) (x : SD) (d : PyData) : Prop := ∀ (Hk H : Hp), Hold K Hk O H → ∀ u : V, SDok K Hk u x → Da H u d
inductive VDs (K : PySem.W.Frag) (O : Own) : List SD → List PyData → Prop
  | nil : VDs K O [] []
  | cons {x : SD} {d : PyData} {rs : List SD} {es : List PyData} : VD K O x d → VDs K O rs es → VDs K O (x :: rs) (d :: es)
theorem VD.kn : VD K O (.dat d) d := fun _ _ h _ hu => Da.mono h.kn hu
theorem VDs.kn : ∀ es : List PyData, VDs K O (es.map SD.dat) es
  | [] => .nil
  | _ :: r => .cons VD.kn (VDs.kn r)
theorem VDs.all {Hk H : Hp} (h : Hold K Hk O H) : ∀ {rs : List SD} {es : List PyData} {vs : List V}, VDs K O rs es → SDall K Hk vs rs → DaAll H vs es
  | _, _, _, .nil, .nil => .nil
  | _, _, _, .cons a r, .cons b s => .cons (a _ _ h _ b) (VDs.all h r s)
theorem VD.o {a : Addr} {rs : List SD} {es : List PyData} (hm : (a, OD.lst rs) ∈ O) (hv : VDs K O rs es) : VD K O (.ad a) (.list es) := fun Hk H h u hu => by
  obtain ⟨⟨vs, h1, h2⟩, _⟩ := h.ow _ hm
  cases (show u = .ref a from hu)
  exact .lst h1 (hv.all h h2)
theorem VD.o' {a : Addr} {rs : List SD} {es : List PyData} (hm : (a, OD.lst rs) ∈ O) (hd : Dats rs es) : VD K O (.ad a) (.list es) := by
  obtain rfl := hd.eq
  exact VD.o hm (VDs.kn es)
theorem o_eqW (v1 : VD K O x d) (v2 : VD K O y e) (h1 : plB 8 d = true) (h2 : plB 8 e = true) (q : ∀ b, (b = true ↔ d = e) → Q (bV b) O) : OpW K (rEqD K) x y O Q := fun Hk H h u v hu hv Q' k =>
  ⟨d, e, (v1 _ _ h _ hu).dp, (v2 _ _ h _ hv).dp, pl_shaped h1 (by decide), pl_shaped h2 (by decide), k.now h (r := bV _) (.bl _) (q _ (eqv_iff 8 d e h1 h2))⟩
theorem o_neW (v1 : VD K O x d) (v2 : VD K O y e) (h1 : plB 8 d = true) (h2 : plB 8 e = true) (q : ∀ b, (b = true ↔ d = e) → Q (bV (!b)) O) : OpW K (rNeD K) x y O Q := fun Hk H h u v hu hv Q' k =>
  ⟨d, e, (v1 _ _ h _ hu).dp, (v2 _ _ h _ hv).dp, pl_shaped h1 (by decide), pl_shaped h2 (by decide), k.now h (r := bV _) (.bl _) (q _ (eqv_iff 8 d e h1 h2))⟩
/-- [.. for x in xs if t], where the test says no to every one -/
theorem w_lcNone {tl : TE} {j : Nat} {tt : TT} {te : TE} (h : EvW K tl O ds fun r O1 => ∃ es : List PyData, VD K O1 r (.list es) ∧
    (∀ (i : Nat) (d : PyData) (Dl : Addr), es[i]? = some d → TvW K tt [(Dl, OD.lst [])] (ds.set j (.dat d)) fun b O3 => b = false ∧ O3 = [(Dl, OD.lst [])]) ∧ ∀ Dl, Q (.ad Dl) ((Dl, .lst []) :: O1)) : EvW K (tLc (iList K tl) (gName j) tt te [j]) O ds Q := fun Hk σ H p Q' k =>
  h Hk σ H p _ fun v r O1 Hk1 H1 e1 h1 s1 q1 => by
    obtain ⟨es, hv, hs, hd⟩ := q1
    cases (hv _ _ h1 _ s1) with
    | @lst a xs _ g1 g2 =>
    have h0 : Hold K H1 [] H1 := ⟨Same.refl _, fun _ h => absurd h List.not_mem_nil, List.nodup_nil⟩
    refine ⟨a, rfl, ⟨xs, .inl (.inl g1)⟩, fun Dl hf => lc_list (xs := xs) (fun i H => ∃ Hk2, Same H1 Hk2 ∧ Hold K Hk2 [(Dl, OD.lst [])] H)
      ⟨H1, Same.refl _, h0.own hf .nil⟩ (fun i H2 _ ⟨Hk2, e2, hh⟩ => .inl (.inl (hh.kn _ _ (e2 _ _ g1)))) (fun i x H2 hi hP => ?_) (fun H2 hP => ?_)⟩
    · obtain ⟨Hk2, e2, hh⟩ := hP
      obtain ⟨d, hd1, hd2⟩ := g2.getV hi
      have pp : Pt K Hk2 [] ds σ H2 := ⟨hh.sub (List.nil_sublist _), p.len, fun i r hr => (p.env i r hr).imp id fun ⟨v, a, b⟩ => ⟨v, a, b.mono (e1.trans (h1.kn.trans e2))⟩⟩
      refine lc_turn (d := .dat d) (acc := []) (O2 := []) (Dl := Dl) (P' := fun H => ∃ Hk2, Same H1 Hk2 ∧ Hold K Hk2 [(Dl, OD.lst [])] H) (I' := fun acc2 O3 => acc2 = [] ∧ O3 = []) ?_ (by decide) pp hh (Da.mono e2 hd2) ?_
      · intro Dl2 Hk3 σ3 H3 p3 Q3 k3
        refine hs i d Dl2 hd1 Hk3 σ3 H3 p3 Q3 fun b O3 Hk4 H4 e4 h4 q4 => k3 b O3 Hk4 H4 e4 h4 ⟨fun hb => ?_, fun hb => ?_⟩
        · rw [q4.1] at hb
          cases hb
        · rw [q4.2]
          exact ⟨[], .refl _, rfl, rfl⟩
      · rintro _ _ Hk3 H3 e3 hh3 ⟨rfl, rfl⟩
        exact ⟨Hk3, e2.trans e3, hh3⟩
    · obtain ⟨Hk2, e2, hh⟩ := hP
      have h5 := h1.own hf (rs := []) .nil
      refine k _ (.ad Dl) _ Hk1 H2 e1 (h5.grow fun b o hb => ?_) rfl (hd Dl)
      obtain ⟨⟨vs, g3, g4⟩, _⟩ := hh.ow _ List.mem_cons_self
      cases g4
      by_cases z : b = Dl
      · subst z
        rw [show upd H1 b (.lst []) b = some (.lst []) from by simp [upd]] at hb
        rw [← hb]
        exact g3
      · rw [show upd H1 Dl (.lst []) b = H1 b from by simp [upd, z]] at hb
        exact hh.kn _ _ (e2 _ _ hb)
end
end Wk
namespace Wk
open PySem PySem.Spec PyProof.Rows L2
/-! ### the greatest of a tuple -/
section
variable {prog : Program} {w : World} {A : Around} {E : Value → Shared → Prop} {s : Shared} {l : Addr}
theorem max_tupInts {xs : Array (Int × Tok)} {Q : Value → Shared → Prop} (hh : A.handled = none) (ht : s.heap.IsTuple l (intItems xs)) (hne : 0 < xs.size)
    (h : ∀ v h' tk, (intItems xs)[argBest (fun i j => decide (numAt xs i > numAt xs j)) (xs.size - 1)]? = some v → (∀ b o, s.heap.get? b = some o → h'.get? b = some o) → Q v { s with heap := h', toks := tk }) :
    wpAny (model prog w) A (call (.builtin "max") [.ref l]) Q E s := by
  obtain ⟨o, ho, hc, n, hd⟩ := id ht
  have hn2 : l ≠ s.heap.objs.size := Nat.ne_of_lt (Heap.lt_size ho)
  refine call_max_walk (wpAny_pyIter_tuple ht ?_)
  refine ⟨s.heap.objs.size, _, _, _, _, _, _, rfl, Walks.tuple (A := A.in1) hh s.heap.objs.size l hn2 (intItems xs), ⟨⟨_, Heap.get?_push_size _ rfl, rfl, rfl⟩, ht.at fun o e => Heap.get?_push_of_some _ e⟩, fun b hb => ?_, by simpa [intItems] using hne, CmpOf.ints_gt (numAt xs) (fun _ _ => intItems_at), fun v h' tk hP hk => ?_⟩
  · rcases List.mem_cons.mp hb with rfl | hb
    · exact Heap.lt_size (Heap.get?_push_size _ rfl)
    · obtain rfl := List.mem_singleton.mp hb
      exact Heap.lt_size (Heap.get?_push_of_some _ ho)
  · exact h v h' tk (by simpa [intItems] using hP) fun b o e => hk b o (fun hb => absurd (Heap.lt_size e) ((List.mem_singleton.mp hb) ▸ Nat.lt_irrefl _)) (Heap.get?_push_of_some _ e)
theorem max_rawT {its : List Value} {ns : List Int} {Q : Value → Shared → Prop} (hh : A.handled = none) (hl : s.heap.IsTuple l its.toArray) (hi : IntsAre its ns) (hne : 0 < ns.length)
    (h : ∀ h' tk M t', (∀ b o, s.heap.get? b = some o → h'.get? b = some o) → M ∈ ns → (∀ a, a ∈ ns → a ≤ M) → Q (.int M t') { s with heap := h', toks := tk }) : wpAny (model prog w) A (call (.builtin "max") [.ref l]) Q E s := by
  obtain ⟨xs, e⟩ := hi.allInts.items
  have hn : numsOf (intItems xs).toList = ns := by rw [← e]; exact hi.numsOf
  rw [nums_intItems] at hn
  subst hn
  rw [e] at hl
  have hsz : 0 < xs.size := by simpa using hne
  refine max_tupInts hh hl hsz fun v h' tk hv hk => ?_
  obtain ⟨t, rfl⟩ := intItems_at hv
  obtain ⟨h1, h2⟩ := argBest_gt (numAt xs) (xs.size - 1)
  refine h h' tk _ t hk ?_ fun a ha => ?_
  · rw [numAt_eq]; exact PySem.getD_mem (by rw [List.length_map, Array.length_toList]; omega)
  · obtain ⟨i, hi, rfl⟩ := List.mem_iff_getElem.mp ha
    have hi2 : i < xs.size := by simpa using hi
    have := h2 i (by omega)
    rw [numAt_eq xs i, List.getD_eq_getElem?_getD, List.getElem?_eq_getElem hi] at this
    exact this
end
def rMaxT (K : PySem.W.Frag) : List V → Hp → VK → Prop := fun vs H Q => ∃ (a : Addr) (ns : List Int), vs = [V.ref a] ∧ SqT K H a (ns.map V.int) ∧ 0 < ns.length ∧ ∀ m, m ∈ ns → (∀ y, y ∈ ns → y ≤ m) → Q (.int m) H
theorem cr_maxT {X : Cx} (hc : X.calm = true) : CallR X (.builtin "max") (rMaxT X.K) := by
  intro pins s σ H vs us Q I r h
  obtain ⟨a, ns, rfl, hs, hne, q⟩ := h
  obtain ⟨its, rv, hl, _⟩ := I.tuple hs
  rw [Vals.ref1 r]
  exact max_rawT (I.ok.hd hc) hl rv.ints hne fun h' tk m t' hk h1 h2 => ⟨.int _, H, I.kept hk, ⟨_, rfl⟩, q m h1 h2⟩
section
variable {X : Cx} (K : PySem.W.Frag)
theorem kMaxT (hc : X.calm = true) (h : X.K = K := by rfl) : CallR X (.builtin "max") (rMaxT K) := h ▸ cr_maxT hc
end
section
variable {K : PySem.W.Frag} {O : Own} {Q : SD → Own → Prop}
theorem g_maxT {ns : List Int} (hn : 0 < ns.length) (q : ∀ m, m ∈ ns → (∀ y ∈ ns, y ≤ m) → Q (iV m) O) : CbW K (rMaxT K) [.dat (tI ns)] O Q := fun Hk H h us hus Q' k => by
  obtain ⟨u, rfl, hu⟩ := all1 hus
  cases (show Da Hk u (.tuple (ns.map .int)) from hu) with
  | @tup a xs _ h1 h2 =>
    rw [h2.ints] at h1
    exact ⟨_, ns, rfl, .inl (.inl (h.kn _ _ h1)), hn, fun m hm hy => k.now h (r := iV m) (.int m) (q m hm hy)⟩
end
end Wk
namespace Wk
open PySem PySem.Spec PyProof.Rows L2
/-! ### a tuple, one time and more -/
theorem tuple_mul1 (l : Addr) (items : Array Value) (n : Nat) (dd : Option Addr) (sl : Array (Option Value)) (x : Int) (u : Tok) (c0 : (decide (x < -(2 ^ 63)) || decide (x ≥ 2 ^ 63)) = false) (c1 : (items.isEmpty || x == 1) = true) :
    Meets (Builtin.«tuple.__mul__» ⟨[.ref l, .int x u], []⟩) (fun _ R s => s.heap.get? l = some { cls := .type "tuple", dict := dd, data := .seq items n, slots := sl } ∧ R (.ok (.ret (Value.ref l))) s) :=
  .of_wp fun prog w A R s h => by
    obtain ⟨hp, g, d, tk, os⟩ := s
    obtain ⟨hl, h⟩ := h
    have f1 := AutoSeq1.idx_int
    wp_walk using wpAny_loadPart' hl
    repeat (first
      | (refine wpAny_ite_false (decide_eq_false (by rw [c0]; exact Bool.false_ne_true)) ?_; wp_walk using wpAny_loadPart' hl)
      | (refine wpAny_ite_true (decide_eq_true (by rw [c1])) ?_; wp_walk using wpAny_loadPart' hl))
    exact ⟨_, rfl, h⟩
def rRep1 (K : PySem.W.Frag) : R2 := fun x y H Q => rRepT K x y H Q ∨ ∃ l xs, x = .ref l ∧ y = .int 1 ∧ SqT K H l xs ∧ Q (.ref l) H
theorem op_rep1 {X : Cx} : OpR X (binaryOp .Mult) (rRep1 X.K) := by
  intro pins s σ H x y v u Q I rx ry h
  rcases h with h | h
  · exact op_repT pins s σ H x y v u Q I rx ry h
  obtain ⟨l, xs, rfl, rfl, hT, q⟩ := h
  cases rx
  obtain ⟨t, rfl⟩ := ry
  obtain ⟨its, r, ⟨⟨cls, dd, data, sl⟩, ho, hc, n, hd⟩, hs⟩ := I.tuple hT
  simp only at hc hd
  subst hc hd
  refine wpAny_binaryOp_repeat_ref (T := "tuple") (U := "int") (by decide) ⟨_, ho, rfl⟩ (fun s' => typeIs_int s' 1 t) noFill_tuple_mul F.fills_int_mul F.slot_int_rmul repeat_tuple F.slot_int_index.lookup
    (call_meets F.slot_int_rmul (typeIs_int s 1 t) F.entry_int_rmul (F.args_int_rmul_2 _ _) (int_rmul_tuple 1 t l its.toArray n dd sl)
      ⟨ho, rfl, ⟨_, ho, rfl⟩, call_meets F.slot_tuple_mul ⟨_, ho, rfl⟩ F.entry_tuple_mul (F.args_tuple_mul_2 _ _) (tuple_mul1 l its.toArray n dd sl 1 t (by decide) (by simp)) ⟨ho, ?_⟩⟩)
  exact ⟨.ref l, H, I.kept (t' := s.toks) (fun _ _ q => q), rfl, q⟩
section
variable {X : Cx} (K : PySem.W.Frag)
theorem kRep1 (h : X.K = K := by rfl) : OpR X (binaryOp .Mult) (rRep1 K) := h ▸ op_rep1
end
section
variable {K : PySem.W.Frag} {O : Own} {Q : SD → Own → Prop}
theorem rep_one {α : Type} (x : α) : ∀ n : Nat, (List.replicate n [x]).flatten = List.replicate n x
  | 0 => rfl
  | n + 1 => by
    rw [List.replicate_succ, List.flatten_cons, rep_one x n, List.replicate_succ]
    rfl
theorem g_rep1 {d : PyData} {k : Int} (h0 : 1 ≤ k) (h1 : k ≤ 1000) (q : Q (.dat (.tuple (List.replicate k.toNat d))) O) : OpW K (rRep1 K) (.dat (.tuple [d])) (iV k) O Q := fun Hk H h u v hu hv Q' kk => by
  cases (show Da Hk v (.int k) from hv)
  cases (show Da Hk u (.tuple [d]) from hu) with
  | @tup a xs _ g1 g2 =>
    by_cases e : k = 1
    · subst e
      exact .inr ⟨a, xs, rfl, rfl, .inl (.inl (h.kn _ _ g1)), kk.now h (r := .dat (.tuple [d])) (.tup g1 g2) q⟩
    · have hl : xs.length = 1 := g2.length
      refine .inl ⟨a, k, xs, rfl, rfl, .inl (.inl (h.kn _ _ g1)), (fun z => by rw [z] at hl; cases hl), by omega, h1, by omega, fun l hf => ?_⟩
      have sm := same_new (o := .tup (List.replicate k.toNat xs).flatten) (h.kn.free hf)
      refine kk _ (.dat (.tuple (List.replicate k.toNat d))) O _ _ sm (h.know hf) (.tup upd_same (DaAll.mono sm ?_)) q
      have e2 := g2.rep k.toNat
      rw [rep_one d] at e2
      exact e2
end
end Wk
namespace Wk
open PySem PySem.Spec PyProof.Rows L2
/-! ### errors: raised, let through, caught -/
/-- what is wanted of an error, met: W is told the slots too -/
def KonX (K : PySem.W.Frag) (Hk : Hp) (Qx : Addr → Option (Str × PyData) → Own → Prop) (E : XK) : Prop :=
  ∀ cls d C fs O2 Hk2 H2, Same Hk Hk2 → Hold K Hk2 O2 H2 → XDok Hk2 cls d C fs → Qx C fs O2 → E cls d H2
def KonW (K : PySem.W.Frag) (Hk : Hp) (Qs : Addr → Option (Str × PyData) → Own → List SD → Prop) (W : WX) : Prop :=
  ∀ cls d C fs σ O2 ds2 Hk2 H2, Same Hk Hk2 → Pt K Hk2 O2 ds2 σ H2 → XDok Hk2 cls d C fs → Qs C fs O2 ds2 → W cls d σ H2
/-- the promise of a def that may raise -/
def spX (K : PySem.W.Frag) (pre : List SD → Own → (SD → Own → Prop) → (Addr → Option (Str × PyData) → Own → Prop) → Prop) : Sp := fun vs H Q' E =>
  ∃ Hk O rs Q Qx, Hold K Hk O H ∧ SDall K Hk vs rs ∧ pre rs O Q Qx ∧ Kont K Hk Q Q' ∧ KonX K Hk Qx E
/-- an expression that may let an error out, to W -/
def EvX (K : PySem.W.Frag) (W : WX) (Qs : Addr → Option (Str × PyData) → Own → List SD → Prop) (t : TE) (O : Own) (ds : List SD) (Q : SD → Own → Prop) : Prop :=
  ∀ Hk σ H, Pt K Hk O ds σ H → KonW K Hk Qs W → ∀ Q' : VK, Kont K Hk Q Q' → t σ H Q'
section
variable {K : PySem.W.Frag} {Hk Hk' H H' : Hp} {O O' Oa : Own} {ds : List SD} {σ : L2.St} {Q : SD → Own → Prop} {Q' : VK} {x y : SD} {A : AE} {D : Ends} {t u : TS} {te : TE} {ta : TA} {W : WX}
  {Qs : Addr → Option (Str × PyData) → Own → List SD → Prop} {Qx : Addr → Option (Str × PyData) → Own → Prop} {preX : List SD → Own → (SD → Own → Prop) → (Addr → Option (Str × PyData) → Own → Prop) → Prop}
theorem KonX.ext {E : XK} (k : KonX K Hk Qx E) (e : Same Hk Hk') : KonX K Hk' Qx E := fun cls d C fs O2 Hk2 H2 e2 => k cls d C fs O2 Hk2 H2 (e.trans e2)
theorem KonW.ext (k : KonW K Hk Qs W) (e : Same Hk Hk') : KonW K Hk' Qs W := fun cls d C fs σ O2 ds2 Hk2 H2 e2 => k cls d C fs σ O2 ds2 Hk2 H2 (e.trans e2)
theorem x_of (h : EvW K te O ds Q) : EvX K W Qs te O ds Q := fun Hk σ H p _ Q' k => h Hk σ H p Q' k
theorem x_call (h : AvW K ta O ds fun rs O1 => preX rs O1 Q fun C fs O2 => Qs C fs O2 ds) : EvX K W Qs (tCallS (spX K preX) (WE W) ta) O ds Q := fun Hk σ H p kw Q' k =>
  h Hk σ H p _ fun vs rs O1 Hk1 H1 e1 h1 s1 q1 => ⟨Hk1, O1, rs, Q, _, h1, s1, q1, k.ext e1, fun cls d C fs O2 Hk2 H2 e2 h2 ok q => kw cls d C fs σ O2 ds Hk2 H2 (e1.trans e2) (p.ext (e1.trans e2) h2) ok q⟩
theorem sx_ret (hW : ∀ Hk, A.xt Hk → KonW K Hk Qs W) (h : EvX K W Qs te O ds A.rt) : StW K (tRet te) O ds A := fun Hk σ H D p l => h Hk σ H p (hW Hk (l.xt Hk (Same.refl _))) _ l.rt
theorem sx_asg {i : Nat} (hW : ∀ Hk, A.xt Hk → KonW K Hk Qs W) (h : EvX K W Qs te O ds fun r O1 => A.nx O1 (ds.set i r)) : StW K (tAsg te (gName i)) O ds A := fun Hk σ H D p l =>
  h Hk σ H p (hW Hk (l.xt Hk (Same.refl _))) _ fun v r O1 Hk1 H1 e1 h1 s1 q1 => l.nx O1 _ Hk1 _ H1 e1 ((p.ext e1 h1).set s1) q1
/-- a, b = e: a pair of data -/
def unp2 (te : TE) (K : PySem.W.Frag) (i j : Nat) : TS := tAsg te (gTup K 2 (gCons (gName i) (gCons (gName j) gNil)))
theorem unp2_go {i j : Nat} {d e : PyData} {v : V} {Hk1 H1 : Hp} {O1 : Own} (p1 : Pt K Hk1 O1 ds σ H1) (s1 : Da Hk1 v (.tuple [d, e])) (e1 : Same Hk Hk1) (l : Post K Hk A.nx D.nx) (q : A.nx O1 ((ds.set i (.dat d)).set j (.dat e))) :
    gTup K 2 (gCons (gName i) (gCons (gName j) gNil)) v σ H1 D.nx := by
  cases s1 with
  | @tup a xs _ h1 h2 =>
    cases h2 with
    | @cons v1 _ _ _ g1 r =>
      cases r with
      | @cons v2 _ _ _ g2 r =>
        cases r
        refine ⟨a, [v1, v2], rfl, .inl (.inl (p1.hold.kn _ _ h1)), rfl, v1, [v2], rfl, v2, [], rfl, rfl, ?_⟩
        exact l O1 _ Hk1 _ H1 e1 ((p1.set (j := i) (r := .dat d) g1).set (j := j) (r := .dat e) g2) q
theorem s_unp2 {i j : Nat} (h : EvW K te O ds fun r O1 => ∃ d e, r = .dat (.tuple [d, e]) ∧ A.nx O1 ((ds.set i (.dat d)).set j (.dat e))) : StW K (tAsg te (gTup K 2 (gCons (gName i) (gCons (gName j) gNil)))) O ds A := fun Hk σ H D p l =>
  h Hk σ H p _ fun v r O1 Hk1 H1 e1 h1 s1 q1 => by
    obtain ⟨d, e, rfl, q⟩ := q1
    exact unp2_go (p.ext e1 h1) s1 e1 l.nx q
theorem sx_unp2 {i j : Nat} (hW : ∀ Hk, A.xt Hk → KonW K Hk Qs W) (h : EvX K W Qs te O ds fun r O1 => ∃ d e, r = .dat (.tuple [d, e]) ∧ A.nx O1 ((ds.set i (.dat d)).set j (.dat e))) : StW K (tAsg te (gTup K 2 (gCons (gName i) (gCons (gName j) gNil)))) O ds A := fun Hk σ H D p l =>
  h Hk σ H p (hW Hk (l.xt Hk (Same.refl _))) _ fun v r O1 Hk1 H1 e1 h1 s1 q1 => by
    obtain ⟨d, e, rfl, q⟩ := q1
    exact unp2_go (p.ext e1 h1) s1 e1 l.nx q
/-! ### raise -/
/-- raise X('..'), X without an __init__ -/
def tRz (C : Addr) (W : WX) : TS := fun _ σ H => W (.ref C) none σ H
theorem s_rz {C : Addr} (hW : ∀ Hk, A.xt Hk → KonW K Hk Qs W) (q : Qs C none O ds) : StW K (tRz C W) O ds A := fun Hk σ H D p l =>
  hW Hk (l.xt Hk (Same.refl _)) (.ref C) none C none σ O ds Hk H (Same.refl _) p ⟨rfl, rfl⟩ q
/-- self.f = v of an exception that is being made: its __init__ -/
def spIni (C : Addr) (f : Str) : Sp := fun vs H Q _ => ∃ (a : Addr) (v : V), vs = [.ref a, v] ∧ H a = some (exo a C none) ∧ ∀ dx, H dx = none → dx ≠ a → Q .non (upd (upd H dx (exd dx [(f, v)])) a (exo a C (some dx)))
/-- raise X(e), X's __init__ keeps e as its field f -/
def tRzI (C : Addr) (f : Str) (W : WX) (ta : TA) : TS := fun _ σ H => tMkO C (spIni C f) [] ta σ H fun cls d H' => W cls d σ H'
theorem s_rzI {C : Addr} {f : Str} (hW : ∀ Hk, A.xt Hk → KonW K Hk Qs W) (h : AvW K ta O ds fun rs O1 => ∃ d, rs = [.dat d] ∧ Qs C (some (f, d)) O1 ds) : StW K (tRzI C f W ta) O ds A := fun Hk σ H D p l =>
  h Hk σ H p _ fun vs rs O1 Hk1 H1 e1 h1 s1 q1 => by
    obtain ⟨x, rfl, q⟩ := q1
    obtain ⟨v, rfl, hv⟩ := all1 s1
    refine ⟨Nat.le_of_ble_eq_true rfl, fun a ha => ⟨a, v, rfl, upd_same, fun dx hdx hne => ⟨rfl, dx, [(f, v)], upd_same, by rw [upd_ne hne]; exact upd_same, ?_, ?_⟩⟩⟩
    · rw [upd_ne hne] at hdx
      exact hdx
    · rw [upd_ne hne] at hdx
      have eH : upd (del (upd (upd (upd H1 a (exo a C none)) dx (exd dx [(f, v)])) a (exo a C (some dx))) a) dx (.xd [(f, v)]) = upd H1 dx (.xd [(f, v)]) := by
        funext b
        by_cases hb : b = dx
        · rw [hb, upd_same, upd_same]
        · rw [upd_ne hb, upd_ne hb]
          by_cases hba : b = a
          · rw [hba, del_same, ha]
          · rw [del_ne hba, upd_ne hba, upd_ne hb, upd_ne hba]
      rw [eH]
      have sm : Same Hk1 (upd Hk1 dx (.xd [(f, v)])) := same_new (h1.kn.free hdx)
      exact hW Hk (l.xt Hk (Same.refl _)) (.ref C) (some dx) C (some (f, x)) σ O1 ds _ _ (e1.trans sm) (p.ext (e1.trans sm) (h1.know hdx)) ⟨rfl, dx, v, rfl, upd_same, Da.mono sm hv⟩ q
/-! ### try .. except X as n -/
/-- try .. except X as n -/
def tTry (K : PySem.W.Frag) (c : Value) (i : Nat) (tb : WX → TS) (ts : Addr → Value → Option Addr → TS) (Wout : WX) : TS := fun D σ H => tb (wAs K c i ts Wout D) D σ H
theorem s_try {c : Value} {i : Nat} {tb : WX → TS} {ts : Addr → Value → Option Addr → TS} {Wout : WX} (Qs : Addr → Option (Str × PyData) → Own → List SD → Prop)
    (hb : ∀ W : WX, StW K (tb W) O ds { A with xt := fun Hk => KonW K Hk Qs W })
    (hs : ∀ C fs O2 ds2, Qs C fs O2 ds2 → PySem.W.exmOne K (.ref C) c = some true ∧ ∀ (a : Addr) (cls : Value) (d : Option Addr), ∀ B : AE,
      (∀ O3 ds3, A.nx O3 (ds3.set i .non) → B.nx O3 ds3) → (∀ r O3, A.rt r O3 → B.rt r O3) → (∀ O3 ds3, A.bk O3 (ds3.set i .non) → B.bk O3 ds3) → (∀ O3 ds3, A.ct O3 (ds3.set i .non) → B.ct O3 ds3) →
      StW K (ts a cls d) O2 (ds2.set i (.exc a cls d C fs)) B) : StW K (tTry K c i tb ts Wout) O ds A := fun Hk σ H D p l => by
  have setN : ∀ {Hk2 H2 : Hp} {σ2 : L2.St} {O2 : Own} {ds2 : List SD}, Pt K Hk2 O2 ds2 σ2 H2 → Pt K Hk2 O2 (ds2.set i .non) (σ2.set i none) H2 := fun {Hk2 H2 σ2 O2 ds2} p2 =>
    ⟨p2.hold, by rw [List.length_set, List.length_set, p2.len], fun j r hr => by
      by_cases hj : j = i
      · subst hj
        have hl : j < (ds2.set j SD.non).length := (List.getElem?_eq_some_iff.mp hr).1
        rw [List.length_set] at hl
        rw [List.getElem?_set_self hl] at hr
        cases hr
        exact .inl rfl
      · rw [List.getElem?_set_ne (Ne.symm hj)] at hr
        rw [List.getElem?_set_ne (Ne.symm hj)]
        exact p2.env j r hr⟩
  refine hb (wAs K c i ts Wout D) Hk σ H D p ⟨l.nx, l.rt, l.bk, l.ct, fun Hk' e' cls d C fs σ2 O2 ds2 Hk2 H2 e2 p2 ok q => ?_⟩
  obtain ⟨ec, hsu⟩ := hs C fs O2 ds2 q
  have ec2 := ok.1
  subst ec2
  refine ⟨true, ec, fun _ a ha => ?_, fun z => Bool.noConfusion z⟩
  have e := e'.trans e2
  refine hsu a (.ref C) d ⟨fun O3 ds3 => A.nx O3 (ds3.set i .non), A.rt, fun O3 ds3 => A.bk O3 (ds3.set i .non), fun O3 ds3 => A.ct O3 (ds3.set i .non), fun _ => True⟩ (fun _ _ z => z) (fun _ _ z => z) (fun _ _ z => z) (fun _ _ z => z)
    Hk2 _ H2 _ (p2.set (j := i) (r := .exc a (.ref C) d C fs) (v := .ref a) ⟨rfl, ok⟩) ⟨fun O3 ds3 Hk3 σ3 H3 e3 p3 q3 => l.nx O3 _ Hk3 _ H3 (e.trans e3) (setN p3) q3, l.rt.ext e, fun O3 ds3 Hk3 σ3 H3 e3 p3 q3 => l.bk O3 _ Hk3 _ H3 (e.trans e3) (setN p3) q3,
      fun O3 ds3 Hk3 σ3 H3 e3 p3 q3 => l.ct O3 _ Hk3 _ H3 (e.trans e3) (setN p3) q3, fun _ _ => True.intro⟩
/-- e.f of a caught error -/
theorem w_exc {i : Nat} {a C : Addr} {cls : Value} {d : Option Addr} {fs : Option (Str × PyData)} (h : ds[i]? = some (.exc a cls d C fs)) (q : Q (.exc a cls d C fs) O) : EvW K (tVar i) O ds Q := w_var h (fun z => nomatch z) q
theorem w_xf {a C : Addr} {cls : Value} {d : Option Addr} {f : Str} (h : EvW K te O ds fun r O1 => ∃ x, r = .exc a cls d C (some (f, x)) ∧ Q (.dat x) O1) : EvW K (tXf a cls d C f te) O ds Q := fun Hk σ H p Q' k =>
  h Hk σ H p _ fun v r O1 Hk1 H1 e1 h1 s1 q1 => by
    obtain ⟨x, rfl, q⟩ := q1
    obtain ⟨rfl, rfl, dd, v, rfl, g1, g2⟩ := s1
    exact ⟨rfl, rfl, dd, _, v, rfl, h1.kn _ _ g1, by simp [List.lookup], k _ (.dat x) O1 Hk1 H1 e1 h1 g2 q⟩
end
/-- isinstance(e, c), e a caught error (its own dict or none) -/
def rIsX (K : PySem.W.Frag) (a : Addr) (cls : Value) (d : Option Addr) : List V → Hp → VK → Prop := fun xs H Q => ∃ (C : Addr) (c : V) (cv : Value) (b : Bool), cls = .ref C ∧ ExcC K C ∧ (d = none ∨ ∃ dd fs, d = some dd ∧ H dd = some (.xd fs)) ∧ xs = [.ref a, c] ∧ (∀ u, RelV c u → u = cv) ∧ PySem.W.kitOne K (.ref C) cv = some b ∧ Q (.bl b) H
theorem any_isSome {K : PySem.W.Frag} {C : Addr} (h : PySem.W.hasDictIn K C = true) : (PySem.W.clsIn K C).isSome = true := by
  unfold PySem.W.hasDictIn at h
  cases e : PySem.W.clsIn K C with
  | none => rw [e] at h; cases h
  | some _ => rfl
theorem call_isX {X : Cx} {a : Addr} {cls : Value} {d : Option Addr} {oe : Obj} {pn : List (Addr × Obj)} (hz : Zc cls d oe) (hf : ∃ vs, oe.data = .fields vs) : CallR (X.suite a ((a, oe) :: pn)) (.builtin "isinstance") (rIsX X.K a cls d) := by
  intro pins s σ H xs us Q I r h
  obtain ⟨C, c, cv, b, rfl, T, hd, rfl, hcv, e, q⟩ := h
  cases r with
  | cons rx rr =>
    cases rr with
    | cons rt rr =>
      cases rr
      cases rx
      have ec := hcv _ rt
      subst ec
      obtain ⟨hget, _⟩ := I.pin (a, oe) (List.mem_append.mpr (.inl List.mem_cons_self))
      obtain ⟨vs, hv⟩ := hf
      have J : ∃ od, PySem.W.InstAt s.heap a oe C od := by
        rcases hd with hd | ⟨dd, fs, hd, hx⟩
        · refine ⟨none, hget, hz.1, by unfold PySem.W.notCls; rw [hv] <;> rfl, ?_⟩
          rw [hz.2, hd]
          trivial
        · have hx' : ObjOk X.prog X.w H s.heap dd (.xd fs) := I.hok dd _ hx
          obtain ⟨mA, hns, hr⟩ := hx'
          obtain ⟨od, ho, hl⟩ := lookIn_ns hns
          exact ⟨some od, hget, hz.1, by unfold PySem.W.notCls; rw [hv] <;> rfl, by rw [hz.2, hd]; exact ho⟩
      obtain ⟨od, J⟩ := J
      exact PySem.W.kia_one (PySem.W.kitx_exc (any_isSome T.hd) T.hg T.hk T.hs T.ha T.hn T.ht T.hm) I.kIn J e (fun z => nomatch z) fun tk => ⟨.bl b, H, I.kept (t' := tk) fun _ _ z => z, rfl, q⟩
section
variable {K : PySem.W.Frag} {O : Own} {Q : SD → Own → Prop} {ds : List SD} {A : AE}
theorem g_isX {a C C' : Addr} {cls : Value} {d : Option Addr} {fs : Option (Str × PyData)} {b : Bool} (T : ExcC K C) (e : PySem.W.kitOne K (.ref C) (.ref C') = some b) (q : Q (bV b) O) : CbW K (rIsX K a cls d) [.exc a cls d C fs, .ad C'] O Q := fun Hk H h us hus Q' k => by
  obtain ⟨u, v, rfl, hu, hv⟩ := all2 hus
  cases (show v = .ref C' from hv)
  obtain ⟨rfl, rfl, hx⟩ := hu
  refine ⟨C, .ref C', .ref C', b, rfl, T, ?_, rfl, fun u r => r, e, k.now h (r := bV _) (.bl _) q⟩
  cases fs with
  | none => exact .inl hx
  | some p =>
    obtain ⟨dd, v, h1, h2, h3⟩ := hx
    exact .inr ⟨dd, _, h1, h.kn _ _ h2⟩
theorem g_isXT {a C : Addr} {n : String} {cls : Value} {d : Option Addr} {fs : Option (Str × PyData)} {b : Bool} (T : ExcC K C) (e : PySem.W.kitOne K (.ref C) (.type n) = some b) (q : Q (bV b) O) : CbW K (rIsX K a cls d) [.exc a cls d C fs, .ty n] O Q := fun Hk H h us hus Q' k => by
  obtain ⟨u, v, rfl, hu, hv⟩ := all2 hus
  cases (show v = .ty n from hv)
  obtain ⟨rfl, rfl, hx⟩ := hu
  refine ⟨C, .ty n, .type n, b, rfl, T, ?_, rfl, fun u r => r, e, k.now h (r := bV _) (.bl _) q⟩
  cases fs with
  | none => exact .inl hx
  | some p =>
    obtain ⟨dd, v, h1, h2, h3⟩ := hx
    exact .inr ⟨dd, _, h1, h.kn _ _ h2⟩
/-! ### dicts that are known -/
/-- {'k': e} as data -/
theorem w_dic1 {f : Str} {tv : TE} (h : ∀ pn, EvW K tv ((pn, .dK []) :: O) ds fun r O1 => ∃ d Oa, r = .dat d ∧ O1 = (pn, .dK []) :: Oa ∧ Q (.dic [(.inr f, d)]) Oa) : EvW K (tDisp [(tC (.str f), tv)]) O ds Q := fun Hk σ H p Q' k pn hf => by
  have h0 := p.hold.ownG (p := pn) (o := .dK []) (x := .dK []) hf ⟨[], upd_same, rfl, .nil⟩
  show tv σ (upd H pn (.dK [])) _
  refine h pn Hk σ _ ⟨h0, p.len, p.env⟩ _ fun v r O1 Hk1 H1 e1 h1 s1 q1 => ?_
  obtain ⟨d, Oa, rfl, rfl, q⟩ := q1
  obtain ⟨⟨vs, g1, g2, g3⟩, g4⟩ := h1.ow (pn, .dK []) List.mem_cons_self
  have e0 : vs = [] := by
    cases vs with
    | nil => rfl
    | cons a b => cases g2
  subst e0
  refine ⟨g1, [(.inr f, v)], rfl, Nat.le_of_ble_eq_true rfl, ?_⟩
  show Q' (.ref pn) (upd H1 pn (.dK [(.inr f, v)]))
  have nd := h1.nd
  rw [List.map_cons, List.nodup_cons] at nd
  have sm : Same Hk1 (upd Hk1 pn (.dK [(.inr f, v)])) := same_new g4
  refine k _ (.dic [(.inr f, d)]) Oa (upd Hk1 pn (.dK [(.inr f, v)])) _ (e1.trans sm) ⟨fun b y e => ?_, fun q hq => ?_, nd.2⟩ ⟨pn, [(.inr f, v)], rfl, upd_same, rfl, .cons (Da.mono sm s1) .nil⟩ q
  · by_cases hb : b = pn
    · subst hb
      rw [upd_same] at e ⊢
      exact e
    · rw [upd_ne hb] at e ⊢
      exact h1.kn b y e
  · have ne : q.1 ≠ pn := fun z => nd.1 (z ▸ List.mem_map.mpr ⟨q, hq, rfl⟩)
    obtain ⟨h5, h6⟩ := h1.ow q (List.mem_cons_of_mem _ hq)
    exact ⟨h5.mono sm (upd_ne ne), by rw [upd_ne ne]; exact h6⟩
end
/-- one of two readings -/
def rOr (r r' : R2) : R2 := fun x y H Q => r x y H Q ∨ r' x y H Q
theorem op_or {X : Cx} {f : Value → Value → Sem Value} {r r' : R2} (h : OpR X f r) (h' : OpR X f r') : OpR X f (rOr r r') := by
  intro pins s σ H x y v u Q I rx ry z
  rcases z with z | z
  · exact h pins s σ H x y v u Q I rx ry z
  · exact h' pins s σ H x y v u Q I rx ry z
section
variable {K : PySem.W.Frag} {O : Own} {Q : SD → Own → Prop} {ds : List SD} {A : AE} {x y : SD} {r r' : R2}
theorem o_orL (h : OpW K r x y O Q) : OpW K (rOr r r') x y O Q := fun Hk H hh u v hu hv Q' k => .inl (h Hk H hh u v hu hv Q' k)
theorem o_orR (h : OpW K r' x y O Q) : OpW K (rOr r r') x y O Q := fun Hk H hh u v hu hv Q' k => .inr (h Hk H hh u v hu hv Q' k)
def flatD : PyData → Bool
  | .none => true | .bool _ => true | .int _ => true | .str _ => true | _ => false
theorem flat_of {H : Hp} {v : V} {d : PyData} (h : Da H v d) (hd : flatD d = true) : flatB v = true := by
  cases h <;> first | rfl | cases hd
/-- flat data is one thing -/
theorem flat_one {H : Hp} {v w : V} {d : PyData} (h : Da H v d) (h' : Da H w d) (hd : flatD d = true) : v = w := by
  cases h <;> first | (cases h'; rfl) | cases hd
/-- {'k': d} != {'k': d} -/
theorem o_neDic1 {f : Key} {d : PyData} (hd : flatD d = true) (q : Q (bV false) O) : OpW K rNeDA (.dic [(f, d)]) (.dic [(f, d)]) O Q := fun Hk H h u v hu hv Q' k => by
  obtain ⟨a, vs, rfl, g1, g2, g3⟩ := hu
  obtain ⟨b, ws, rfl, j1, j2, j3⟩ := hv
  match vs, ws, g2, j2, g3, j3 with
  | [(k1, v1)], [(k2, w1)], g2, j2, .cons g3 _, .cons j3 _ =>
    have e1 : k1 = f := by injection g2
    have e2 : k2 = f := by injection j2
    subst e1
    subst e2
    have e3 := flat_one g3 j3 hd
    have e3' : v1 = w1 := e3
    subst e3'
    refine ⟨a, b, _, _, rfl, rfl, h.kn _ _ g1, h.kn _ _ j1, rfl, fun p hp => ?_, k.now h (r := bV false) (.bl _) q⟩
    obtain rfl := List.mem_singleton.mp hp
    exact ⟨by simp [valV], flat_of g3 hd⟩
theorem i_Dic {kvs : List (Key × PyData)} {n : String} {b : Bool} (hb : kitB "dict" n = some b) (q : Q (bV b) O) : CbW K (rIsi K) [.dic kvs, .ty n] O Q := fun Hk H h us hus Q' k => by
  obtain ⟨u, v, rfl, hu, hv⟩ := all2 hus
  cases (show v = .ty n from hv)
  obtain ⟨a, vs, rfl, g1, g2, g3⟩ := hu
  exact ⟨_, .ty n, _, _, b, rfl, .ty n, .base (.dK (h.kn _ _ g1)), kit_ty hb, k.now h (r := bV _) (.bl _) q⟩
theorem w_vDic {i : Nat} {kvs : List (Key × PyData)} (h : ds[i]? = some (.dic kvs)) (q : Q (.dic kvs) O) : EvW K (tVar i) O ds Q := w_var h (fun z => nomatch z) q
end
end Wk
namespace Wk
open PySem PySem.Spec PyProof.Rows L2
/-! ### a def that may raise; the classes of errors -/
section
variable {P : Program} {w : World} {K : PySem.W.Frag} {mg : Str → Option Value} {base : Heap}
/-- the wish of a def's own errors -/
def wE (E : XK) : WX := fun cls d _ H => E cls d H
theorem KonX.toW {Hk : Hp} {Qx : Addr → Option (Str × PyData) → Own → Prop} {E : XK} (k : KonX K Hk Qx E) : KonW K Hk (fun C fs O _ => Qx C fs O) (wE E) := fun cls d C fs σ O2 ds2 Hk2 H2 e p ok q => k cls d C fs O2 Hk2 H2 e p.hold ok q
theorem fnx_ok {x qual : Str} {st : Stmt} {f : Addr} {fd : FuncData} {N ps : List Str} {k : Nat} {pre : List SD → Own → (SD → Own → Prop) → (Addr → Option (Str × PyData) → Own → Prop) → Prop} (F : Fun K x qual st f fd) (S : FnScope N ps (defScope st)) (len : ∀ rs O Q Qx, pre rs O Q Qx → rs.length = ps.length)
    (hbody : ∀ (cdv : Value) (A : Around) (outer : List Env) (s : Shared) (H : Hp) (E : XK), Room k (A.deeper (envOfC qual (defScope st) s.heap.objs.size f cdv)) →
      ∃ t, PSs (cxOf (L2.CX P w) P w K mg base N qual (defScope st) f cdv A outer s H E) (defBody st) t ∧ ∀ rs O Q Qx, pre rs O Q Qx →
        StW K t O (rs ++ List.replicate (N.length - rs.length) .non) ⟨fun O _ => Q (.dat .none) O, Q, fun _ _ => False, fun _ _ => False, fun Hk => KonW K Hk (fun C fs O _ => Qx C fs O) (wE E)⟩) :
    FnOk P w K mg base (L2.CX P w) (k + 1) f fd ps (spX K pre) :=
  F.okX S (fun vs H Q E ⟨Hk, O, rs, Q0, Qx, h, hv, hp, kk, kx⟩ => by rw [hv.length]; exact len rs O Q0 Qx hp) fun cdv A outer s H vs Q E hr ⟨Hk, O, rs, Q0, Qx, h, hv, hp, kk, kx⟩ => by
    obtain ⟨t, ht, hs⟩ := hbody cdv A outer s H E hr
    exact ⟨t, ht, hs rs O Q0 Qx hp Hk _ H _ (start_pt h hv) ⟨fun O2 ds2 Hk2 σ2 H2 e p2 q => kk _ (.dat .none) O2 Hk2 H2 e p2.hold .non q, kk, fun O2 ds2 Hk2 σ2 H2 e p2 q => q.elim, fun O2 ds2 Hk2 σ2 H2 e p2 q => q.elim, fun Hk2 e2 => (kx.ext e2).toW⟩⟩
def CalleeX (P : Program) (w : World) (K : PySem.W.Frag) (mg : Str → Option Value) (base : Heap) (x : Str) (ps : List Str) (k : Nat) (pre : List SD → Own → (SD → Own → Prop) → (Addr → Option (Str × PyData) → Own → Prop) → Prop) : Prop :=
  ∃ f fd, FnOk P w K mg base (L2.CX P w) k f fd ps (spX K pre) ∧ mg x = some (.ref f) ∧ PySem.W.keepIn K (.ref f) = true ∧ Binds K fd ps [] ∧ ∃ oc od sl, K.lookup f = some ⟨oc, od, .func fd, sl⟩
end
/-- a class of errors of the program -/
structure ExS (K : PySem.W.Frag) (mg : Str → Option Value) (x : Str) (C : Addr) : Prop where
  g : mg x = some (.ref C)
  k : PySem.W.keepIn K (.ref C) = true
  is : ExcC K C
  ty : PySem.W.typeIn K (.ref C) = some (.type "type")
theorem ExS.names {K : PySem.W.Frag} {mg : Str → Option Value} {x : Str} {C : Addr} (E : ExS K mg x C) {X : Cx} (hm : X.mg = mg) (hg : Gl X x) (hd : (x == ("__debug__" : Str)) = false) : Names X x (.ref C) := ⟨hg, hd, .inl (by rw [hm]; exact E.g)⟩
theorem ExS.xf {K : PySem.W.Frag} {mg : Str → Option Value} {x : Str} {C : Addr} (E : ExS K mg x C) : XfC K C := ⟨E.is.hg, E.is.hk, E.is.hs, E.is.hd⟩
theorem ExS.exm {K : PySem.W.Frag} {mg : Str → Option Value} {x : Str} {C : Addr} (E : ExS K mg x C) {cls : Value} {b : Bool} (h : PySem.W.subIn K cls (.ref C) = some b) : PySem.W.exmOne K cls (.ref C) = some b := PySem.W.exm_ref E.is.hs E.is.hd E.ty h
abbrev veAll : List Value := [.type "ValueError", .type "Exception", .type "BaseException", .type "object"]
structure ExN (K : PySem.W.Frag) (mg : Str → Option Value) (x : Str) (C : Addr) : Prop where
  s : ExS K mg x C
  ex : PySem.W.excIn K C veAll "ValueError.__new__" = true
/-- .. with an __init__ that keeps its argument as the field f -/
structure ExI (P : Program) (w : World) (K : PySem.W.Frag) (mg : Str → Option Value) (base : Heap) (x f : Str) (C : Addr) : Prop where
  s : ExS K mg x C
  o : OexC K C
  no : PySem.W.findIn K (.ref C) f = some none
  ic : ∃ fI fd, PySem.W.findIn K (.ref C) "__init__" = some (some (.ref fI)) ∧ PySem.W.typeIn K (.ref fI) = some (.type "function") ∧ FnOk P w K mg base CX0 1 fI fd ["self", f] (spIni C f) ∧ Binds K fd ["self", f] []
theorem ini_ok {P : Program} {w : World} {K : PySem.W.Frag} {mg : Str → Option Value} {base : Heap} {x qual f : Str} {st : Stmt} {fI C : Addr} {fd : FuncData} (T : OexC K C) (no : PySem.W.findIn K (.ref C) f = some none) (F : Fun K x qual st fI fd) (S : FnScope ["self", f] ["self", f] (defScope st))
    (hb : ∀ (cdv : Value) (A : Around) (outer : List Env) (s : Shared) (H : Hp) (E : XK), PSs (cxOf CX0 P w K mg base ["self", f] qual (defScope st) fI cdv A outer s H E).nox (defBody st) (tOst K f (tVar 0) (tVar 1))) : FnOk P w K mg base CX0 1 fI fd ["self", f] (spIni C f) :=
  F.ok (k := 0) S (fun vs H Q E ⟨a, v, e, _⟩ => by rw [e]; rfl) fun cdv A outer s H vs Q E hr ⟨a, v, e, ha, k⟩ => by
    subst e
    exact ⟨_, hb cdv A outer s H E, v, rfl, .ref a, rfl, a, C, rfl, T, no, .inl ⟨ha, fun dx h1 h2 => k dx h1 h2⟩⟩
section
variable {X : Cx} {K : PySem.W.Frag} {W : WX}
theorem psRz {x m : Str} {j : Nat} {p p2 pos pos2 : Pos} {C : Addr} (T : ExN K X.mg x C) (hc : X.calm = true) (tk : Takes X W) (hg : Gl X x) (hK : X.K = K := by rfl) (hdb : (x == ("__debug__" : Str)) = false := by decide) :
    PS X (.Raise (some (.Call (.Name x p) [.Constant (.str m) j p2] [] pos)) none pos2) (tRz C W) := by
  subst hK
  exact ps_raise hc tk (pmk_own PySem.F.excBase_ValueError T.ex T.s.g T.s.k (raises_own T.s.is.hs T.s.ty) hg hdb)
theorem psRzI {x f : Str} {e : Expr} {p pos pos2 : Pos} {C : Addr} {ta : TA} (T : ExI X.prog X.w K X.mg X.base x f C) (hc : X.calm = true) (tk : Takes X W) (hr : Room 2 X.A) (hg : Gl X x) (ha : PA X [e] ta) (hK : X.K = K := by rfl) (hdb : (x == ("__debug__" : Str)) = false := by decide)
    (he : starEach [e] X.env = (false, eval e X.env) :: starEach [] X.env := by rfl) (hpl : (backTo pos (starEach [] X.env)).any (·.1) = false := by rfl) :
    PS X (.Raise (some (.Call (.Name x p) [e] [] pos)) none pos2) (tRzI C f W ta) := by
  subst hK
  obtain ⟨fI, fd, h1, h2, h3, h4⟩ := T.ic
  exact ps_raise hc tk (pmk_oex T.o h1 h2 h3 hr h4 .nil pass0 hg T.s.g ha hdb he hpl)
theorem psTry {x n : Str} {C : Addr} {i : Nat} {body suite : List Stmt} {b₀ : Stmt} {np pos pos' : Pos} {tb : WX → TS} {ts : Addr → Value → Option Addr → TS} {Wout : WX}
    (hb : ∀ (W : WX) (pn : List (Addr × Obj)) (xe : Value → Shared → Prop), Takes (X.tr pn xe) W → PSs (X.tr pn xe) body (tb W))
    (hsu : ∀ (a : Addr) (oe : Obj) (cls : Value) (d : Option Addr) (pn : List (Addr × Obj)), Zc cls d oe → (∃ vs, oe.data = .fields vs) → PSs (X.suite a ((a, oe) :: pn)) (b₀ :: suite) (ts a cls d))
    (hs : X.stack = X.env :: X.outer) (hf : X.env.frame = some X.env.locals) (hN : X.N.Nodup) (hi : X.N[i]? = some n) (hln : X.env.kindOf n = some .local) (hc : Names X x (.ref C)) (tk : Takes X Wout) (hK : X.K = K := by rfl) :
    PS X (.Try body [.ExceptHandler (some (.Name x np)) (some n) (b₀ :: suite) pos'] [] [] pos) (tTry K (.ref C) i tb ts Wout) := by
  subst hK
  exact ps_try_as hs hf hN hi hln hc tk (fun W pn xe t _ => hb W pn xe t) hsu
theorem kIsX {a : Addr} {cls : Value} {d : Option Addr} {oe : Obj} {pn : List (Addr × Obj)} (hz : Zc cls d oe) (hf : ∃ vs, oe.data = .fields vs) (hK : X.K = K := by rfl) : CallR (X.suite a ((a, oe) :: pn)) (.builtin "isinstance") (rIsX K a cls d) := by
  subst hK
  exact call_isX hz hf
theorem psXf {a C : Addr} {oe : Obj} {cls : Value} {d : Option Addr} {pn : List (Addr × Obj)} {e : Expr} {te : TE} {pos : Pos} {n x : Str} {mg : Str → Option Value} (T : ExS K mg x C) (hno : PySem.W.findIn K (.ref C) n = some none)
    (hz : Zc cls d oe) (hf : ∃ vs, oe.data = .fields vs) (he : PE (X.suite a ((a, oe) :: pn)) e te) (hK : X.K = K := by rfl) (hb : attributeBase e n X.env (eval e X.env) = eval e X.env := by rfl) :
    PE (X.suite a ((a, oe) :: pn)) (.Attribute e n pos) (tXf a cls d C n te) := by
  subst hK
  exact pe_xf T.xf hno hz hf he hb
end
end Wk
namespace Wk
open PySem PySem.Spec PyProof.Rows L2
/-! ### what is owned, said otherwise; tuples that hold what is owned; a loop over an owned list -/
def Cv (K : PySem.W.Frag) (O O' : Own) : Prop := ∀ Hk H, Hold K Hk O H → ∃ Hk', Same Hk Hk' ∧ Hold K Hk' O' H
section
variable {K : PySem.W.Frag} {Hk Hk' H H' : Hp} {O O' Oa : Own} {ds : List SD} {σ : L2.St} {Q : SD → Own → Prop} {Q' : VK} {x y : SD} {A : AE} {D : Ends} {t u : TS} {te : TE} {ta : TA} {d e : PyData}
theorem Cv.refl : Cv K O O := fun Hk H h => ⟨Hk, Same.refl _, h⟩
theorem Cv.trans {O2 : Own} (a : Cv K O O') (b : Cv K O' O2) : Cv K O O2 := fun Hk H h => by
  obtain ⟨Hk1, e1, h1⟩ := a Hk H h
  obtain ⟨Hk2, e2, h2⟩ := b Hk1 H h1
  exact ⟨Hk2, e1.trans e2, h2⟩
theorem Cv.perm (s : O.Perm O') : Cv K O O' := fun Hk H h => ⟨Hk, Same.refl _, h.perm s⟩
theorem Cv.sub (s : List.Sublist O' O) : Cv K O O' := fun Hk H h => ⟨Hk, Same.refl _, h.sub s⟩
theorem w_cv (h : EvW K te O ds fun r O1 => ∃ O2, Cv K O1 O2 ∧ Q r O2) : EvW K te O ds Q := fun Hk σ H p Q' k =>
  h Hk σ H p _ fun v r O1 Hk1 H1 e1 h1 s1 q1 => by
    obtain ⟨O2, c, q⟩ := q1
    obtain ⟨Hk2, e2, h2⟩ := c Hk1 H1 h1
    exact k v r O2 Hk2 H1 (e1.trans e2) h2 (s1.mono e2) q
theorem s_cv (c : Cv K O O') (h : StW K t O' ds A) : StW K t O ds A := fun Hk σ H D p l => by
  obtain ⟨Hk2, e2, h2⟩ := c Hk H p.hold
  exact h Hk2 σ H D (p.ext e2 h2) (l.ext e2)
theorem SDall.split : ∀ {us : List SD} {vs : List V} {ws : List SD}, SDall K Hk vs (us ++ ws) → ∃ v1 v2, vs = v1 ++ v2 ∧ SDall K Hk v1 us ∧ SDall K Hk v2 ws
  | [], vs, ws, h => ⟨[], vs, rfl, .nil, h⟩
  | u :: us, _, ws, h => by
    rw [List.cons_append] at h
    cases h with
    | cons a r =>
      obtain ⟨v1, v2, rfl, h1, h2⟩ := SDall.split r
      exact ⟨_ :: v1, v2, rfl, .cons a h1, h2⟩
/-- an owned list of data within an owned list becomes data -/
theorem Cv.frzIn {c a : Addr} {us ws rs : List SD} {es : List PyData} (hd : Dats rs es) : Cv K ((c, .lst (us ++ .ad a :: ws)) :: (a, .lst rs) :: O) ((c, .lst (us ++ .dat (.list es) :: ws)) :: O) := fun Hk H h => by
  obtain rfl := hd.eq
  obtain ⟨Hk2, e2, h2, d2⟩ := (h.perm (.swap ..)).freeze
  obtain ⟨⟨vs, g1, g2⟩, _⟩ := h2.ow _ List.mem_cons_self
  obtain ⟨v1, v2, rfl, s1, s2⟩ := g2.split
  cases s2 with
  | cons s3 s4 =>
    cases (show _ = V.ref a from s3)
    exact ⟨Hk2, e2, h2.tell ⟨_, g1, s1.append (.cons d2 s4)⟩⟩
/-- a tuple that holds what is owned -/
theorem w_tupO (h : AvW K ta O ds fun rs O1 => rs.length ≤ sizeLine ∧ ∀ l, Q (.ad l) ((l, .tup rs) :: O1)) : EvW K (tTup ta) O ds Q := fun Hk σ H p Q' k =>
  h Hk σ H p _ fun vs rs O1 Hk1 H1 e1 h1 s1 q1 => by
    obtain ⟨hl, q⟩ := q1
    exact ⟨by rw [s1.length]; exact hl, fun l hp => k _ (.ad l) _ Hk1 _ e1 (h1.ownG (x := .tup rs) hp ⟨vs, upd_same, s1⟩) rfl (q l)⟩
theorem o_ixTO {a : Addr} {rs : List SD} {i : Int} {d : SD} (hm : (a, OD.tup rs) ∈ O) (ha : atI rs i = some d) (q : Q d O) : OpW K (rIxT K) (.ad a) (iV i) O Q := fun Hk H h u v hu hv Q' k => by
  cases (show Da Hk v (.int i) from hv)
  cases (show u = .ref a from hu)
  obtain ⟨⟨vs, h1, h2⟩, _⟩ := h.ow _ hm
  obtain ⟨j, e1, e2⟩ := atI_get ha
  obtain ⟨w, g1, g2⟩ := h2.get e2
  exact ⟨a, vs, i, w, rfl, rfl, .inl (.inl h1), atI_of (by rw [h2.length]; exact e1) g1, k.now h g2 q⟩
theorem i_TO {a : Addr} {rs : List SD} {n : String} {b : Bool} (hm : (a, OD.tup rs) ∈ O) (hb : kitB "tuple" n = some b) (q : Q (bV b) O) : CbW K (rIsi K) [.ad a, .ty n] O Q := fun Hk H h us hus Q' k => by
  obtain ⟨u, v, rfl, hu, hv⟩ := all2 hus
  cases (show v = .ty n from hv)
  cases (show u = .ref a from hu)
  obtain ⟨⟨vs, h1, h2⟩, _⟩ := h.ow _ hm
  exact ⟨_, .ty n, _, _, b, rfl, .ty n, .base (.tup h1), kit_ty hb, k.now h (r := bV _) (.bl _) q⟩
theorem VD.ot {a : Addr} {rs : List SD} {es : List PyData} (hm : (a, OD.tup rs) ∈ O) (hv : VDs K O rs es) : VD K O (.ad a) (.tuple es) := fun Hk H h u hu => by
  obtain ⟨⟨vs, h1, h2⟩, _⟩ := h.ow _ hm
  cases (show u = .ref a from hu)
  exact .tup h1 (hv.all h h2)
/-- [e for x in xs if t] over an owned list -/
theorem w_lcX {tl : TE} {j : Nat} {tt : TT} {te : TE} (h : EvW K tl O ds fun r O1 => ∃ a rs Oa, r = .ad a ∧ O1.Perm ((a, OD.lst rs) :: Oa) ∧ rs.length ≤ 1000000 ∧ ∀ vs : List V, ∃ I : Nat → List SD → Own → Prop, I 0 [] ((a, .lstX vs rs) :: Oa) ∧
    (∀ i acc O2, I i acc O2 → (a, OD.lstX vs rs) ∈ O2) ∧
    (∀ (i : Nat) r acc O2, rs[i]? = some r → acc.length ≤ i → I i acc O2 → LcTurn K tt te O2 (ds.set j r) acc (I (i + 1))) ∧ ∀ acc O2 Dl, I rs.length acc O2 → ∃ Ob, O2.Perm ((a, OD.lstX vs rs) :: Ob) ∧ Q (.ad Dl) ((Dl, .lst acc) :: (a, .lst rs) :: Ob)) : EvW K (tLc (iList K tl) (gName j) tt te [j]) O ds Q := fun Hk σ H p Q' k =>
  h Hk σ H p _ fun v rs O1 Hk1 H1 e1 h1' s1 q1 => by
    obtain ⟨a, rs, Oa, rfl, hp, hn, q1⟩ := q1
    cases (show v = .ref a from s1)
    have h1 := h1'.perm hp
    obtain ⟨⟨xs, g1, g2⟩, _⟩ := h1.ow _ List.mem_cons_self
    obtain ⟨I, h0, hin, hs, hd⟩ := q1 xs
    have h2 : Hold K Hk1 ((a, .lstX xs rs) :: Oa) H1 := h1.tell ⟨g1, g2⟩
    have seq : ∀ {acc : List SD} {O2 : Own} {Hk2 H2 : Hp} {i : Nat} {Dl : Addr}, Hold K Hk2 ((Dl, OD.lst acc) :: O2) H2 → I i acc O2 → H2 a = some (.lst xs) ∧ SDall K Hk2 xs rs := fun {acc O2 Hk2 H2 i Dl} hh q => (hh.ow _ (List.mem_cons_of_mem _ (hin _ _ _ q))).1
    refine ⟨a, rfl, ⟨xs, .inl (.inl g1)⟩, fun Dl hf => lc_list (xs := xs) (fun i H => ∃ acc O2 Hk2, Same Hk1 Hk2 ∧ acc.length ≤ i ∧ Hold K Hk2 ((Dl, OD.lst acc) :: O2) H ∧ I i acc O2)
      ⟨[], _, Hk1, Same.refl _, Nat.le_refl _, h2.own hf .nil, h0⟩ (fun i H2 _ ⟨acc, O2, Hk2, e2, hl, hh, q⟩ => .inl (.inl (seq hh q).1)) (fun i x H2 hi hP => ?_) (fun H2 hP => ?_)⟩
    · obtain ⟨acc, O2, Hk2, e2, hl, hh, q⟩ := hP
      have sa := (seq hh q).2
      obtain ⟨r, hr1⟩ : ∃ r, rs[i]? = some r := by
        have hlt := (List.getElem?_eq_some_iff.mp hi).1
        exact ⟨_, List.getElem?_eq_getElem (by rw [← sa.length]; exact hlt)⟩
      obtain ⟨w, hw1, hw2⟩ := sa.get hr1
      rw [hi] at hw1
      cases hw1
      have hlt := (List.getElem?_eq_some_iff.mp hr1).1
      have hz : acc.length < sizeLine := Nat.lt_of_lt_of_le (show acc.length < 1000001 by omega) (by decide)
      have ht := hs i r acc O2 hr1 hl q
      refine lc_turn (d := r) (P' := fun H => ∃ acc2 O3 Hk2, Same Hk1 Hk2 ∧ acc2.length ≤ i + 1 ∧ Hold K Hk2 ((Dl, OD.lst acc2) :: O3) H ∧ I (i + 1) acc2 O3) (I' := fun acc2 O3 => acc2.length ≤ i + 1 ∧ I (i + 1) acc2 O3) ?_ hz ((p.ext e1 h1').ext e2 (hh.sub (List.sublist_cons_self ..))) hh hw2 fun acc2 O3 Hk3 H3 e3 h3 q3 => ⟨acc2, O3, Hk3, e2.trans e3, q3.1, h3, q3.2⟩
      intro Dl2 Hk3 σ3 H3 p3 Q3 k3
      refine ht Dl2 Hk3 σ3 H3 p3 Q3 fun b O3 Hk4 H4 e4 h4 q4 => k3 b O3 Hk4 H4 e4 h4 ⟨fun hb => w_mono (q4.1 hb) fun r O4 ⟨O5, hp, q5⟩ => ⟨O5, hp, by rw [List.length_append]; simp; omega, q5⟩, fun hb => ?_⟩
      obtain ⟨O5, hp, q5⟩ := q4.2 hb
      exact ⟨O5, hp, by omega, q5⟩
    · obtain ⟨acc, O2, Hk2, e2, hl, hh, q⟩ := hP
      have sa := (seq hh q)
      rw [sa.2.length] at q
      obtain ⟨Ob, hp2, q2⟩ := hd acc O2 Dl q
      have h3 := (hh.perm (hp2.cons (Dl, OD.lst acc))).perm (.swap ..)
      exact k _ (.ad Dl) _ Hk2 H2 (e1.trans e2) ((h3.tell (y := .lst rs) ⟨xs, sa.1, sa.2⟩).perm (.swap ..)) rfl q2
end
end Wk
namespace Wk
open PySem PySem.Spec PyProof.Rows L2
section
variable {K : PySem.W.Frag} {Hk Hk' H H' : Hp} {O O' Oa : Own} {ds : List SD} {σ : L2.St} {Q : SD → Own → Prop} {Q' : VK} {x y : SD} {A : AE} {D : Ends} {t u : TS} {te : TE} {ta : TA} {W : WX}
  {Qs : Addr → Option (Str × PyData) → Own → List SD → Prop}
/-- for x in range(lo, hi, -1) -/
theorem s_for3N {ta : TA} {j : Nat} {tb : TS} (h : AvW K ta O ds fun rs O1 => ∃ lo hi : Int, rs = [iV lo, iV hi, iV (-1)] ∧ (-(2 ^ 62) ≤ lo ∧ lo < 2 ^ 62 ∧ -(2 ^ 62) ≤ hi ∧ hi < 2 ^ 62) ∧ ∃ I : Nat → Own → List SD → Prop, I 0 O1 ds ∧
    (∀ (i : Nat) O2 ds2, hi + (i : Int) < lo → I i O2 ds2 → ∀ B : AE, Bdy I i A B → StW K tb O2 (ds2.set j (iV (lo - (i : Int)))) B) ∧ ∀ O2 ds2, I (lo - hi).toNat O2 ds2 → A.nx O2 ds2) : StW K (tFor (iRng3 ta) (gName j) tb) O ds A := fun Hk σ H D p l =>
  h Hk σ H p _ fun vs rs O1 Hk1 H1 e1 h1 s1 q1 => by
    obtain ⟨lo, hi, rfl, ⟨b1, b2, b3, b4⟩, I, h0, hs, hd⟩ := q1
    cases s1 with
    | @cons v1 _ _ _ g1 r =>
      cases r with
      | @cons v2 _ _ _ g2 r =>
        cases r with
        | @cons v3 _ _ _ g3 r =>
          cases r
          cases (show Da Hk1 v1 (.int lo) from g1)
          cases (show Da Hk1 v2 (.int hi) from g2)
          cases (show Da Hk1 v3 (.int (-1)) from g3)
          have p1 := p.ext e1 h1
          have l1 := l.ext e1
          refine ⟨lo, hi, -1, (lo - hi).toNat, rfl, RgC.neg b1 b2 b3 b4, for_rangeC (fun i σ H => ∃ O2 ds2 Hk2, Same Hk1 Hk2 ∧ Pt K Hk2 O2 ds2 σ H ∧ I i O2 ds2) ⟨O1, ds, Hk1, Same.refl _, p1, h0⟩
            (fun i σ' H' hi' ⟨O2, ds2, Hk2, e, p2, q⟩ => ?_) (fun σ' H' ⟨O2, ds2, Hk2, e, p2, q⟩ => l1.nx O2 ds2 Hk2 σ' H' e p2 (hd O2 ds2 q))⟩
          have ev : lo + ((i : Nat) : Int) * -1 = lo - (i : Int) := by omega
          rw [ev]
          exact hs i O2 ds2 (by omega) q _ .mk' Hk2 _ H' _ (p2.set (r := iV (lo - (i : Int))) (.int _))
            ⟨fun O3 ds3 Hk3 σ3 H3 e3 p3 q3 => ⟨O3, ds3, Hk3, e.trans e3, p3, q3⟩, l1.rt.ext e, l1.nx.ext e, fun O3 ds3 Hk3 σ3 H3 e3 p3 q3 => ⟨O3, ds3, Hk3, e.trans e3, p3, q3⟩, l1.xt.ext e⟩
/-- f'..{e}', e an int -/
def tFs (m : Str) (te : TE) : TE := fun σ H Q => tJs [tC (.str m), tFmt te] Str.empty σ H fun out H1 => Q (.str out) H1
theorem w_fs {m : Str} (hm : m.length ≤ 1000) (h : EvW K te O ds fun r O1 => ∃ i : Int, r = iV i ∧ i.natAbs.log2 < 1920 ∧ ∀ s, Q (.dat (.str s)) O1) : EvW K (tFs m te) O ds Q := fun Hk σ H p Q' k => by
  have e0 : (Str.empty ++ m).length ≤ 1000 := by
    rw [Str.length_append]
    show 0 + m.length ≤ 1000
    omega
  refine ⟨m, rfl, Nat.le_trans e0 (by decide), ?_⟩
  refine h Hk σ H p _ fun v r O1 Hk1 H1 e1 h1 s1 q1 => ?_
  obtain ⟨i, rfl, hi, q⟩ := q1
  cases (show Da Hk1 v (.int i) from s1)
  refine .inr ⟨i, rfl, hi, _, rfl, ?_, ?_⟩
  · have e := int_text_length_le (k := 1920) (by decide) hi
    rw [Str.length_append, PySem.ofString_length]
    refine Nat.le_trans (Nat.add_le_add e0 e) (by decide)
  · exact k _ (.dat (.str _)) O1 Hk1 H1 e1 h1 (.str _) (q _)
/-- raise X(e), X without an __init__ -/
def tRz1 (C : Addr) (W : WX) (te : TE) : TS := fun _ σ H => te σ H fun _ H1 => W (.ref C) none σ H1
theorem s_rz1 {C : Addr} (hW : ∀ Hk, A.xt Hk → KonW K Hk Qs W) (h : EvW K te O ds fun _ O1 => Qs C none O1 ds) : StW K (tRz1 C W te) O ds A := fun Hk σ H D p l =>
  h Hk σ H p _ fun v r O1 Hk1 H1 e1 h1 s1 q1 => hW Hk (l.xt Hk (Same.refl _)) (.ref C) none C none σ O1 ds Hk1 H1 e1 (p.ext e1 h1) ⟨rfl, rfl⟩ q1
end
section
variable {X : Cx} {K : PySem.W.Frag} {W : WX}
theorem psRz1 {x : Str} {e : Expr} {te : TE} {p pos pos2 : Pos} {C : Addr} (T : ExN K X.mg x C) (hc : X.calm = true) (tk : Takes X W) (hg : Gl X x) (he : PE X e te) (hK : X.K = K := by rfl) (hs : starEach [e] X.env = (false, eval e X.env) :: starEach [] X.env := by rfl) (hdb : (x == ("__debug__" : Str)) = false := by decide) :
    PS X (.Raise (some (.Call (.Name x p) [e] [] pos)) none pos2) (tRz1 C W te) := by
  subst hK
  exact ps_raise hc tk (SkE.pmk_own1 PySem.F.excBase_ValueError T.ex T.s.g T.s.k (raises_own T.s.is.hs T.s.ty) hg he hs hdb)
theorem psFs {te : TE} {pos p2 : Pos} {m : Str} {j : Nat} {v2 : Expr} (h1 : PE X (.Constant (.str m) j p2) (tC (.str m))) (h2 : PE X v2 (tFmt te)) : PE X (.JoinedStr [.Constant (.str m) j p2, v2] pos) (tFs m te) := pe_joined (.cons h1 (.cons h2 .nil))
end
section
variable {K : PySem.W.Frag} {Hk Hk' H H' : Hp} {O O' Oa : Own} {ds : List SD} {Q : SD → Own → Prop} {A : AE} {ta : TA} {W : WX} {preX : List SD → Own → (SD → Own → Prop) → (Addr → Option (Str × PyData) → Own → Prop) → Prop}
  {Qs : Addr → Option (Str × PyData) → Own → List SD → Prop}
/-- what is owned besides may be let go -/
theorem KonW.sub (k : KonW K Hk Qs W) : KonW K Hk (fun C fs O2 ds2 => ∃ O3, List.Sublist O3 O2 ∧ Qs C fs O3 ds2) W := fun cls d C fs σ O2 ds2 Hk2 H2 e p ok ⟨O3, s, q⟩ =>
  k cls d C fs σ O3 ds2 Hk2 H2 e ⟨p.hold.sub s, p.len, p.env⟩ ok q
/-- a def that may raise, called where it does not -/
theorem w_callN (h : AvW K ta O ds fun rs O1 => preX rs O1 Q fun _ _ _ => False) : EvW K (tCallS (spX K preX) (WE fun _ _ _ _ => False) ta) O ds Q := fun Hk σ H p Q' k =>
  h Hk σ H p _ fun vs rs O1 Hk1 H1 e1 h1 s1 q1 => ⟨Hk1, O1, rs, Q, _, h1, s1, q1, k.ext e1, fun cls d C fs O2 Hk2 H2 e2 h2 ok q => q.elim⟩
/-- {'k': e, 'l': f} as data -/
theorem w_dic2 {f g : Str} {tv tw : TE} (hfg : ∀ v w : V, mergeK [] [((Sum.inr f : Key), v), (Sum.inr g, w)] = [(Sum.inr f, v), (Sum.inr g, w)]) (h : ∀ pn, EvW K tv ((pn, .dK []) :: O) ds fun r O1 => ∃ d, r = .dat d ∧ EvW K tw O1 ds fun r2 O2 => ∃ e Oa, r2 = .dat e ∧ O2 = (pn, .dK []) :: Oa ∧ Q (.dic [(.inr f, d), (.inr g, e)]) Oa) : EvW K (tDisp [(tC (.str f), tv), (tC (.str g), tw)]) O ds Q := fun Hk σ H p Q' k pn hf => by
  have h0 := p.hold.ownG (p := pn) (o := .dK []) (x := .dK []) hf ⟨[], upd_same, rfl, .nil⟩
  have p0 : Pt K Hk ((pn, .dK []) :: O) ds σ (upd H pn (.dK [])) := ⟨h0, p.len, p.env⟩
  show tv σ (upd H pn (.dK [])) fun y H2 => tw σ H2 _
  refine h pn Hk σ _ p0 _ fun v r O1 Hk1 H1 e1 h1 s1 q1 => ?_
  obtain ⟨d, rfl, q1⟩ := q1
  refine q1 Hk1 σ H1 (p0.ext e1 h1) _ fun w r2 O2 Hk2 H2 e2 h2 s2 q2 => ?_
  obtain ⟨e, Oa, rfl, rfl, q⟩ := q2
  obtain ⟨⟨vs, g1, g2, g3⟩, g4⟩ := h2.ow (pn, .dK []) List.mem_cons_self
  have e0 : vs = [] := by
    cases vs with
    | nil => rfl
    | cons a b => cases g2
  subst e0
  refine ⟨g1, [(.inr f, v), (.inr g, w)], rfl, Nat.le_of_ble_eq_true rfl, ?_⟩
  rw [hfg]
  have nd := h2.nd
  rw [List.map_cons, List.nodup_cons] at nd
  have sm : Same Hk2 (upd Hk2 pn (.dK [(.inr f, v), (.inr g, w)])) := same_new g4
  refine k _ (.dic [(.inr f, d), (.inr g, e)]) Oa (upd Hk2 pn (.dK [(.inr f, v), (.inr g, w)])) _ (e1.trans (e2.trans sm)) ⟨fun b y e => ?_, fun q hq => ?_, nd.2⟩ ⟨pn, [(.inr f, v), (.inr g, w)], rfl, upd_same, rfl, .cons (Da.mono (e2.trans sm) s1) (.cons (Da.mono sm s2) .nil)⟩ q
  · by_cases hb : b = pn
    · subst hb
      rw [upd_same] at e ⊢
      exact e
    · rw [upd_ne hb] at e ⊢
      exact h2.kn b y e
  · have ne : q.1 ≠ pn := fun z => nd.1 (z ▸ List.mem_map.mpr ⟨q, hq, rfl⟩)
    obtain ⟨h5, h6⟩ := h2.ow q (List.mem_cons_of_mem _ hq)
    exact ⟨h5.mono sm (upd_ne ne), by rw [upd_ne ne]; exact h6⟩
theorem flat_all : ∀ {kvs : List (Key × PyData)} {ks ls : List (Key × V)} {H : Hp}, (∀ p ∈ kvs, flatD p.2 = true) → ks.map (·.1) = kvs.map (·.1) → ls.map (·.1) = kvs.map (·.1) → DaAll H (ks.map (·.2)) (kvs.map (·.2)) → DaAll H (ls.map (·.2)) (kvs.map (·.2)) → ks = ls ∧ ∀ p ∈ ks, flatB p.2 = true
  | [], [], [], _, _, _, _, _, _ => ⟨rfl, fun _ h => absurd h List.not_mem_nil⟩
  | [], _ :: _, _, _, _, h, _, _, _ => by cases h
  | [], [], _ :: _, _, _, _, h, _, _ => by cases h
  | _ :: _, [], _, _, _, h, _, _, _ => by cases h
  | _ :: _, _ :: _, [], _, _, _, h, _, _ => by cases h
  | (k, d) :: kvs, (k1, v1) :: ks, (k2, v2) :: ls, H, hf, h1, h2, .cons a1 r1, .cons a2 r2 => by
    injection h1 with e1 h1
    injection h2 with e2 h2
    obtain ⟨e, hr⟩ := flat_all (fun p hp => hf p (List.mem_cons_of_mem _ hp)) h1 h2 r1 r2
    have hd := hf _ List.mem_cons_self
    have ev : v1 = v2 := flat_one a1 a2 hd
    have e1' : k1 = k := e1
    have e2' : k2 = k := e2
    refine ⟨by rw [e1', e2', ev, e], fun p hp => ?_⟩
    rcases List.mem_cons.mp hp with rfl | hp
    · exact flat_of a1 hd
    · exact hr p hp
theorem val_of : ∀ {ks : List (Key × V)}, (ks.map (·.1)).Nodup → ∀ p ∈ ks, valV ks p.1 = some p.2
  | [], _, _, h => absurd h List.not_mem_nil
  | q :: ks, hn, p, hp => by
    rw [List.map_cons, List.nodup_cons] at hn
    rcases List.mem_cons.mp hp with rfl | hp
    · exact valV_pos rfl
    · have ne : q.1 ≠ p.1 := fun z => hn.1 (z ▸ List.mem_map.mpr ⟨p, hp, rfl⟩)
      rw [valV_neg ne]
      exact val_of hn.2 p hp
theorem o_neDic {kvs : List (Key × PyData)} (hf : ∀ p ∈ kvs, flatD p.2 = true) (hn : (kvs.map (·.1)).Nodup) (q : Q (bV false) O) : OpW K rNeDA (.dic kvs) (.dic kvs) O Q := fun Hk H h u v hu hv Q' k => by
  obtain ⟨a, vs, rfl, g1, g2, g3⟩ := hu
  obtain ⟨b, ws, rfl, j1, j2, j3⟩ := hv
  obtain ⟨e, hfl⟩ := flat_all hf g2 j2 g3 j3
  subst e
  exact ⟨a, b, vs, vs, rfl, rfl, h.kn _ _ g1, h.kn _ _ j1, rfl, fun p hp => ⟨val_of (by rw [g2]; exact hn) p hp, hfl p hp⟩, k.now h (r := bV false) (.bl _) q⟩
end
end Wk
namespace Wk
open PySem PySem.Spec PyProof.Rows L2
/-! ### dicts that are owned -/
def valS (kvs : List (Key × SD)) (k : Key) : Option SD := (kvs.find? fun p => decide (p.1 = k)).map (·.2)
def putS (kvs : List (Key × SD)) (k : Key) (r : SD) : List (Key × SD) := kvs.map fun p => if p.1 = k then (p.1, r) else p
section
variable {K : PySem.W.Frag} {Hk Hk' H H' : Hp} {O O' Oa : Own} {ds : List SD} {σ : L2.St} {Q : SD → Own → Prop} {Q' : VK} {x y : SD} {A : AE} {D : Ends} {t u : TS} {te td to : TE} {ta : TA}
theorem val_at {k : Key} {d : SD} : ∀ {vs : List (Key × V)} {kvs : List (Key × SD)}, vs.map (·.1) = kvs.map (·.1) → SDall K Hk (vs.map (·.2)) (kvs.map (·.2)) → valS kvs k = some d → ∃ v, valV vs k = some v ∧ SDok K Hk v d
  | _, [], _, _, h => by cases h
  | [], _ :: _, e, _, _ => by cases e
  | v :: vs, p :: kvs, e, .cons a r, h => by
    injection e with e1 e2
    have e1' : v.1 = p.1 := e1
    by_cases z : p.1 = k
    · have : valS (p :: kvs) k = some p.2 := by simp [valS, List.find?_cons, z]
      rw [this] at h
      cases h
      exact ⟨v.2, valV_pos (e1'.trans z), a⟩
    · have : valS (p :: kvs) k = valS kvs k := by simp [valS, List.find?_cons, z]
      rw [this] at h
      obtain ⟨w, h1, h2⟩ := val_at e2 r h
      exact ⟨w, by rw [valV_neg (by rw [e1']; exact z)]; exact h1, h2⟩
theorem put_at {k : Key} {d r : SD} {v : V} (hv : SDok K Hk v r) {vs : List (Key × V)} {kvs : List (Key × SD)} (e : vs.map (·.1) = kvs.map (·.1)) (h : SDall K Hk (vs.map (·.2)) (kvs.map (·.2))) (hk : valS kvs k = some d) :
    (putK vs k v).map (·.1) = (putS kvs k r).map (·.1) ∧ SDall K Hk ((putK vs k v).map (·.2)) ((putS kvs k r).map (·.2)) := by
  have hany : (vs.any fun kv => decide (kv.1 = k)) = true := by
    obtain ⟨w, h1, _⟩ := val_at e h hk
    rw [valV_any, h1]
    rfl
  have key : ∀ {vs : List (Key × V)} {kvs : List (Key × SD)}, vs.map (·.1) = kvs.map (·.1) → SDall K Hk (vs.map (·.2)) (kvs.map (·.2)) → (vs.map fun kv => if kv.1 = k then (kv.1, v) else kv).map (·.1) = (putS kvs k r).map (·.1) ∧ SDall K Hk ((vs.map fun kv => if kv.1 = k then (kv.1, v) else kv).map (·.2)) ((putS kvs k r).map (·.2)) := by
    intro vs
    induction vs with
    | nil =>
      intro kvs e h
      cases kvs with
      | nil => exact ⟨rfl, .nil⟩
      | cons p kvs => cases e
    | cons w vs ih =>
      intro kvs e h
      cases kvs with
      | nil => cases e
      | cons p kvs =>
        injection e with e1 e2
        have e1' : w.1 = p.1 := e1
        cases h with
        | cons a b =>
          obtain ⟨i1, i2⟩ := ih e2 b
          by_cases z : p.1 = k
          · have z' : w.1 = k := e1'.trans z
            refine ⟨?_, ?_⟩
            · show (if w.1 = k then (w.1, v) else w).1 :: _ = (if p.1 = k then (p.1, r) else p).1 :: _
              rw [if_pos z, if_pos z']
              exact congr (congrArg _ e1') i1
            · show SDall K Hk ((if w.1 = k then (w.1, v) else w).2 :: _) ((if p.1 = k then (p.1, r) else p).2 :: _)
              rw [if_pos z, if_pos z']
              exact .cons hv i2
          · have z' : ¬ w.1 = k := fun q => z (e1'.symm.trans q)
            refine ⟨?_, ?_⟩
            · show (if w.1 = k then (w.1, v) else w).1 :: _ = (if p.1 = k then (p.1, r) else p).1 :: _
              rw [if_neg z, if_neg z']
              exact congr (congrArg _ e1') i1
            · show SDall K Hk ((if w.1 = k then (w.1, v) else w).2 :: _) ((if p.1 = k then (p.1, r) else p).2 :: _)
              rw [if_neg z, if_neg z']
              exact .cons a i2
  have := key e h
  unfold putK
  rw [if_pos hany]
  exact this
/-- d['k'], d owned -/
theorem w_dget {f : Str} (h : EvW K td O ds fun r O1 => ∃ a kvs d, r = .ad a ∧ (a, OD.dK kvs) ∈ O1 ∧ valS kvs (.inr f) = some d ∧ Q d O1) : EvW K (tDGet td (tC (.str f))) O ds Q := fun Hk σ H p Q' k =>
  h Hk σ H p _ fun v r O1 Hk1 H1 e1 h1 s1 q1 => by
    obtain ⟨a, kvs, d, rfl, hm, hv, q⟩ := q1
    cases (show v = .ref a from s1)
    obtain ⟨⟨vs, g1, g2, g3⟩, _⟩ := h1.ow _ hm
    obtain ⟨w, h2, h3⟩ := val_at g2 g3 hv
    refine ⟨a, w, rfl, ?_, k w d O1 Hk1 H1 e1 h1 h3 q⟩
    have := DGet.k (k := .inr f) g1
    rw [h2] at this
    exact this
/-- d['k'] = e, d owned, k there -/
theorem s_setD {f : Str} (h : EvW K te O ds fun r O1 => EvW K to O1 ds fun ro O2 => ∃ a kvs d Oa O4, ro = .ad a ∧ O2.Perm ((a, .dK kvs) :: Oa) ∧ kvs.length ≤ 1000 ∧ valS kvs (.inr f) = some d ∧ Own.P ((a, .dK (putS kvs (.inr f) r)) :: Oa) O4 ∧ A.nx O4 ds) : StW K (tAsg te (gSub to (tC (.str f)) rSetD)) O ds A := fun Hk σ H D p l =>
  h Hk σ H p _ fun v r O1 Hk1 H1 e1 h1 s1 q1 => q1 Hk1 σ H1 (p.ext e1 h1) _ fun vo ro O2 Hk2 H2 e2 h2 s2 q2 => by
    obtain ⟨a, kvs, d, Oa, O4, rfl, hp, hl, hv, hp2, q⟩ := q2
    cases (show vo = .ref a from s2)
    have h' := h2.perm hp
    obtain ⟨⟨vs, g1, g2, g3⟩, _⟩ := h'.ow _ List.mem_cons_self
    obtain ⟨p1, p2⟩ := put_at (s1.mono e2) g2 g3 hv
    have hlen : vs.length < sizeLine := by
      have := congrArg List.length g2
      rw [List.length_map, List.length_map] at this
      rw [this]
      exact Nat.lt_of_le_of_lt hl (by decide)
    refine ⟨a, _, rfl, DPut.k (k := .inr f) g1 hlen, ?_⟩
    exact l.nx _ ds Hk2 σ _ (e1.trans e2) (p.ext (e1.trans e2) ((h'.writeG (y := .dK (putS kvs (.inr f) r)) ⟨_, upd_same, p1, p2⟩).perm hp2)) q
/-- {'k': e, 'l': f} as a dict that is owned -/
theorem w_dic2O {f g : Str} {tv tw : TE} (hfg : ∀ v w : V, mergeK [] [((Sum.inr f : Key), v), (Sum.inr g, w)] = [(Sum.inr f, v), (Sum.inr g, w)]) (h : ∀ pn, EvW K tv ((pn, .dK []) :: O) ds fun r O1 => EvW K tw O1 ds fun r2 O2 => ∃ Oa, O2 = (pn, .dK []) :: Oa ∧ Q (.ad pn) ((pn, .dK [(.inr f, r), (.inr g, r2)]) :: Oa)) : EvW K (tDisp [(tC (.str f), tv), (tC (.str g), tw)]) O ds Q := fun Hk σ H p Q' k pn hf => by
  have h0 := p.hold.ownG (p := pn) (o := .dK []) (x := .dK []) hf ⟨[], upd_same, rfl, .nil⟩
  have p0 : Pt K Hk ((pn, .dK []) :: O) ds σ (upd H pn (.dK [])) := ⟨h0, p.len, p.env⟩
  show tv σ (upd H pn (.dK [])) fun y H2 => tw σ H2 _
  refine h pn Hk σ _ p0 _ fun v r O1 Hk1 H1 e1 h1 s1 q1 => ?_
  refine q1 Hk1 σ H1 (p0.ext e1 h1) _ fun w r2 O2 Hk2 H2 e2 h2 s2 q2 => ?_
  obtain ⟨Oa, rfl, q⟩ := q2
  obtain ⟨⟨vs, g1, g2, g3⟩, g4⟩ := h2.ow (pn, .dK []) List.mem_cons_self
  have e0 : vs = [] := by
    cases vs with
    | nil => rfl
    | cons a b => cases g2
  subst e0
  refine ⟨g1, [(.inr f, v), (.inr g, w)], rfl, Nat.le_of_ble_eq_true rfl, ?_⟩
  rw [hfg]
  exact k _ (.ad pn) _ Hk2 _ (e1.trans e2) (h2.writeG (y := .dK [(.inr f, r), (.inr g, r2)]) ⟨[(.inr f, v), (.inr g, w)], upd_same, rfl, .cons (s1.mono e2) (.cons s2 .nil)⟩) rfl q
/-- two owned lists, one behind the other -/
theorem g_catS {a b : Addr} {rs qs : List SD} (hm : (a, OD.lst rs) ∈ O) (hn : (b, OD.lst qs) ∈ O) (hz : rs.length + qs.length ≤ 1000000) (q : ∀ l, Q (.ad l) ((l, .lst (rs ++ qs)) :: O)) : OpW K rCat (.ad a) (.ad b) O Q := fun Hk H h u v hu hv Q' k => by
  cases (show u = .ref a from hu)
  cases (show v = .ref b from hv)
  obtain ⟨⟨vs, h1, h2⟩, _⟩ := h.ow _ hm
  obtain ⟨⟨ws, g1, g2⟩, _⟩ := h.ow _ hn
  exact ⟨a, b, vs, ws, rfl, rfl, h1, g1, by rw [h2.length, g2.length]; exact Nat.le_trans hz (by decide), fun l hf => k _ (.ad l) _ Hk _ (Same.refl _) (h.own hf (h2.append g2)) rfl (q l)⟩
theorem o_eqT {i j : Str} (q : Q (bV (decide (i = j))) O) : OpW K rEq (.dat (.str i)) (.dat (.str j)) O Q := fun Hk H h u v hu hv Q' k => by
  cases (show Da Hk u (.str i) from hu)
  cases (show Da Hk v (.str j) from hv)
  refine ⟨rfl, ?_⟩
  have e : decide (V.str i = V.str j) = decide (i = j) := by
    by_cases z : i = j
    · rw [decide_eq_true z, decide_eq_true (congrArg V.str z)]
    · rw [decide_eq_false z, decide_eq_false fun q => z (V.str.inj q)]
  rw [e]
  exact k.now h (r := bV _) (.bl _) q
/-! ### exceptions as values -/
/-- X(e), X without an __init__ -/
def tXv0 (C : Addr) (te : TE) : TE := fun σ H Q => te σ H fun _ H1 => ∀ a, H1 a = none → Q (.ref a) (upd H1 a (ExO (.ref C) a))
theorem w_xv0 {C : Addr} (h : EvW K te O ds fun _ O1 => Q (.xob C none) O1) : EvW K (tXv0 C te) O ds Q := fun Hk σ H p Q' k =>
  h Hk σ H p _ fun v r O1 Hk1 H1 e1 h1 s1 q1 a ha => by
    have sm : Same Hk1 (upd Hk1 a (ExO (.ref C) a)) := same_new (h1.kn.free ha)
    exact k _ (.xob C none) O1 _ _ (e1.trans sm) (h1.know ha) ⟨a, rfl, upd_same⟩ q1
/-- X(e), X's __init__ keeps e as its field f -/
def tXvI (C : Addr) (f : Str) (ta : TA) : TE := fun σ H Q => ta σ H fun vs H1 => vs.length ≤ 1000 ∧ ∀ a, H1 a = none → spIni C f (.ref a :: vs) (upd H1 a (exo a C none)) (fun v H2 => v = .non ∧ Q (.ref a) H2) (fun _ _ _ => False)
theorem w_xvI {C : Addr} {f : Str} (h : AvW K ta O ds fun rs O1 => ∃ d, rs = [.dat d] ∧ Q (.xob C (some (f, d))) O1) : EvW K (tXvI C f ta) O ds Q := fun Hk σ H p Q' k =>
  h Hk σ H p _ fun vs rs O1 Hk1 H1 e1 h1 s1 q1 => by
    obtain ⟨x, rfl, q⟩ := q1
    obtain ⟨v, rfl, hv⟩ := all1 s1
    refine ⟨Nat.le_of_ble_eq_true rfl, fun a ha => ⟨a, v, rfl, upd_same, fun dx hdx hne => ⟨rfl, ?_⟩⟩⟩
    rw [upd_ne hne] at hdx
    have eH : upd (upd (upd H1 a (exo a C none)) dx (exd dx [(f, v)])) a (exo a C (some dx)) = upd (upd H1 dx (exd dx [(f, v)])) a (exo a C (some dx)) := by
      funext b
      by_cases hb : b = a
      · rw [hb, upd_same, upd_same]
      · rw [upd_ne hb, upd_ne hb]
        by_cases hd : b = dx
        · rw [hd, upd_same, upd_same]
        · rw [upd_ne hd, upd_ne hd, upd_ne hb]
    rw [eH]
    have ha2 : upd H1 dx (exd dx [(f, v)]) a = none := by rw [upd_ne (Ne.symm hne)]; exact ha
    have h2 := h1.know (o := exd dx [(f, v)]) hdx
    have h3 := h2.know (o := exo a C (some dx)) ha2
    have s2 : Same Hk1 (upd Hk1 dx (exd dx [(f, v)])) := same_new (h1.kn.free hdx)
    have s3 : Same (upd Hk1 dx (exd dx [(f, v)])) (upd (upd Hk1 dx (exd dx [(f, v)])) a (exo a C (some dx))) := same_new (h2.kn.free ha2)
    exact k _ (.xob C (some (f, x))) O1 _ _ (e1.trans (s2.trans s3)) h3 ⟨a, rfl, dx, v, upd_same, by rw [upd_ne hne]; exact upd_same, Da.mono (s2.trans s3) hv⟩ q
/-- e.f of such a value -/
def tXvf (C : Addr) (f : Str) (te : TE) : TE := fun σ H Q => te σ H fun x H1 => ∃ a d fs v, x = .ref a ∧ H1 a = some (exo a C (some d)) ∧ H1 d = some (exd d fs) ∧ fs.lookup f = some v ∧ Q v H1
theorem w_xvf {C : Addr} {f : Str} (h : EvW K te O ds fun r O1 => ∃ x, r = .xob C (some (f, x)) ∧ Q (.dat x) O1) : EvW K (tXvf C f te) O ds Q := fun Hk σ H p Q' k =>
  h Hk σ H p _ fun v r O1 Hk1 H1 e1 h1 s1 q1 => by
    obtain ⟨x, rfl, q⟩ := q1
    obtain ⟨a, rfl, d, w, g1, g2, g3⟩ := s1
    exact ⟨a, d, _, w, rfl, h1.kn _ _ g1, h1.kn _ _ g2, by simp [List.lookup], k _ (.dat x) O1 Hk1 H1 e1 h1 g3 q⟩
/-- isinstance(e, c) of such a value -/
def rIsV (K : PySem.W.Frag) : List V → Hp → VK → Prop := fun xs H Q => ∃ (a C : Addr) (c : V) (cv : Value) (b : Bool), ExcC K C ∧ (H a = some (ExO (.ref C) a) ∨ ∃ d fs, H a = some (exo a C (some d)) ∧ H d = some (exd d fs)) ∧ xs = [.ref a, c] ∧ (∀ u, RelV c u → u = cv) ∧ PySem.W.kitOne K (.ref C) cv = some b ∧ Q (.bl b) H
theorem g_isV {C C' : Addr} {fs : Option (Str × PyData)} {b : Bool} (T : ExcC K C) (e : PySem.W.kitOne K (.ref C) (.ref C') = some b) (q : Q (bV b) O) : CbW K (rIsV K) [.xob C fs, .ad C'] O Q := fun Hk H h us hus Q' k => by
  obtain ⟨u, v, rfl, hu, hv⟩ := all2 hus
  cases (show v = .ref C' from hv)
  obtain ⟨a, rfl, hx⟩ := hu
  refine ⟨a, C, .ref C', .ref C', b, T, ?_, rfl, fun u r => r, e, k.now h (r := bV _) (.bl _) q⟩
  cases fs with
  | none => exact .inl (h.kn _ _ hx)
  | some p =>
    obtain ⟨d, w, h1, h2, _⟩ := hx
    exact .inr ⟨d, _, h.kn _ _ h1, h.kn _ _ h2⟩
theorem g_isVT {C : Addr} {n : String} {fs : Option (Str × PyData)} {b : Bool} (T : ExcC K C) (e : PySem.W.kitOne K (.ref C) (.type n) = some b) (q : Q (bV b) O) : CbW K (rIsV K) [.xob C fs, .ty n] O Q := fun Hk H h us hus Q' k => by
  obtain ⟨u, v, rfl, hu, hv⟩ := all2 hus
  cases (show v = .ty n from hv)
  obtain ⟨a, rfl, hx⟩ := hu
  refine ⟨a, C, .ty n, .type n, b, T, ?_, rfl, fun u r => r, e, k.now h (r := bV _) (.bl _) q⟩
  cases fs with
  | none => exact .inl (h.kn _ _ hx)
  | some p =>
    obtain ⟨d, w, h1, h2, _⟩ := hx
    exact .inr ⟨d, _, h.kn _ _ h1, h.kn _ _ h2⟩
theorem w_xob {i : Nat} {C : Addr} {fs : Option (Str × PyData)} (h : ds[i]? = some (.xob C fs)) (q : Q (.xob C fs) O) : EvW K (tVar i) O ds Q := w_var h (fun z => nomatch z) q
end
section
variable {X : Cx} {K : PySem.W.Frag}
theorem peXv0 {x : Str} {e : Expr} {te : TE} {p pos : Pos} {C : Addr} (T : ExN K X.mg x C) (hg : Gl X x) (he : PE X e te) (hK : X.K = K := by rfl) (hs : starEach [e] X.env = (false, eval e X.env) :: starEach [] X.env := by rfl) (hdb : (x == ("__debug__" : Str)) = false := by decide) :
    PE X (.Call (.Name x p) [e] [] pos) (tXv0 C te) := by
  subst hK
  exact pe_exc1 PySem.F.excBase_ValueError T.ex T.s.g T.s.k hg he hs hdb
theorem peXvI {x f : Str} {e : Expr} {p pos : Pos} {C : Addr} {ta : TA} (T : ExI X.prog X.w K X.mg X.base x f C) (hr : Room 2 X.A) (hg : Gl X x) (ha : PA X [e] ta) (hK : X.K = K := by rfl) (hdb : (x == ("__debug__" : Str)) = false := by decide)
    (he : starEach [e] X.env = (false, eval e X.env) :: starEach [] X.env := by rfl) (hpl : (backTo pos (starEach [] X.env)).any (·.1) = false := by rfl) :
    PE X (.Call (.Name x p) [e] [] pos) (tXvI C f ta) := by
  subst hK
  obtain ⟨fI, fd, iC, tI, F1, hb⟩ := T.ic
  refine ⟨fun pins s σ H Q I h => ?_⟩
  obtain ⟨nm, q, N, bs, bm, sn, sub, ab, col, dd, k0, k1, k2, k3, k5, hC, hbm⟩ := T.o.cls
  refine wpAny_Call_Name_kw (ld_glob I hg T.s.g ?_ hdb)
  refine PySem.W.callWith_K (h₀ := X.base) I.ok.mod.kin T.o.kC (thn (ha.run pos pins s σ H _ I h) fun us s1 ⟨vs, H1, I1, r1, hz, q1⟩ => ⟨I1.kIn, ?_⟩) he hpl
  show wpAny _ _ (call (.ref C) us) _ _ _
  obtain ⟨hp, g, dr, tk, os⟩ := s1
  have hsz : hp.objs.size ≤ hp.objs.size + 1 := Nat.le_succ _
  have hn : H1 (hp.objs.size + 1) = none := I1.hok.fresh hsz
  have hq := q1 (hp.objs.size + 1) hn
  have kk : ∀ b o, hp.get? b = some o → ((hp.push (PySem.W.kdv_tup us)).push (PySem.HandSPX.excO C hp.objs.size)).get? b = some o := fun b o e => Heap.get?_push_of_some _ (Heap.get?_push_of_some _ e)
  have hget : ((hp.push (PySem.W.kdv_tup us)).push (PySem.HandSPX.excO C hp.objs.size)).get? (hp.objs.size + 1) = some (PySem.HandSPX.excO C hp.objs.size) := by heap_get
  have I2 : Inv X pins σ (upd H1 (hp.objs.size + 1) (exo (hp.objs.size + 1) C none)) ⟨(hp.push (PySem.W.kdv_tup us)).push (PySem.HandSPX.excO C hp.objs.size), g, dr, tk, os⟩ :=
    I1.laid (t' := tk) (a := hp.objs.size + 1) (o := exo (hp.objs.size + 1) C none) (h' := (hp.push (PySem.W.kdv_tup us)).push (PySem.HandSPX.excO C hp.objs.size)) kk hsz (exo_ok hget)
  have r2 : Vals (V.ref (hp.objs.size + 1) :: vs) (Value.ref (hp.objs.size + 1) :: us) := .cons rfl r1
  have hl : (Value.ref (hp.objs.size + 1) :: us).length = ([("self" : Str), f] : List Str).length := by
    have e := r2.length
    rw [F1.len _ _ _ _ hq] at e
    exact e.symm
  have hus : us.length ≤ sizeLine := by
    rw [← Paired.length r1, sizeLine_eq]
    omega
  have hb2 := hb ⟨(hp.push (PySem.W.kdv_tup us)).push (PySem.HandSPX.excO C hp.objs.size), g, dr, tk, os⟩ (Value.ref (hp.objs.size + 1) :: us) I2.kIn (by rw [List.append_nil]; exact hl)
  rw [List.append_nil] at hb2
  refine wpAny_call (PySem.HandSPX.call_own F.excBase_ValueError (fun Y => PySem.HandSPX.refsVE_contains Y bm hbm) (I1.kIn _ _ hC) (PySem.W.looks_findIn I1.kIn iC) (fun self => PySem.W.bind_fn I1.kIn self tI) hus
    (codeAny_mono (F1.run _ X.stack _ _ ⟨Value.ref (hp.objs.size + 1) :: us, []⟩ (Value.ref (hp.objs.size + 1) :: us) _ _ (fun _ _ _ => False) (hr.make C us []) (I2.env0.make C us []) hb2 r2 hq) fun r s' hq' => ?_))
  cases r with
  | error er => exact hq'.elim
  | ok fl =>
    cases fl with
    | ret u =>
      obtain ⟨v, H2, I3, r3, ev, q2⟩ := I2.after hq'
      subst ev
      exact ⟨r3, .ref (hp.objs.size + 1), H2, I3, rfl, q2⟩
    | next => exact False.elim hq'
    | brk => exact False.elim hq'
    | cont => exact False.elim hq'
theorem peXvf {C : Addr} {e : Expr} {te : TE} {pos : Pos} {n x : Str} {mg : Str → Option Value} (T : ExS K mg x C) (hno : PySem.W.findIn K (.ref C) n = some none) (he : PE X e te) (hK : X.K = K := by rfl) (hb : attributeBase e n X.env (eval e X.env) = eval e X.env := by rfl) :
    PE X (.Attribute e n pos) (tXvf C n te) := by
  subst hK
  refine ⟨fun pins s σ H Q I h => ?_⟩
  refine attr_of hb (thn (he.run pins s σ H _ I h) fun u s1 hh => ?_)
  obtain ⟨x, H1, I1, rx, a, d, fs, v, ex, ea, ed, l, q⟩ := hh
  subst ex
  obtain rfl : u = Value.ref a := rx
  obtain ⟨t1, ho⟩ := exo_at I1.hok ea
  obtain ⟨mA, hns, hr⟩ := exd_at I1.hok ed
  obtain ⟨od, ho2, hl⟩ := lookIn_ns hns
  obtain ⟨u, hu, ru⟩ := RelO.some_of (v := v) (o := mA n) (by rw [← l]; exact hr n)
  have J : PySem.W.InstAt s1.heap a { cls := .ref C, dict := some d, data := .fields #[.ref t1, .none, .none, .none, .bool false, .none] } C (some od) := ⟨ho, rfl, rfl, ho2⟩
  exact PySem.HandSPX.exc_get I1.kIn J T.xf.ga T.xf.gg T.xf.exC (PySem.W.findObj_own T.xf.hdC hno rfl (by rw [hl, hu])) (handed_of ru) ⟨v, H1, I1.tok _, ru, q⟩
theorem kIsV (hK : X.K = K := by rfl) : CallR X (.builtin "isinstance") (rIsV K) := by
  subst hK
  intro pins s σ H xs us Q I r h
  obtain ⟨a, C, c, cv, b, T, hx, rfl, hcv, e, q⟩ := h
  cases r with
  | cons rx rr =>
    cases rr with
    | cons rt rr =>
      cases rr
      cases rx
      have ec := hcv _ rt
      subst ec
      have J : ∃ oe od, PySem.W.InstAt s.heap a oe C od := by
        rcases hx with ha | ⟨d, fs, ha, hd⟩
        · obtain ⟨⟨oe, vs, g1, g2, g3, _⟩, _⟩ := I.hok a _ ha
          refine ⟨oe, none, g1, g2.1, by unfold PySem.W.notCls; rw [g3] <;> rfl, ?_⟩
          rw [g2.2]
          trivial
        · obtain ⟨t1, ho⟩ := exo_at I.hok ha
          obtain ⟨mA, hns, hr⟩ := exd_at I.hok hd
          obtain ⟨od, ho2, hl⟩ := lookIn_ns hns
          exact ⟨_, some od, ho, rfl, rfl, ho2⟩
      obtain ⟨oe, od, J⟩ := J
      exact PySem.W.kia_one (PySem.W.kitx_exc (any_isSome T.hd) T.hg T.hk T.hs T.ha T.hn T.ht T.hm) I.kIn J e (fun z => nomatch z) fun tk => ⟨.bl b, H, I.kept (t' := tk) fun _ _ z => z, rfl, q⟩
end
end Wk
namespace Wk
open PySem PySem.Spec PyProof.Rows L2
section
variable {K : PySem.W.Frag} {Hk Hk' H H' : Hp} {O O' Oa : Own} {ds : List SD} {σ : L2.St} {Q : SD → Own → Prop} {Q' : VK} {x y : SD} {A : AE} {D : Ends} {t u : TS} {te : TE} {ta : TA} {W : WX}
  {Qs : Addr → Option (Str × PyData) → Own → List SD → Prop}
/-! ### while -/
structure BdyW (I : Nat → Own → List SD → Prop) (m : Nat) (A B : AE) : Prop where
  nx : ∀ m' O ds, m' < m → I m' O ds → B.nx O ds
  ct : ∀ m' O ds, m' < m → I m' O ds → B.ct O ds
  rt : ∀ r O, A.rt r O → B.rt r O
  bk : ∀ O ds, A.nx O ds → B.bk O ds
  xt : ∀ Hk, B.xt Hk → A.xt Hk
theorem s_while {tc : TT} {tb : TS} (I : Nat → Own → List SD → Prop) (h0 : ∃ m, I m O ds)
    (hs : ∀ m O1 ds1, I m O1 ds1 → TvW K tc O1 ds1 fun b O2 => (b = true → ∀ B : AE, BdyW I m A B → StW K tb O2 ds1 B) ∧ (b = false → A.nx O2 ds1)) : StW K (tWhile tc tb) O ds A := fun Hk σ H D p l => by
  obtain ⟨m0, h0⟩ := h0
  refine ⟨fun m σ H => ∃ O2 ds2 Hk2, Same Hk Hk2 ∧ Pt K Hk2 O2 ds2 σ H ∧ I m O2 ds2, ⟨m0, O, ds, Hk, Same.refl _, p, h0⟩, ?_⟩
  rintro m σ' H' ⟨O2, ds2, Hk2, e, p2, q⟩
  refine hs m O2 ds2 q Hk2 σ' H' p2 _ fun b O3 Hk3 H3 e3 h3 q3 => ?_
  have e4 := e.trans e3
  cases b with
  | false => exact iteF (l.nx O3 ds2 Hk3 σ' H3 e4 (p2.ext e3 h3) (q3.2 rfl))
  | true =>
    refine iteT ⟨fun σ2 H2 => ∃ m', m' < m ∧ ∃ O4 ds4 Hk4, Same Hk Hk4 ∧ Pt K Hk4 O4 ds4 σ2 H2 ∧ I m' O4 ds4, fun σ2 H2 ⟨m', hm, hh⟩ => ⟨m', hm, hh⟩, ?_⟩
    exact q3.1 rfl ⟨fun O ds => ∃ m', m' < m ∧ I m' O ds, A.rt, A.nx, fun O ds => ∃ m', m' < m ∧ I m' O ds, A.xt⟩ ⟨fun m' _ _ h1 h2 => ⟨m', h1, h2⟩, fun m' _ _ h1 h2 => ⟨m', h1, h2⟩, fun _ _ h => h, fun _ _ h => h, fun _ h => h⟩
      Hk3 σ' H3 _ (p2.ext e3 h3) ⟨fun O5 ds5 Hk5 σ5 H5 e5 p5 ⟨m', h1, h2⟩ => ⟨m', h1, O5, ds5, Hk5, e4.trans e5, p5, h2⟩, l.rt.ext e4, l.nx.ext e4, fun O5 ds5 Hk5 σ5 H5 e5 p5 ⟨m', h1, h2⟩ => ⟨m', h1, O5, ds5, Hk5, e4.trans e5, p5, h2⟩, l.xt.ext e4⟩
/-! ### x += e -/
theorem s_aug {i : Nat} {f : Int → Int → Int} (h : ∃ x, ds[i]? = some (iV x) ∧ EvW K te O ds fun r O1 => ∃ y, r = iV y ∧ A.nx O1 (ds.set i (iV (f x y)))) : StW K (tAug i te (ipI f)) O ds A := fun Hk σ H D p l => by
  obtain ⟨x, hx, h⟩ := h
  obtain z | ⟨v, hv, sv⟩ := p.env i _ hx
  · cases z
  · cases (show Da Hk v (.int x) from sv)
    refine ⟨.int x, hv, h Hk σ H p _ fun v2 r O1 Hk1 H1 e1 h1 s1 q1 => ?_⟩
    obtain ⟨y, rfl, q⟩ := q1
    cases (show Da Hk1 v2 (.int y) from s1)
    exact ⟨x, y, rfl, rfl, l.nx _ _ Hk1 _ _ e1 ((p.ext e1 h1).set (r := iV (f x y)) (.int _)) q⟩
/-! ### for a, b in zip(t, u), tuples -/
theorem s_forZT {ta : TA} {j1 j2 : Nat} {tb : TS} (h : AvW K ta O ds fun rs O1 => ∃ es fs : List PyData, rs = [.dat (.tuple es), .dat (.tuple fs)] ∧ ∃ I : Nat → Own → List SD → Prop, I 0 O1 ds ∧
    (∀ (i : Nat) d e O2 ds2, es[i]? = some d → fs[i]? = some e → I i O2 ds2 → ∀ B : AE, Bdy I i A B → StW K tb O2 ((ds2.set j1 (.dat d)).set j2 (.dat e)) B) ∧ ∀ O2 ds2, I (min es.length fs.length) O2 ds2 → A.nx O2 ds2) :
    StW K (tFor (RZ.iZipA K ta) (gTup K 2 (gCons (gName j1) (gCons (gName j2) gNil))) tb) O ds A := fun Hk σ H D p l =>
  h Hk σ H p _ fun vs rs O1 Hk1 H1 e1 h1 s1 q1 => by
    obtain ⟨es, fs, rfl, I, h0, hs, hd⟩ := q1
    obtain ⟨v, u, rfl, hv, hu⟩ := all2 s1
    cases (show Da Hk1 v (.tuple es) from hv) with
    | @tup a xs _ g1 g2 =>
      cases (show Da Hk1 u (.tuple fs) from hu) with
      | @tup b ys _ k1 k2 =>
      refine ⟨a, b, xs, ys, rfl, .inr ⟨.inl (.inl (h1.kn _ _ g1)), .inl (.inl (h1.kn _ _ k1)), fun i m σ H => m = min xs.length ys.length - i ∧ i ≤ min xs.length ys.length ∧ ∃ O2 ds2 Hk2, Same Hk1 Hk2 ∧ Pt K Hk2 O2 ds2 σ H ∧ I i O2 ds2, ⟨min xs.length ys.length, by simp, Nat.zero_le _, O1, ds, Hk1, Same.refl _, p.ext e1 h1, h0⟩, ?_⟩⟩
      rintro i m σ' H' ⟨rfl, hi, O2, ds2, Hk2, e, p2, q⟩
      have sq : SqT K H' a xs := .inl (.inl (p2.hold.kn _ _ (e _ _ g1)))
      have sk : SqT K H' b ys := .inl (.inl (p2.hold.kn _ _ (e _ _ k1)))
      by_cases hlt : i < min xs.length ys.length
      · have hlx : i < xs.length := by omega
        have hly : i < ys.length := by omega
        have hx : xs[i]? = some xs[i] := List.getElem?_eq_getElem hlx
        have hy : ys[i]? = some ys[i] := List.getElem?_eq_getElem hly
        refine .inr ⟨⟨xs, ys, xs[i], ys[i], sq, sk, hx, hy⟩, fun σ2 H2 => ∃ O3 ds3 Hk3, Same Hk1 Hk3 ∧ Pt K Hk3 O3 ds3 σ2 H2 ∧ I (i + 1) O3 ds3, fun σ2 H2 hN => ⟨min xs.length ys.length - (i + 1), by omega, rfl, hlt, hN⟩, fun x H2 y => ?_⟩
        obtain ⟨T, x', y', rfl, nT, rfl, fx, fy⟩ := y
        have ex : x' = xs[i] := by
          have := fx xs sq
          rw [hx] at this
          exact (Option.some.inj this).symm
        have ey : y' = ys[i] := by
          have := fy ys sk
          rw [hy] at this
          exact (Option.some.inj this).symm
        obtain ⟨d, hd1, hd2⟩ := g2.getV hx
        obtain ⟨d', hd3, hd4⟩ := k2.getV hy
        have smT : Same Hk2 (upd Hk2 T (.tup [x', y'])) := same_new (p2.hold.kn.free nT)
        have p3 : Pt K (upd Hk2 T (.tup [x', y'])) O2 ds2 σ' (upd H' T (.tup [x', y'])) := p2.ext smT (p2.hold.know nT)
        refine ⟨T, [x', y'], rfl, .inl (.inl upd_same), rfl, x', [y'], rfl, y', [], rfl, rfl, ?_⟩
        have hdx : SDok K (upd Hk2 T (.tup [x', y'])) x' (.dat d) := by
          have := Da.mono (e.trans smT) hd2
          rw [← ex] at this
          exact this
        have hdy : SDok K (upd Hk2 T (.tup [x', y'])) y' (.dat d') := by
          have := Da.mono (e.trans smT) hd4
          rw [← ey] at this
          exact this
        have e4 := e.trans smT
        exact hs i d d' O2 ds2 hd1 hd3 q _ .mk' _ _ _ _ ((p3.set (j := j1) hdx).set (j := j2) hdy) ⟨fun O3 ds3 Hk3 σ3 H3 e3 p3 q3 => ⟨O3, ds3, Hk3, e4.trans e3, p3, q3⟩, l.rt.ext (e1.trans e4), l.nx.ext (e1.trans e4), fun O3 ds3 Hk3 σ3 H3 e3 p3 q3 => ⟨O3, ds3, Hk3, e4.trans e3, p3, q3⟩, l.xt.ext (e1.trans e4)⟩
      · have ei : i = min xs.length ys.length := by omega
        refine .inl ⟨⟨xs, ys, sq, sk, by omega⟩, ?_⟩
        rw [ei, g2.length, k2.length] at q
        exact l.nx O2 ds2 Hk2 σ' H' (e1.trans e) p2 (hd O2 ds2 q)
theorem pi_zipT {X : Cx} (K : PySem.W.Frag) {e e2 : Expr} {ta : TA} {p pos tpos : Pos} {elts : List Expr} {kk : Nat} (hg : Gl X "zip") (hm : X.mg "zip" = none) (ha : PA X [e, e2] ta) (hK : X.K = K := by rfl)
    (hs : starEach [e, e2] X.env = (false, eval e X.env) :: starEach [e2] X.env := by rfl) (hpl : (backTo pos (starEach [e2] X.env)).any (·.1) = false := by rfl) :
    PI X (.Tuple elts kk tpos) (.Call (.Name "zip" p) [e, e2] [] pos) (RZ.iZipA K ta) := hK ▸ RZ.pi_zipA hg hm ha hs hpl
/-! ### xs.extend(ys) -/
theorem m_ext {a : Addr} {rs : List SD} {es : List PyData} (l : Lst ((a, OD.lst rs) :: Oa) x es) (hx : x ≠ .ad a) (hz : rs.length + es.length ≤ 1000000) (q : Q (.dat .none) ((a, .lst (rs ++ es.map .dat)) :: Oa)) : MbW K rExtend (.ad a) [x] ((a, OD.lst rs) :: Oa) Q := fun Hk H h u us hu hus Q' k => by
  obtain ⟨v, rfl, hv⟩ := all1 hus
  obtain ⟨b, zs, rfl, hb, hd⟩ := l.get h hv
  have e : u = .ref a := hu
  subst e
  obtain ⟨⟨vs, ha, hvs⟩, _⟩ := h.ow (a, .lst rs) List.mem_cons_self
  refine ⟨a, b, vs, zs, rfl, rfl, ha, hb, ?_, ?_⟩
  · rw [hvs.length, hd.length]
    exact Nat.le_trans hz (by decide)
  · exact k _ (.dat .none) _ Hk _ (Same.refl _) (h.write (hvs.append (SDall.of_dats hd))) .non q
/-! ### texts with values -/
def tJf (ts : List TE) : TE := fun σ H Q => tJs ts Str.empty σ H fun out H1 => Q (.str out) H1
def JsW (K : PySem.W.Frag) (ts : List TE) (n : Nat) (O : Own) (ds : List SD) (Q : Own → Prop) : Prop :=
  ∀ Hk σ H, Pt K Hk O ds σ H → ∀ acc : Str, acc.length ≤ n → ∀ Q' : Str → Hp → Prop, (∀ out O2 Hk2 H2, Same Hk Hk2 → Hold K Hk2 O2 H2 → Q O2 → Q' out H2) → tJs ts acc σ H Q'
theorem j_nil {n : Nat} {Q : Own → Prop} (q : Q O) : JsW K [] n O ds Q := fun Hk σ H p acc _ Q' k => k acc O Hk H (Same.refl _) p.hold q
theorem j_str {n : Nat} {m : Str} {ts : List TE} {Q : Own → Prop} (h : JsW K ts (n + 1000) O ds Q) (hm : m.length ≤ 1000 := by decide) (hn : n ≤ 100000 := by decide) : JsW K (tC (.str m) :: ts) n O ds Q := fun Hk σ H p acc ha Q' k => by
  have e0 : (acc ++ m).length ≤ n + 1000 := by
    rw [Str.length_append]
    omega
  exact ⟨m, rfl, Nat.le_trans e0 (Nat.le_trans (Nat.add_le_add_right hn _) (by decide)), h Hk σ H p _ e0 Q' k⟩
theorem j_fmt {n : Nat} {ts : List TE} {Q : Own → Prop} (h : EvW K te O ds fun r O1 => ∃ i : Int, r = iV i ∧ i.natAbs.log2 < 1920 ∧ JsW K ts (n + 3000) O1 ds Q) (hn : n ≤ 100000 := by decide) : JsW K (tFmt te :: ts) n O ds Q := fun Hk σ H p acc ha Q' k => by
  refine h Hk σ H p _ fun v r O1 Hk1 H1 e1 h1 s1 q1 => ?_
  obtain ⟨i, rfl, hi, q⟩ := q1
  cases (show Da Hk1 v (.int i) from s1)
  have e := int_text_length_le (k := 1920) (by decide) hi
  have e0 : (acc ++ toString i).length ≤ n + 3000 := by
    rw [Str.length_append]
    show acc.length + (PySem.Str.ofString (toString i)).length ≤ _
    rw [PySem.ofString_length]
    omega
  exact .inr ⟨i, rfl, hi, _, rfl, Nat.le_trans e0 (Nat.le_trans (Nat.add_le_add_right hn _) (by decide)), q Hk1 σ H1 (p.ext e1 h1) _ e0 Q' fun out O2 Hk2 H2 e2 => k out O2 Hk2 H2 (e1.trans e2)⟩
theorem w_js {ts : List TE} (h : JsW K ts 0 O ds fun O1 => ∀ s, Q (.dat (.str s)) O1) : EvW K (tJf ts) O ds Q := fun Hk σ H p Q' k =>
  h Hk σ H p Str.empty (Nat.le_refl _) _ fun out O2 Hk2 H2 e2 h2 q => k _ (.dat (.str out)) O2 Hk2 H2 e2 h2 (.str out) (q out)
theorem psJf {X : Cx} {v1 v2 : Expr} {rest : List Expr} {ts : List TE} {pos : Pos} (h : PJ X (v1 :: v2 :: rest) ts) : PE X (.JoinedStr (v1 :: v2 :: rest) pos) (tJf ts) := pe_joined h
theorem psExt {X : Cx} (K : PySem.W.Frag) {st : Stmt} {to : TE} {ta : TA} (hs : PS X st (tDrop (tBM X.K "list" rExtend to ta))) (h : X.K = K := by rfl) : PS X st (tDrop (tBM K "list" rExtend to ta)) := h ▸ hs
theorem sx_drop (hW : ∀ Hk, A.xt Hk → KonW K Hk Qs W) (h : EvX K W Qs te O ds fun _ O1 => A.nx O1 ds) : StW K (tDrop te) O ds A := fun Hk σ H D p l =>
  h Hk σ H p (hW Hk (l.xt Hk (Same.refl _))) _ fun v r O1 Hk1 H1 e1 h1 s1 q1 => l.nx _ _ Hk1 _ _ e1 (p.ext e1 h1) q1
/-! ### is None -/
theorem o_notN {d : PyData} {b : Bool} (hb : b = match d with | .none => false | _ => true) (q : Q (bV b) O) : OpW K (fun x y H Q => y = .non ∧ Q (.bl (!decide (x = .non))) H) (.dat d) (.dat .none) O Q := fun Hk H h u v hu hv Q' k => by
  cases (show Da Hk v .none from hv)
  refine ⟨rfl, ?_⟩
  have e : (!decide (u = V.non)) = b := by
    rw [hb]
    cases (show Da Hk u d from hu) <;> simp
  rw [e]
  exact k.now h (r := bV b) (.bl b) q
theorem o_isN {d : PyData} {b : Bool} (hb : b = match d with | .none => true | _ => false) (q : Q (bV b) O) : OpW K (fun x y H Q => y = .non ∧ Q (.bl (decide (x = .non))) H) (.dat d) (.dat .none) O Q := fun Hk H h u v hu hv Q' k => by
  cases (show Da Hk v .none from hv)
  refine ⟨rfl, ?_⟩
  have e : (decide (u = V.non)) = b := by
    rw [hb]
    cases (show Da Hk u d from hu) <;> simp
  rw [e]
  exact k.now h (r := bV b) (.bl b) q
/-! ### try .. except X: -/
def tTryO (K : PySem.W.Frag) (c : Value) (tb : WX → TS) (ts : Addr → Value → Option Addr → TS) (Wout : WX) : TS := fun D σ H => tb (wOnly K c ts Wout D) D σ H
theorem s_tryO {c : Value} {tb : WX → TS} {ts : Addr → Value → Option Addr → TS} {Wout : WX} (Qs : Addr → Option (Str × PyData) → Own → List SD → Prop)
    (hb : ∀ W : WX, StW K (tb W) O ds { A with xt := fun Hk => KonW K Hk Qs W })
    (hs : ∀ C fs O2 ds2, Qs C fs O2 ds2 → PySem.W.exmOne K (.ref C) c = some true ∧ ∀ (a : Addr) (cls : Value) (d : Option Addr), StW K (ts a cls d) O2 ds2 A) : StW K (tTryO K c tb ts Wout) O ds A := fun Hk σ H D p l => by
  refine hb (wOnly K c ts Wout D) Hk σ H D p ⟨l.nx, l.rt, l.bk, l.ct, fun Hk' e' cls d C fs σ2 O2 ds2 Hk2 H2 e2 p2 ok q => ?_⟩
  obtain ⟨ec, hsu⟩ := hs C fs O2 ds2 q
  have ec2 := ok.1
  subst ec2
  exact ⟨true, ec, fun _ a ha => hsu a (.ref C) d Hk2 σ2 H2 D p2 (l.ext (e'.trans e2)), fun z => Bool.noConfusion z⟩
theorem psTryO {X : Cx} {x : Str} {C : Addr} {body suite : List Stmt} {b₀ : Stmt} {np pos pos' : Pos} {tb : WX → TS} {ts : Addr → Value → Option Addr → TS} {Wout : WX}
    (hb : ∀ (W : WX) (pn : List (Addr × Obj)) (xe : Value → Shared → Prop), Takes (X.tr pn xe) W → PSs (X.tr pn xe) body (tb W))
    (hsu : ∀ (a : Addr) (oe : Obj) (cls : Value) (d : Option Addr) (pn : List (Addr × Obj)), Zc cls d oe → (∃ vs, oe.data = .fields vs) → PSs (X.suite a ((a, oe) :: pn)) (b₀ :: suite) (ts a cls d))
    (hs : X.stack = X.env :: X.outer) (hf : X.env.frame = some X.env.locals) (hc : Names X x (.ref C)) (tk : Takes X Wout) (hK : X.K = K := by rfl) :
    PS X (.Try body [.ExceptHandler (some (.Name x np)) none (b₀ :: suite) pos'] [] [] pos) (tTryO K (.ref C) tb ts Wout) := by
  subst hK
  exact ps_try_only hs hf hc tk (fun W pn xe t _ => hb W pn xe t) hsu
theorem log_ok {n : Int} (h1 : -(2 ^ 62) ≤ n) (h2 : n ≤ 2 ^ 62) : n.natAbs.log2 < 1920 := by
  by_cases h : n.natAbs = 0
  · rw [h]; decide
  · have : n.natAbs.log2 < 63 := (Nat.log2_lt h).mpr (by omega)
    omega
end
end Wk
namespace Wk
open PySem PySem.Spec PyProof.Rows L2
/-! ### t[::-1], a tuple -/
section
variable {prog : Program} {w : World} {A : Around} {E : Value → Shared → Prop} {s : Shared}
theorem rev_adjust (n : Nat) : Builtin.Slice.sliceAdjust none none (-1) (n : Int) = ((n : Int) - 1, -1) := by
  unfold Builtin.Slice.sliceAdjust
  rfl
theorem rev_places (n : Nat) : Builtin.Slice.slicePlaces ((n : Int) - 1) (-1) (-1) = n := by
  unfold Builtin.Slice.slicePlaces
  have h1 : ¬ ((-1 : Int) > 0) := by omega
  simp only [h1, if_false]
  by_cases h : (n : Int) - 1 > -1
  · simp only [h, if_true]
    rw [show (- -1 : Int) = 1 by decide, Int.ediv_one]
    omega
  · simp only [h, if_false]
    omega
theorem fm_range {α : Type} {f : Nat → Option α} {g : Nat → α} : ∀ (n : Nat), (∀ m, m < n → f m = some (g m)) → (List.range n).filterMap f = (List.range n).map g
  | 0, _ => rfl
  | n + 1, h => by
    rw [List.range_succ, List.filterMap_append, List.map_append, fm_range n fun m hm => h m (by omega)]
    congr 1
    simp [h n (by omega)]
theorem rev_pick1 (ys : List Value) : (List.range ys.length).filterMap (fun (m : Nat) => ys[(((ys.length : Int) - 1) + (m : Int) * (-1)).toNat]?) = ys.reverse := by
  rw [fm_range (g := fun m => ys.reverse.getD m .none) ys.length fun m hm => ?_]
  · apply List.ext_getElem?
    intro i
    by_cases hi : i < ys.length
    · rw [List.getElem?_map, List.getElem?_range hi, List.getElem?_eq_getElem (by rw [List.length_reverse]; exact hi)]
      show some (ys.reverse.getD i .none) = _
      rw [List.getD_eq_getElem?_getD, List.getElem?_eq_getElem (by rw [List.length_reverse]; exact hi)]
      rfl
    · rw [List.getElem?_eq_none (by simp; omega), List.getElem?_eq_none (by rw [List.length_reverse]; omega)]
  · have e1 : (((ys.length : Int) - 1) + (m : Int) * (-1)).toNat = ys.length - 1 - m := by omega
    have hm2 : m < ys.reverse.length := by rw [List.length_reverse]; exact hm
    rw [e1, List.getElem?_eq_getElem (by omega), List.getD_eq_getElem?_getD, List.getElem?_eq_getElem hm2, List.getElem_reverse]
    rfl
theorem rev_pick (xs : Array Value) : ((List.range xs.size).filterMap fun (m : Nat) => xs[(((xs.size : Int) - 1) + (m : Int) * (-1)).toNat]?).toArray = xs.toList.reverse.toArray := by
  have h2 := rev_pick1 xs.toList
  rw [Array.length_toList] at h2
  rw [← h2]
  congr 1
  congr 1
  funext m
  rw [Array.getElem?_toList]
theorem sliceApplied_rev {sl : Addr} {vs : Value} {n : Nat} {Q : Int × Int × Nat → Shared → Prop} (hs : s.heap.IsSliceOf sl .none .none vs) (ps : IsPart vs (some (-1)))
    (h : Q ((n : Int) - 1, -1, n) s) : wpAny (model prog w) A (Builtin.Slice.sliceApplied (.ref sl) (pure (n : Int))) Q E s := by
  obtain ⟨os, hos, hcs, hds⟩ := id hs
  unfold Builtin.Slice.sliceApplied Builtin.Slice.sliceFields
  refine wpAny_bind (wpAny_bind (wpAny_field hos hds (x := .none) rfl (wpAny_bind (wpAny_field hos hds (x := .none) rfl (wpAny_bind (wpAny_field hos hds (x := vs) rfl (wpAny_pure ?_)))))))
  refine wpAny_bind (HT.slicePart_ ps ?_)
  show wpAny _ _ (if ((-1 : Int) == 0) = true then _ else _) _ _ s
  rw [if_neg (by decide)]
  refine wpAny_bind (HT.slicePart_ .none (wpAny_bind (HT.slicePart_ .none (wpAny_bind (wpAny_pure ?_)))))
  show wpAny _ _ (match Builtin.Slice.sliceAdjust none none (-1) (n : Int) with | (lo, hi) => pure (lo, (-1 : Int), Builtin.Slice.slicePlaces lo hi (-1))) _ _ s
  rw [rev_adjust n]
  show wpAny _ _ (pure ((n : Int) - 1, (-1 : Int), Builtin.Slice.slicePlaces ((n : Int) - 1) (-1) (-1))) _ _ s
  rw [rev_places]
  exact wpAny_pure h
theorem getItem_tuple_rev {t sl : Addr} {items : Array Value} {vs : Value} {Q : Value → Shared → Prop} (ht : IsTup s.heap t items) (hs : s.heap.IsSliceOf sl .none .none vs) (ps : IsPart vs (some (-1)))
    (h : Q (.ref s.heap.objs.size) { s with heap := s.heap.push { cls := .type "tuple", data := .seq items.toList.reverse.toArray } })
    (hsz : items.size ≤ sizeLine) : wpAny (model prog w) A (getItem (.ref t) (.ref sl)) Q E s := by
  have htake : sizeOk (.seq items.toList.reverse.toArray) := by
    show items.toList.reverse.toArray.size ≤ sizeLine
    rw [List.size_toArray, List.length_reverse, Array.length_toList]
    exact hsz
  obtain ⟨os, hos, hcs, hds⟩ := id hs
  have hTs : s.TypeIs (.ref sl) "slice" := ⟨os, hos, hcs⟩
  unfold getItem
  try with_reducible refine wpAny_holding ?_
  first | refine wpAny_bind (wpAny_pure ?_) | skip
  refine wpAny_bind (wpAny_sequenceKey ht.typeIs (by decide) ?_)
  refine wpAny_bind (wpAny_callSpecial?_slot (name := Str.ofString "__getitem__") ht.typeIs PyProof.Rows.slot_tuple_getitem
    (wpAny_call_entry PyProof.Rows.slot_tuple_getitem ht.typeIs entry_tuple_getitem ?_ (args_tuple_getitem _ _)))
  show wpAny _ _ (Builtin.Tuple.tupleItemsOf (.ref t) >>= _) _ _ s
  refine wpAny_bind (tupleItemsOf_ ht ?_)
  refine wpAny_bind (wpAny_typeOf hTs ?_)
  rw [if_pos (by decide)]
  refine wpAny_bind (sliceApplied_rev hs ps ?_)
  have hno : ¬ ((((items.size : Int) - 1) == 0 && (-1 : Int) == 1 && items.size == items.size) = true) := by
    intro q
    rw [Bool.and_eq_true, Bool.and_eq_true] at q
    have q2 : (-1 : Int) = 1 := eq_of_beq q.1.2
    omega
  show wpAny _ _ (if (((items.size : Int) - 1) == 0 && (-1 : Int) == 1 && items.size == items.size) = true then _ else _) _ _ s
  rw [if_neg hno, rev_pick]
  first
    | exact wpAny_bind (m := Builtin.Tuple.tupleExact _) (wpAny_newObj_type (wpAny_pure ⟨_, rfl, wpAny_pure h⟩) htake)
    | exact wpAny_bind (m := Builtin.Tuple.tupleExact _) (wpAny_newObj_type (wpAny_bind (wpAny_pure (wpAny_pure ⟨_, rfl, wpAny_pure h⟩))) htake)
    | exact wpAny_bind (wpAny_bind (m := Builtin.Tuple.tupleExact _) (wpAny_newObj_type (wpAny_pure (wpAny_pure ⟨_, rfl, wpAny_pure h⟩)) htake))
    | exact wpAny_bind (wpAny_bind (m := Builtin.Tuple.tupleExact _) (wpAny_newObj_type (wpAny_pure ⟨_, rfl, wpAny_pure h⟩) htake))
end
section
variable {X : Cx}
def tRevT (K : PySem.W.Frag) (te : TE) : TE := fun σ H Q => te σ H fun x H1 => ∃ a xs, x = .ref a ∧ SqT K H1 a xs ∧ ∀ p, H1 p = none → Q (.ref p) (upd H1 p (.tup xs.reverse))
theorem pe_revT {e : Expr} {te : TE} {k : Nat} {p1 p2 p3 pos : Pos} (he : PE X e te) : PE X (.Subscript e (.Slice none none (some (.UnaryOp .USub (.Constant (.int 1) k p1) p2)) p3) pos) (tRevT X.K te) := by
  refine ⟨fun pins s σ H Q I h => ?_⟩
  refine Subscript_ (thn (he.run pins s σ H _ I h) fun v s1 ⟨x, H1, I1, r1, q1⟩ => ?_)
  obtain ⟨a, xs, ex, hx, q⟩ := q1
  subst ex
  cases r1
  have hst : PO X (some (.UnaryOp .USub (.Constant (.int 1) k p1) p2)) (tPart (tUn (rU fun i => .int (-i)) (tC (.int 1)))) := po_some (pe_un un_neg pe_int)
  refine wpAny_Slice (thn (po_none.run pins s1 σ H1 (fun o H2 => o = none ∧ H2 = H1) I1 ⟨rfl, rfl⟩) fun vl s2 ⟨l, H2, I2, pl, el, e2⟩ => ?_)
  subst el e2
  refine thn (po_none.run pins s2 σ H2 (fun o H3 => o = none ∧ H3 = H2) I2 ⟨rfl, rfl⟩) fun vu s3 ⟨u, H3, I3, pu, eu, e3⟩ => ?_
  subst eu e3
  refine thn (hst.run pins s3 σ H3 (fun o H4 => o = some (-1) ∧ H4 = H3) I3 ⟨1, rfl, -1, rfl, rfl, rfl⟩) fun vs s4 ⟨o, H4, I4, ps, eo, e4⟩ => ?_
  subst eo e4
  have I5 : Inv X pins σ H4 { s4 with heap := s4.heap.push { cls := .type "slice", data := .fields #[vl, vu, vs] } } := I4.kept (t' := s4.toks) fun b ob q => Heap.get?_push_of_some _ q
  obtain ⟨its, r, ht, hz⟩ := I5.tuple hx
  have hlen := r.length
  cases pl
  cases pu
  show wpAny (model X.prog X.w) X.A (subscriptTail e (.Slice none none (some (.UnaryOp .USub (.Constant (.int 1) k p1) p2)) p3) (.ref a) (.ref s4.heap.objs.size)) (EP X pins σ Q) X.xe { s4 with heap := s4.heap.push { cls := .type "slice", data := .fields #[.none, .none, vs] } }
  refine tail_any (ops := [.ref a, .ref s4.heap.objs.size]) ht.typeIs (PyProof.Rows.slot_tuple_getitem.lookup) ?_ (by with_unfolding_all rfl)
  refine getItem_tuple_rev ht (Heap.IsSliceOf.new _ .none .none vs) ps ?_ (by rw [List.size_toArray]; omega)
  refine ⟨.ref _, _, I5.laid (t' := s4.toks) (o := .tup xs.reverse) (fun b ob q => Heap.get?_push_of_some _ q) (Nat.le_refl _) ?_, rfl, q _ (I5.hok.fresh (Nat.le_refl _))⟩
  exact ⟨by rw [List.length_reverse]; exact hz, _, r.reverse, ⟨_, Heap.get?_push_size _ rfl, rfl, _, rfl⟩⟩
theorem peRevT (K : PySem.W.Frag) {e : Expr} {te : TE} {k : Nat} {p1 p2 p3 pos : Pos} (he : PE X e te) (h : X.K = K := by rfl) : PE X (.Subscript e (.Slice none none (some (.UnaryOp .USub (.Constant (.int 1) k p1) p2)) p3) pos) (tRevT K te) := h ▸ pe_revT he
end
section
variable {K : PySem.W.Frag} {O : Own} {ds : List SD} {Q : SD → Own → Prop} {te : TE}
theorem w_revT (h : EvW K te O ds fun r O1 => ∃ es : List PyData, r = .dat (.tuple es) ∧ Q (.dat (.tuple es.reverse)) O1) : EvW K (tRevT K te) O ds Q := fun Hk σ H p Q' k =>
  h Hk σ H p _ fun v r O1 Hk1 H1 e1 h1 s1 q1 => by
    obtain ⟨es, rfl, q⟩ := q1
    cases (show Da Hk1 v (.tuple es) from s1) with
    | @tup a xs _ g1 g2 =>
      refine ⟨a, xs, rfl, .inl (.inl (h1.kn _ _ g1)), fun pn hf => ?_⟩
      have sm : Same Hk1 (upd Hk1 pn (.tup xs.reverse)) := same_new (h1.kn.free hf)
      exact k _ (.dat (.tuple es.reverse)) O1 _ _ (e1.trans sm) (h1.know hf) (.tup upd_same (DaAll.mono sm g2.reverse)) q
end
end Wk
namespace Wk
open PySem PySem.Spec PyProof.Rows L2
section
variable {K : PySem.W.Frag} {Hk Hk' H H' : Hp} {O O' Oa : Own} {ds : List SD} {σ : L2.St} {Q : SD → Own → Prop} {Q' : VK} {x y : SD} {A : AE} {D : Ends} {t u : TS} {te : TE} {ta : TA}
/-! ### for i, x in enumerate(xs), a list -/
theorem s_forEL {ta : TA} {j1 j2 : Nat} {tb : TS} (h : AvW K ta O ds fun rs O1 => ∃ es : List PyData, rs = [.dat (.list es)] ∧ ∃ I : Nat → Own → List SD → Prop, I 0 O1 ds ∧
    (∀ (i : Nat) d O2 ds2, es[i]? = some d → I i O2 ds2 → ∀ B : AE, Bdy I i A B → StW K tb O2 ((ds2.set j1 (iV (i : Int))).set j2 (.dat d)) B) ∧ ∀ O2 ds2, I es.length O2 ds2 → A.nx O2 ds2) :
    StW K (tFor (iEnum K ta) (gTup K 2 (gCons (gName j1) (gCons (gName j2) gNil))) tb) O ds A := fun Hk σ H D p l =>
  h Hk σ H p _ fun vs rs O1 Hk1 H1 e1 h1 s1 q1 => by
    obtain ⟨es, rfl, I, h0, hs, hd⟩ := q1
    obtain ⟨v, rfl, hv⟩ := all1 s1
    cases (show Da Hk1 v (.list es) from hv) with
    | @lst a xs _ g1 g2 =>
      refine ⟨a, xs, rfl, .inl (.inl (h1.kn _ _ g1)), fun i m σ H => m = xs.length - i ∧ i ≤ xs.length ∧ ∃ O2 ds2 Hk2, Same Hk1 Hk2 ∧ Pt K Hk2 O2 ds2 σ H ∧ I i O2 ds2, ⟨xs.length, by simp, Nat.zero_le _, O1, ds, Hk1, Same.refl _, p.ext e1 h1, h0⟩, ?_⟩
      rintro i m σ' H' ⟨rfl, hi, O2, ds2, Hk2, e, p2, q⟩
      have sq : SqL K H' a xs := .inl (.inl (p2.hold.kn _ _ (e _ _ g1)))
      by_cases hlt : i < xs.length
      · have hx : xs[i]? = some xs[i] := List.getElem?_eq_getElem hlt
        refine .inr ⟨⟨xs, xs[i], sq, hx⟩, fun σ2 H2 => ∃ O3 ds3 Hk3, Same Hk1 Hk3 ∧ Pt K Hk3 O3 ds3 σ2 H2 ∧ I (i + 1) O3 ds3, fun σ2 H2 hN => ⟨xs.length - (i + 1), by omega, rfl, hlt, hN⟩, fun x H2 y => ?_⟩
        obtain ⟨T, x', rfl, nT, rfl, fx⟩ := y
        have ex : x' = xs[i] := by
          have := fx xs sq
          rw [hx] at this
          exact (Option.some.inj this).symm
        obtain ⟨d, hd1, hd2⟩ := g2.getV hx
        have smT : Same Hk2 (upd Hk2 T (.tup [.int (i : Nat), x'])) := same_new (p2.hold.kn.free nT)
        have p3 : Pt K (upd Hk2 T (.tup [.int (i : Nat), x'])) O2 ds2 σ' (upd H' T (.tup [.int (i : Nat), x'])) := p2.ext smT (p2.hold.know nT)
        refine ⟨T, [.int (i : Nat), x'], rfl, .inl (.inl upd_same), rfl, .int (i : Nat), [x'], rfl, x', [], rfl, rfl, ?_⟩
        have hdx : SDok K (upd Hk2 T (.tup [.int (i : Nat), x'])) x' (.dat d) := by
          have := Da.mono (e.trans smT) hd2
          rw [← ex] at this
          exact this
        have e4 := e.trans smT
        exact hs i d O2 ds2 hd1 q _ .mk' _ _ _ _ ((p3.set (j := j1) (r := iV (i : Int)) (.int _)).set (j := j2) hdx) ⟨fun O3 ds3 Hk3 σ3 H3 e3 p3 q3 => ⟨O3, ds3, Hk3, e4.trans e3, p3, q3⟩, l.rt.ext (e1.trans e4), l.nx.ext (e1.trans e4), fun O3 ds3 Hk3 σ3 H3 e3 p3 q3 => ⟨O3, ds3, Hk3, e4.trans e3, p3, q3⟩, l.xt.ext (e1.trans e4)⟩
      · have ei : i = xs.length := by omega
        refine .inl ⟨⟨xs, sq, by omega⟩, ?_⟩
        rw [ei, g2.length] at q
        exact l.nx O2 ds2 Hk2 σ' H' (e1.trans e) p2 (hd O2 ds2 q)
theorem pi_enumL {X : Cx} (K : PySem.W.Frag) {e : Expr} {ta : TA} {p pos tpos : Pos} {elts : List Expr} {kk : Nat} (hg : Gl X "enumerate") (hm : X.mg "enumerate" = none) (ha : PA X [e] ta) (hK : X.K = K := by rfl) (hs : starEach [e] X.env = [(false, eval e X.env)] := by rfl) :
    PI X (.Tuple elts kk tpos) (.Call (.Name "enumerate" p) [e] [] pos) (iEnum K ta) := hK ▸ pi_enum hg hm ha hs
/-! ### list(range(a, b)) -/
def rgI (a b : Int) : List Int := (List.range (b - a).toNat).map fun i => a + (i : Nat)
theorem w_lstRg2 {ta tb : TE} (h : EvW K ta O ds fun r1 O1 => EvW K tb O1 ds fun r2 O2 => ∃ a b : Int, r1 = iV a ∧ r2 = iV b ∧ RgOk a b ∧ Q (.dat (lI (rgI a b))) O2) : EvW K (tLstRg (tRg2 ta tb)) O ds Q := fun Hk σ H p Q' k =>
  h Hk σ H p _ fun v r1 O1 Hk1 H1 e1 h1 s1 q1 => q1 Hk1 σ H1 (p.ext e1 h1) _ fun u r2 O2 Hk2 H2 e2 h2 s2 q2 => by
    obtain ⟨a, b, rfl, rfl, hr, q⟩ := q2
    cases (show Da Hk1 v (.int a) from s1)
    cases (show Da Hk2 u (.int b) from s2)
    refine ⟨a, b, rfl, rfl, hr, fun pn hf => ?_⟩
    have sm : Same Hk2 (upd Hk2 pn (.lst (rgV a b))) := same_new (h2.kn.free hf)
    have hd : ∀ H : Hp, DaAll H (rgV a b) ((rgI a b).map PyData.int) := fun H => by
      have := DaAll.of_ints (H := H) (rgI a b)
      unfold rgI at this ⊢
      rw [List.map_map] at this
      exact this
    exact k _ (.dat (lI (rgI a b))) O2 _ _ ((e1.trans e2).trans sm) (h2.know hf) (.lst upd_same (hd _)) q
end
end Wk
namespace Wk
open PySem PySem.Spec PyProof.Rows L2
section
variable {K : PySem.W.Frag} {Hk Hk' H H' : Hp} {O O' : Own} {ds : List SD} {σ : L2.St} {Q : SD → Own → Prop} {Q' : VK} {r : R2} {x y : SD} {A : AE} {D : Ends} {t u : TS} {te : TE} {tc : TT}
/-! ### a comprehension over range(a, b) -/
theorem w_lc2 {ta : TA} {j : Nat} {tt : TT} (h : AvW K ta O ds fun rs O1 => ∃ lo n : Int, rs = [iV lo, iV n] ∧ (-(2 ^ 62) ≤ lo ∧ lo < 2 ^ 62 ∧ -(2 ^ 62) ≤ n ∧ n < 2 ^ 62) ∧ n - lo ≤ 1000000 ∧ ∃ I : Nat → List SD → Own → Prop, I 0 [] O1 ∧
    (∀ (i : Nat) acc O2, lo + (i : Int) < n → acc.length ≤ i → I i acc O2 → LcTurn K tt te O2 (ds.set j (iV (lo + (i : Int)))) acc (I (i + 1))) ∧ ∀ acc O2 Dl, I (n - lo).toNat acc O2 → Q (.ad Dl) ((Dl, .lst acc) :: O2)) : EvW K (tLc (iRng2 ta) (gName j) tt te [j]) O ds Q := fun Hk σ H p Q' k =>
  h Hk σ H p _ fun vs rs O1 Hk1 H1 e1 h1 s1 q1 => by
    obtain ⟨lo, n, rfl, hn, hz0, I, h0, hs, hd⟩ := q1
    obtain ⟨v, v2, rfl, hv, hv2⟩ := all2 s1
    cases (show Da Hk1 v (.int lo) from hv)
    cases (show Da Hk1 v2 (.int n) from hv2)
    refine ⟨lo, n, rfl, hn, fun Dl hf => lc_range (lo := lo) (n := (n - lo).toNat) (fun i H => ∃ acc O2 Hk2, Same Hk1 Hk2 ∧ acc.length ≤ i ∧ Hold K Hk2 ((Dl, OD.lst acc) :: O2) H ∧ I i acc O2)
      ⟨[], O1, Hk1, Same.refl _, Nat.le_refl _, h1.own hf .nil, h0⟩ (fun i H2 hi hP => ?_) (fun H2 hP => ?_)⟩
    · obtain ⟨acc, O2, Hk2, e2, hl, hh, q⟩ := hP
      have hz : acc.length < sizeLine := Nat.lt_of_lt_of_le (show acc.length < 1000001 by omega) (by decide)
      have ht := hs i acc O2 (by omega) hl q
      refine lc_turn (d := iV (lo + (i : Int))) (P' := fun H => ∃ acc2 O3 Hk2, Same Hk1 Hk2 ∧ acc2.length ≤ i + 1 ∧ Hold K Hk2 ((Dl, OD.lst acc2) :: O3) H ∧ I (i + 1) acc2 O3) (I' := fun acc2 O3 => acc2.length ≤ i + 1 ∧ I (i + 1) acc2 O3) ?_ hz ((p.ext e1 h1).ext e2 (hh.sub (List.sublist_cons_self ..))) hh (.int _) fun acc2 O3 Hk3 H3 e3 h3 q3 => ⟨acc2, O3, Hk3, e2.trans e3, q3.1, h3, q3.2⟩
      intro Dl2 Hk3 σ3 H3 p3 Q3 k3
      refine ht Dl2 Hk3 σ3 H3 p3 Q3 fun b O3 Hk4 H4 e4 h4 q4 => k3 b O3 Hk4 H4 e4 h4 ⟨fun hb => w_mono (q4.1 hb) fun r O4 ⟨O5, hp, q5⟩ => ⟨O5, hp, by rw [List.length_append]; simp; omega, q5⟩, fun hb => ?_⟩
      obtain ⟨O5, hp, q5⟩ := q4.2 hb
      exact ⟨O5, hp, by omega, q5⟩
    · obtain ⟨acc, O2, Hk2, e2, hl, hh, q⟩ := hP
      exact k _ (.ad Dl) _ Hk2 H2 (e1.trans e2) hh rfl (hd acc O2 Dl q)
end
/-! ### a tuple, no times -/
theorem tuple_mul0 (l : Addr) (items : Array Value) (n : Nat) (dd : Option Addr) (sl : Array (Option Value)) (x : Int) (u : Tok) (c0 : (decide (x < -(2 ^ 63)) || decide (x ≥ 2 ^ 63)) = false) (c1 : (items.isEmpty || x == 1) = false) (c2 : (decide (x ≤ 0) || items.isEmpty) = true) :
    Meets (Builtin.«tuple.__mul__» ⟨[.ref l, .int x u], []⟩) (fun _ R s => s.heap.get? l = some { cls := .type "tuple", dict := dd, data := .seq items n, slots := sl } ∧
      R (.ok (.ret (Value.ref s.heap.objs.size))) { s with heap := s.heap.push { cls := Value.type "tuple", data := Data.seq #[] }, toks := s.toks }) :=
  .of_wp fun prog w A R s h => by
    obtain ⟨hp, g, d, tk, os⟩ := s
    obtain ⟨hl, h⟩ := h
    have f1 := AutoSeq1.idx_int
    wp_walk using wpAny_loadPart' hl
    repeat (first
      | (refine wpAny_ite_false (decide_eq_false (by rw [c0]; exact Bool.false_ne_true)) ?_; wp_walk using wpAny_loadPart' hl)
      | (refine wpAny_ite_false (decide_eq_false (by rw [c1]; exact Bool.false_ne_true)) ?_; wp_walk using wpAny_loadPart' hl)
      | (refine wpAny_ite_true (decide_eq_true (by rw [c2])) ?_; wp_walk using wpAny_loadPart' hl))
    exact ⟨_, rfl, h⟩
def rRep2 (K : PySem.W.Frag) : R2 := fun x y H Q => rRep1 K x y H Q ∨ ∃ l k xs, x = .ref l ∧ y = .int k ∧ SqT K H l xs ∧ xs ≠ [] ∧ k ≤ 0 ∧ -(2 ^ 62) ≤ k ∧ ∀ p, H p = none → Q (.ref p) (upd H p (.tup []))
theorem op_rep2 {X : Cx} : OpR X (binaryOp .Mult) (rRep2 X.K) := by
  intro pins s σ H x y v u Q I rx ry h
  rcases h with h | h
  · exact op_rep1 pins s σ H x y v u Q I rx ry h
  obtain ⟨l, k, xs, rfl, rfl, hT, hne, h1, h2, q⟩ := h
  cases rx
  obtain ⟨t, rfl⟩ := ry
  obtain ⟨its, r, ⟨⟨cls, dd, data, sl⟩, ho, hc, n, hd⟩, hs⟩ := I.tuple hT
  simp only at hc hd
  subst hc hd
  have hle : its.length = xs.length := r.length.symm
  have hn : its ≠ [] := fun e => hne (by
    rw [e] at hle
    exact List.eq_nil_of_length_eq_zero hle.symm)
  have hi : its.toArray.isEmpty = false := by
    cases its with
    | nil => exact absurd rfl hn
    | cons a b => rfl
  have c0 : (decide (k < -(2 ^ 63)) || decide (k ≥ 2 ^ 63)) = false := by
    rw [decide_eq_false (by omega), decide_eq_false (by omega)] <;> rfl
  have c1 : (its.toArray.isEmpty || k == 1) = false := by
    rw [hi, Bool.false_or]
    exact beq_eq_false_iff_ne.mpr (by omega)
  have c2 : (decide (k ≤ 0) || its.toArray.isEmpty) = true := by
    rw [decide_eq_true h1]
    rfl
  refine wpAny_binaryOp_repeat_ref (T := "tuple") (U := "int") (by decide) ⟨_, ho, rfl⟩ (fun s' => typeIs_int s' k t) noFill_tuple_mul F.fills_int_mul F.slot_int_rmul repeat_tuple F.slot_int_index.lookup
    (call_meets F.slot_int_rmul (typeIs_int s k t) F.entry_int_rmul (F.args_int_rmul_2 _ _) (int_rmul_tuple k t l its.toArray n dd sl)
      ⟨ho, rfl, ⟨_, ho, rfl⟩, call_meets F.slot_tuple_mul ⟨_, ho, rfl⟩ F.entry_tuple_mul (F.args_tuple_mul_2 _ _) (tuple_mul0 l its.toArray n dd sl k t c0 c1 c2) ⟨ho, ?_⟩⟩)
  refine ⟨.ref s.heap.objs.size, _, I.laid (t' := s.toks) (o := .tup []) (fun b ob q => Heap.get?_push_of_some _ q) (Nat.le_refl _) ?_, rfl, q _ (I.hok.fresh (Nat.le_refl _))⟩
  exact ⟨Nat.zero_le _, _, .nil, IsTup.new _ _⟩
section
variable {X : Cx} (K : PySem.W.Frag)
theorem kRep2 (h : X.K = K := by rfl) : OpR X (binaryOp .Mult) (rRep2 K) := h ▸ op_rep2
end
section
variable {K : PySem.W.Frag} {O : Own} {Q : SD → Own → Prop}
theorem g_rep2 {d : PyData} {k : Int} (h0 : -(2 ^ 62) ≤ k) (h1 : k ≤ 1000) (q : Q (.dat (.tuple (List.replicate k.toNat d))) O) : OpW K (rRep2 K) (.dat (.tuple [d])) (iV k) O Q := fun Hk H h u v hu hv Q' kk => by
  by_cases h2 : 1 ≤ k
  · exact .inl (g_rep1 h2 h1 q Hk H h u v hu hv Q' kk)
  · cases (show Da Hk v (.int k) from hv)
    cases (show Da Hk u (.tuple [d]) from hu) with
    | @tup a xs _ g1 g2 =>
      have hl : xs.length = 1 := g2.length
      refine .inr ⟨a, k, xs, rfl, rfl, .inl (.inl (h.kn _ _ g1)), (fun z => by rw [z] at hl; cases hl), by omega, h0, fun l hf => ?_⟩
      rw [show k.toNat = 0 by omega] at q
      have sm := same_new (o := .tup []) (h.kn.free hf)
      exact kk _ (.dat (.tuple [])) O _ _ sm (h.know hf) (.tup upd_same .nil) q
end
end Wk
namespace Wk
open PySem PySem.Spec PyProof.Rows L2
/-! ### dicts whose keys are tuples of ints, whose values are ints; owned -/
abbrev kvF (p : List Int × Int) : List Key × V := (p.1.map Sum.inl, V.int p.2)
abbrev dtO (kvs : List (List Int × Int)) : OD := .obj (.dT (kvs.map kvF)) [] []
def putI (kvs : List (List Int × Int)) (k : List Int) (v : Int) : List (List Int × Int) :=
  if kvs.any (fun p => decide (p.1 = k)) then kvs.map fun p => if p.1 = k then (p.1, v) else p else kvs ++ [(k, v)]
theorem inl_inj : ∀ {a b : List Int}, a.map (Sum.inl : Int → Key) = b.map Sum.inl → a = b
  | [], [], _ => rfl
  | [], _ :: _, h => by cases h
  | _ :: _, [], h => by cases h
  | x :: a, y :: b, h => by
    rw [List.map_cons, List.map_cons] at h
    injection h with h1 h2
    injection h1 with h1
    rw [h1, inl_inj h2]
theorem kvF_key {p : List Int × Int} {k : List Int} : (kvF p).1 = k.map Sum.inl ↔ p.1 = k := ⟨fun h => inl_inj h, fun h => by rw [← h]⟩
theorem putI_len (kvs : List (List Int × Int)) (k : List Int) (v : Int) : (putI kvs k v).length ≤ kvs.length + 1 := by
  unfold putI
  split
  · rw [List.length_map]; omega
  · rw [List.length_append]; exact Nat.le_refl _
theorem put_map (kvs : List (List Int × Int)) (k : List Int) (v : Int) : putK (kvs.map kvF) (k.map Sum.inl) (V.int v) = (putI kvs k v).map kvF := by
  unfold putK putI
  have e : ((kvs.map kvF).any fun kv => decide (kv.1 = k.map Sum.inl)) = kvs.any fun p => decide (p.1 = k) := by
    rw [List.any_map]
    congr 1
    funext p
    show decide ((kvF p).1 = k.map Sum.inl) = decide (p.1 = k)
    by_cases h : p.1 = k
    · rw [decide_eq_true h, decide_eq_true (kvF_key.mpr h)]
    · rw [decide_eq_false h, decide_eq_false fun z => h (kvF_key.mp z)]
  rw [e]
  by_cases h : (kvs.any fun p => decide (p.1 = k)) = true
  · rw [if_pos h, if_pos h, List.map_map, List.map_map]
    congr 1
    funext p
    show (if (kvF p).1 = k.map Sum.inl then ((kvF p).1, V.int v) else kvF p) = kvF (if p.1 = k then (p.1, v) else p)
    by_cases z : p.1 = k
    · rw [if_pos z, if_pos (kvF_key.mpr z)]
    · rw [if_neg z, if_neg fun q => z (kvF_key.mp q)]
  · rw [if_neg h, if_neg h, List.map_append]
    rfl
theorem valV_at : ∀ {kvs : List (List Int × Int)} {i : Nat} {p : List Int × Int}, (kvs.map (·.1)).Nodup → kvs[i]? = some p → valV (kvs.map kvF) (p.1.map Sum.inl) = some (V.int p.2)
  | [], i, p, _, h => by simp at h
  | x :: r, 0, p, _, h => by
    simp at h
    subst h
    exact valV_pos rfl
  | x :: r, i + 1, p, hn, h => by
    rw [List.map_cons, List.nodup_cons] at hn
    have h' : r[i]? = some p := by simpa using h
    have hne : ¬ (kvF x).1 = p.1.map Sum.inl := fun z => by
      have e := inl_inj z
      exact hn.1 (List.mem_map.mpr ⟨p, List.mem_of_getElem? h', e.symm⟩)
    show valV (kvF x :: r.map kvF) _ = _
    rw [valV_neg hne]
    exact valV_at hn.2 h'
theorem DaAll.keys {H : Hp} {vs : List V} {ks : List Int} (h : DaAll H vs (ks.map PyData.int)) : vs = (ks.map (Sum.inl : Int → Key)).map kV := by
  rw [h.ints, List.map_map]
  rfl
section
variable {K : PySem.W.Frag} {Hk Hk' H H' : Hp} {O O' Oa : Own} {ds : List SD} {σ : L2.St} {Q : SD → Own → Prop} {Q' : VK} {x y : SD} {A : AE} {D : Ends} {t u : TS} {te td to ti : TE}
/-- {} -/
theorem w_dnewT (q : ∀ l, Q (.ad l) ((l, dtO []) :: O)) : EvW K tDNewT O ds Q := fun Hk σ H p Q' k l hf =>
  k _ (.ad l) _ Hk _ (Same.refl _) (p.hold.ownG (x := dtO []) hf ⟨upd_same, .nil⟩) rfl (q l)
/-- d[k] = e, k a tuple of ints, e an int -/
theorem s_setT (h : EvW K te O ds fun r O1 => EvW K to O1 ds fun ro O2 => EvW K ti O2 ds fun ri O3 =>
    ∃ a kvs ks v Oa O4, r = iV v ∧ ro = .ad a ∧ ri = .dat (tI ks) ∧ O3.Perm ((a, dtO kvs) :: Oa) ∧ kvs.length ≤ 1000000 ∧ Own.P ((a, dtO (putI kvs ks v)) :: Oa) O4 ∧ A.nx O4 ds) : StW K (tAsg te (gSub to ti rSetD)) O ds A := fun Hk σ H D p l =>
  h Hk σ H p _ fun v r O1 Hk1 H1 e1 h1 s1 q1 => q1 Hk1 σ H1 (p.ext e1 h1) _ fun vo ro O2 Hk2 H2 e2 h2 s2 q2 => q2 Hk2 σ H2 ((p.ext e1 h1).ext e2 h2) _ fun vi ri O3 Hk3 H3 e3 h3 s3 q3 => by
    obtain ⟨a, kvs, ks, z, Oa, O4, rfl, rfl, rfl, hp, hl, hp2, q⟩ := q3
    cases (show Da Hk1 v (.int z) from s1)
    cases (show vo = .ref a from s2)
    have h' := h3.perm hp
    obtain ⟨⟨g1, _⟩, ka⟩ := h'.ow _ List.mem_cons_self
    cases (show Da Hk3 vi (tI ks) from s3) with
    | @tup b xs _ b1 b2 =>
      have eb : H3 b = some (.tup ((ks.map (Sum.inl : Int → Key)).map kV)) := by
        rw [← b2.keys]
        exact h3.kn _ _ b1
      refine ⟨a, _, rfl, DPut.t (v := V.int z) g1 eb (by rw [List.length_map]; exact Nat.lt_of_le_of_lt hl (by decide)), ?_⟩
      rw [put_map]
      exact l.nx _ ds Hk3 σ _ (e1.trans (e2.trans e3)) (p.ext (e1.trans (e2.trans e3)) ((h'.writeG (y := dtO (putI kvs ks z)) ⟨upd_same, .nil⟩).perm hp2)) q
/-- [d[k] for k in d] -/
theorem w_lcDT {i j : Nat} {a : Addr} {kvs : List (List Int × Int)} (hi : ds[i]? = some (.ad a)) (hij : i ≠ j) (hj : j < ds.length) (hp : O.Perm ((a, dtO kvs) :: Oa)) (hn : (kvs.map (·.1)).Nodup) (hl : kvs.length ≤ 1000000)
    (q : ∀ Dl, Q (.ad Dl) ((Dl, .lst (kvs.map fun p => iV p.2)) :: O)) : EvW K (tLockE (tLc (iKeys (tVar i)) (gName j) tYes (tDGet (tVar i) (tVar j)) [j])) O ds Q := fun Hk σ H p Q' k => by
  rcases p.env i (.ad a) hi with z | ⟨v, hv, hs⟩
  · cases z
  cases (show v = .ref a from hs)
  obtain ⟨⟨g1, _⟩, ka⟩ := (p.hold.perm hp).ow _ List.mem_cons_self
  refine ⟨a, _, g1, trivial, fun od => ?_⟩
  have g2 : (upd H a (.frz od (.dT (kvs.map kvF)))) a = some (.frz od (.dT (kvs.map kvF))) := upd_same
  generalize hH1 : upd H a (.frz od (.dT (kvs.map kvF))) = H1 at g2
  refine ⟨.ref a, hv, a, od, rfl, .inr ⟨kvs.map kvF, g2, fun Dl hf => ?_⟩⟩
  have hne : a ≠ Dl := fun z => by rw [z, hf] at g2; cases g2
  have hHf : H Dl = none := by rw [← hH1, upd_ne (Ne.symm hne)] at hf; exact hf
  have hlen : (kvs.map kvF).length = kvs.length := List.length_map ..
  refine lc_it walk_keysT (fun n H2 => H2 = upd H1 Dl (.lst ((kvs.take n).map fun p => V.int p.2))) rfl (fun n H2 _ e => ?_) (fun n x H2 H3 hlt e y => ?_) (fun H2 e => ?_)
  · rw [e, upd_ne hne]
    exact g2
  · obtain ⟨e3, kk, v, b, hk, rfl, hb⟩ := y
    subst e3
    refine ⟨wipe_wipe _, ?_⟩
    rw [wipe_set]
    unfold tYes
    show (if true = true then _ else _)
    rw [if_pos rfl]
    rw [List.getElem?_map] at hk
    cases hkn : kvs[n]? with
    | none => rw [hkn] at hk; cases hk
    | some pr =>
      rw [hkn] at hk
      injection hk with hk
      injection hk with hk1 hk2
      refine ⟨.ref a, by rw [List.getElem?_set_ne (Ne.symm hij)]; exact hv, ?_⟩
      have hjs : j < σ.length := by rw [p.len]; exact hj
      · refine ⟨.ref b, List.getElem?_set_self hjs, a, V.int pr.2, rfl, ?_, ?_⟩
        · refine .inr ⟨kvs.map kvF, kk, b, .inr ⟨od, by rw [e, upd_ne hne]; exact g2⟩, rfl, hb, ?_⟩
          rw [← hk1]
          exact (valV_at hn hkn).symm
        · refine ⟨(kvs.take n).map fun p => V.int p.2, by rw [e, upd_same], by rw [List.length_map, List.length_take]; exact Nat.lt_of_le_of_lt (Nat.le_trans (Nat.min_le_right _ _) hl) (by decide), ?_⟩
          rw [e]
          funext c
          by_cases hc : c = Dl
          · rw [hc, upd_same, upd_same, List.take_add_one, hkn, List.map_append]
            rfl
          · rw [upd_ne hc, upd_ne hc, upd_ne hc]
  · rw [hlen, List.take_length] at e
    refine ⟨by rw [e, upd_ne hne]; exact g2, ?_⟩
    have eH : upd H2 a (.dT (kvs.map kvF)) = upd H Dl (.lst (kvs.map fun p => V.int p.2)) := by
      rw [e, ← hH1]
      funext c
      by_cases hc : c = a
      · rw [hc, upd_same, upd_ne hne]
        exact g1.symm
      · rw [upd_ne hc]
        by_cases hd : c = Dl
        · rw [hd, upd_same, upd_same]
        · rw [upd_ne hd, upd_ne hd, upd_ne hc]
    rw [eH]
    refine k _ (.ad Dl) _ Hk _ (Same.refl _) (p.hold.own hHf ?_) rfl (q Dl)
    have : ∀ kvs : List (List Int × Int), SDall K Hk (kvs.map fun p => V.int p.2) (kvs.map fun p => iV p.2) := fun kvs => by
      induction kvs with
      | nil => exact .nil
      | cons a r ih => exact .cons (.int _) ih
    exact this kvs
end
/-! ### a def that calls itself -/
def preM (p : Nat → List SD → Own → (SD → Own → Prop) → Prop) : Nat → List SD → Own → (SD → Own → Prop) → Prop
  | 0 => fun _ _ _ => False
  | n + 1 => p n
theorem FnOk.never {P : Program} {w : World} {K : PySem.W.Frag} {mg : Str → Option Value} {base : Heap} {k : Nat} {f : Addr} {fd : FuncData} {ps : List Str} {p : Nat → List SD → Own → (SD → Own → Prop) → Prop} : FnOk P w K mg base CX0 k f fd ps (spW K (preM p 0)) :=
  ⟨fun _ _ _ _ ⟨_, _, _, _, _, _, h, _⟩ => h.elim, fun _ _ _ _ _ _ _ _ _ _ _ _ _ ⟨_, _, _, _, _, _, h, _⟩ => h.elim⟩
end Wk
namespace Wk
open PySem PySem.Spec PyProof.Rows L2
/-! ### texts: lists of signs -/
abbrev sT (l : List Nat) : Str := ⟨l.toArray⟩
theorem sT_len (a : List Nat) : (sT a).length = a.length := by simp [sT, Str.length]
theorem sT_cat (a b : List Nat) : sT a ++ sT b = sT (a ++ b) := TL.ext_tl (TL.tl_append (sT a) (sT b))
theorem sT_inj {a b : List Nat} (h : sT a = sT b) : a = b := congrArg (fun x : Str => x.cps.toList) h
theorem sT_lit (s : String) : Str.ofString s = sT (s.toList.map Char.toNat) := TL.ext_tl (by rw [TL.tl_ofString])
theorem at_sT {a y : List Nat} {i : Nat} : StrLaws.At (sT a) (sT y) (sT a).length i ↔ i + y.length ≤ a.length ∧ (a.drop i).take y.length = y := by
  unfold StrLaws.At
  rw [StrLaws.subAt_eq, sT_len, sT_len]
  show _ ∧ ((a.drop i).take y.length == y) = true ↔ _
  rw [beq_iff_eq]
theorem findT (a y : List Nat) : (Txt.find (sT a) (sT y) = -1 ∧ ∀ q s, a ≠ q ++ y ++ s) ∨ ∃ q s, a = q ++ y ++ s ∧ Txt.find (sT a) (sT y) = (q.length : Int) := by
  unfold Txt.find
  have hf := StrLaws.found_iff (sT a) (sT y)
  have hs := StrLaws.occ_spec (sT a) (sT y) 0 (sT a).length 1
  cases h : Builtin.Str.occurrences (sT a) (sT y) 0 (sT a).length 1 with
  | nil =>
    rw [h] at hf
    refine .inl ⟨rfl, fun q s e => ?_⟩
    have : (!([] : List Nat).isEmpty) = true := hf.mpr ⟨q.length, (at_sT (a := a) (y := y) (i := q.length)).mpr (by
      rw [e]
      refine ⟨by simp, ?_⟩
      rw [List.append_assoc, List.drop_left, List.take_left])⟩
    cases this
  | cons i r =>
    rw [h] at hs
    have h1 := (at_sT (a := a) (y := y) (i := i)).mp (hs i List.mem_cons_self)
    refine .inr ⟨a.take i, a.drop (i + y.length), ?_, ?_⟩
    · have e1 := (List.take_append_drop i a).symm
      have e2 := (List.take_append_drop y.length (a.drop i)).symm
      rw [h1.2, List.drop_drop] at e2
      rw [List.append_assoc, ← e2]
      exact e1
    · rw [List.length_take, show min i a.length = i by omega]
theorem countT_go {a : List Nat} {c : Nat} : ∀ {cuts : List Nat} {k f : Nat}, StrLaws.ChainG (sT a) (sT [c]) (sT a).length k cuts f → (∀ j, f ≤ j → ¬ StrLaws.At (sT a) (sT [c]) (sT a).length j) → (a.drop k).count c = cuts.length := by
  have noat : ∀ j, ¬ StrLaws.At (sT a) (sT [c]) (sT a).length j → (a.drop j).count c = (a.drop (j + 1)).count c := fun j h => by
    by_cases hj : j < a.length
    · rw [List.drop_eq_getElem_cons hj, List.count_cons]
      have : ¬ (a[j] = c) := fun e => h (at_sT.mpr ⟨by show j + 1 ≤ _; omega, by rw [List.drop_eq_getElem_cons hj, e]; rfl⟩)
      rw [if_neg (by rw [beq_iff_eq]; exact this), Nat.add_zero]
    · rw [List.drop_eq_nil_of_le (by omega), List.drop_eq_nil_of_le (by omega)]
  have skip : ∀ (n k : Nat), (∀ j, k ≤ j → j < k + n → ¬ StrLaws.At (sT a) (sT [c]) (sT a).length j) → (a.drop k).count c = (a.drop (k + n)).count c := by
    intro n
    induction n with
    | zero => exact fun _ _ => rfl
    | succ n ih =>
      intro k h
      rw [ih k fun j h1 h2 => h j h1 (by omega), noat (k + n) (h _ (by omega) (by omega)), Nat.add_assoc]
  intro cuts
  induction cuts with
  | nil =>
    intro k f h hn
    have e : f = k := h
    subst e
    rw [skip a.length f fun j h1 _ => hn j h1, List.drop_eq_nil_of_le (by omega)]
    rfl
  | cons d r ih =>
    intro k f h hn
    obtain ⟨h1, h2, h3, h4⟩ := h
    have e := ih h4 hn
    have e1 := skip (d - k) k fun j h5 h6 => h3 j h5 (by omega)
    rw [show k + (d - k) = d by omega] at e1
    obtain ⟨h5, h6⟩ := at_sT.mp h2
    have hd : d < a.length := by
      have : d + 1 ≤ a.length := h5
      omega
    rw [List.drop_eq_getElem_cons hd] at h6
    have h6 : a[d] = c := by
      have : [a[d]] = [c] := h6
      injection this
    rw [e1, List.drop_eq_getElem_cons hd, List.count_cons, h6, if_pos (by rw [beq_self_eq_true]), List.length_cons, ← e]
    rfl
theorem countT (a : List Nat) (c : Nat) : Txt.count (sT a) (sT [c]) = ((a.count c : Nat) : Int) := by
  unfold Txt.count
  obtain ⟨f, h1, h2⟩ := StrLaws.occ_tight (sT a) (sT [c]) (by rw [sT_len]; exact Nat.le_refl 1)
  have := countT_go h1 h2
  rw [List.drop_zero] at this
  rw [this]
theorem cutT (a : List Nat) (lo hi : Option Int) : cutS (sT a) lo hi = sT (cut a lo hi) := by
  unfold cutS cut
  rw [sT_len]
section
variable {K : PySem.W.Frag} {Hk Hk' H H' : Hp} {O O' Oa : Own} {ds : List SD} {σ : L2.St} {Q : SD → Own → Prop} {Q' : VK} {x y : SD} {A : AE} {D : Ends} {t u : TS} {te td to ti : TE}
theorem o_addS {a b : List Nat} (hz : a.length + b.length ≤ 1000000) (q : Q (.dat (.str (sT (a ++ b)))) O) : OpW K (fun x y H Q => ∃ i j, x = .str i ∧ y = .str j ∧ i.length + j.length ≤ sizeLine ∧ Q (.str (i ++ j)) H) (.dat (.str (sT a))) (.dat (.str (sT b))) O Q := fun Hk H h u v hu hv Q' k => by
  cases (show Da Hk u (.str (sT a)) from hu)
  cases (show Da Hk v (.str (sT b)) from hv)
  refine ⟨_, _, rfl, rfl, by rw [sT_len, sT_len]; exact Nat.le_trans hz (by decide), ?_⟩
  rw [sT_cat]
  exact k.now h (r := .dat (.str _)) (.str _) q
theorem sl_S {a : List Nat} {lo hi : Option Int} (hz : a.length ≤ 1000000) (q : Q (.dat (.str (sT (cut a lo hi)))) O) : SlW K rSlS (.dat (.str (sT a))) lo hi O Q := fun Hk H h u hu Q' k => by
  cases (show Da Hk u (.str (sT a)) from hu)
  refine ⟨_, rfl, by rw [sT_len]; exact Nat.le_trans hz (by decide), ?_⟩
  rw [cutT]
  exact k.now h (r := .dat (.str _)) (.str _) q
theorem o_ixS {a : List Nat} {i : Int} {c : Nat} (hz : a.length ≤ 1000000) (ha : atI a i = some c) (q : Q (.dat (.str (sT [c]))) O) : OpW K rIxS (.dat (.str (sT a))) (iV i) O Q := fun Hk H h u v hu hv Q' k => by
  cases (show Da Hk u (.str (sT a)) from hu)
  cases (show Da Hk v (.int i) from hv)
  exact ⟨_, i, c, rfl, rfl, by rw [sT_len]; exact Nat.le_trans hz (by decide), ha, k.now h (r := .dat (.str _)) (.str _) q⟩
theorem w_m1 {g : Str → Str → Int} (h : EvW K to O ds fun r O1 => ∃ a, r = .dat (.str a) ∧ EvW K te O1 ds fun r2 O2 => ∃ b, r2 = .dat (.str b) ∧ Q (iV (g a b)) O2) :
    EvW K (tM1 (fun x xs H Q => ∃ a b, x = .str a ∧ xs = [.str b] ∧ Q (.int (g a b)) H) to te) O ds Q := fun Hk σ H p Q' k =>
  h Hk σ H p _ fun v r O1 Hk1 H1 e1 h1 s1 q1 => by
    obtain ⟨a, rfl, q1⟩ := q1
    cases (show Da Hk1 v (.str a) from s1)
    refine ⟨⟨a, rfl⟩, q1 Hk1 σ H1 (p.ext e1 h1) _ fun v2 r2 O2 Hk2 H2 e2 h2 s2 q2 => ?_⟩
    obtain ⟨b, rfl, q2⟩ := q2
    cases (show Da Hk2 v2 (.str b) from s2)
    exact ⟨a, b, rfl, rfl, k _ (iV (g a b)) O2 Hk2 H2 (e1.trans e2) h2 (.int _) q2⟩
theorem o_neT {i j : Str} (q : Q (bV (!decide (i = j))) O) : OpW K rNe (.dat (.str i)) (.dat (.str j)) O Q := fun Hk H h u v hu hv Q' k => by
  cases (show Da Hk u (.str i) from hu)
  cases (show Da Hk v (.str j) from hv)
  refine ⟨rfl, ?_⟩
  have e : decide (V.str i = V.str j) = decide (i = j) := by
    by_cases z : i = j
    · rw [decide_eq_true z, decide_eq_true (congrArg V.str z)]
    · rw [decide_eq_false z, decide_eq_false fun q => z (V.str.inj q)]
  rw [e]
  exact k.now h (r := bV _) (.bl _) q
/-- for x in text -/
theorem s_forStr {j : Nat} {tb : TS} (h : EvW K te O ds fun r O1 => ∃ z : List Nat, r = .dat (.str (sT z)) ∧ ∃ I : Nat → Own → List SD → Prop, I 0 O1 ds ∧
    (∀ (i : Nat) c O2 ds2, z[i]? = some c → I i O2 ds2 → ∀ B : AE, Bdy I i A B → StW K tb O2 (ds2.set j (.dat (.str (sT [c])))) B) ∧ ∀ O2 ds2, I z.length O2 ds2 → A.nx O2 ds2) : StW K (tFor (iStr te) (gName j) tb) O ds A := fun Hk σ H D p l =>
  h Hk σ H p _ fun v r O1 Hk1 H1 e1 h1 s1 q1 => by
    obtain ⟨z, rfl, I, h0, hs, hd⟩ := q1
    cases (show Da Hk1 v (.str (sT z)) from s1)
    have hz : (sT z).cps.size = z.length := by simp [sT]
    refine ⟨sT z, rfl, for_it (walk_str (z := sT z)) (fun i σ H => ∃ O2 ds2 Hk2, Same Hk1 Hk2 ∧ Pt K Hk2 O2 ds2 σ H ∧ I i O2 ds2) ⟨O1, ds, Hk1, Same.refl _, p.ext e1 h1, h0⟩ (fun _ _ _ _ _ => trivial) (fun i x σ' H' H'' hi ⟨O2, ds2, Hk2, e, p2, q⟩ y => ?_) (fun σ' H' ⟨O2, ds2, Hk2, e, p2, q⟩ => ?_)⟩
    · obtain ⟨eh, c, hc, rfl⟩ := y
      subst eh
      have hc' : z[i]? = some c := by simpa [sT] using hc
      exact hs i c O2 ds2 hc' q _ .mk' Hk2 _ H'' _ (p2.set (r := .dat (.str (sT [c]))) (.str _)) ⟨fun O3 ds3 Hk3 σ3 H3 e3 p3 q3 => ⟨O3, ds3, Hk3, e.trans e3, p3, q3⟩, l.rt.ext (e1.trans e), l.nx.ext (e1.trans e), fun O3 ds3 Hk3 σ3 H3 e3 p3 q3 => ⟨O3, ds3, Hk3, e.trans e3, p3, q3⟩, l.xt.ext (e1.trans e)⟩
    · rw [hz] at q
      exact l.nx O2 ds2 Hk2 σ' H' (e1.trans e) p2 (hd O2 ds2 q)
/-- [e for x in text if t] -/
theorem w_lcStr {tl : TE} {j : Nat} {tt : TT} (h : EvW K tl O ds fun r O1 => ∃ z : List Nat, r = .dat (.str (sT z)) ∧ z.length ≤ 1000000 ∧ ∃ I : Nat → List SD → Own → Prop, I 0 [] O1 ∧
    (∀ (i : Nat) c acc O2, z[i]? = some c → acc.length ≤ i → I i acc O2 → LcTurn K tt te O2 (ds.set j (.dat (.str (sT [c])))) acc (I (i + 1))) ∧ ∀ acc O2 Dl, I z.length acc O2 → Q (.ad Dl) ((Dl, .lst acc) :: O2)) : EvW K (tLc (iStr tl) (gName j) tt te [j]) O ds Q := fun Hk σ H p Q' k =>
  h Hk σ H p _ fun v rs O1 Hk1 H1 e1 h1 s1 q1 => by
    obtain ⟨z, rfl, hn, I, h0, hs, hd⟩ := q1
    cases (show Da Hk1 v (.str (sT z)) from s1)
    have hz : (sT z).cps.size = z.length := by simp [sT]
    refine ⟨sT z, rfl, fun Dl hf => lc_it (walk_str (z := sT z)) (fun i H => ∃ acc O2 Hk2, Same Hk1 Hk2 ∧ acc.length ≤ i ∧ Hold K Hk2 ((Dl, OD.lst acc) :: O2) H ∧ I i acc O2)
      ⟨[], O1, Hk1, Same.refl _, Nat.le_refl _, h1.own hf .nil, h0⟩ (fun _ _ _ _ => trivial) (fun i x H2 H3 hi hP y => ?_) (fun H2 hP => ?_)⟩
    · obtain ⟨acc, O2, Hk2, e2, hl, hh, q⟩ := hP
      obtain ⟨eh, c, hc, rfl⟩ := y
      subst eh
      have hc' : z[i]? = some c := by simpa [sT] using hc
      have hlt := (List.getElem?_eq_some_iff.mp hc').1
      have hsz : acc.length < sizeLine := Nat.lt_of_lt_of_le (show acc.length < 1000001 by omega) (by decide)
      have ht := hs i c acc O2 hc' hl q
      refine lc_turn (d := .dat (.str (sT [c]))) (P' := fun H => ∃ acc2 O3 Hk2, Same Hk1 Hk2 ∧ acc2.length ≤ i + 1 ∧ Hold K Hk2 ((Dl, OD.lst acc2) :: O3) H ∧ I (i + 1) acc2 O3) (I' := fun acc2 O3 => acc2.length ≤ i + 1 ∧ I (i + 1) acc2 O3) ?_ hsz ((p.ext e1 h1).ext e2 (hh.sub (List.sublist_cons_self ..))) hh (.str _) fun acc2 O3 Hk3 H3 e3 h3 q3 => ⟨acc2, O3, Hk3, e2.trans e3, q3.1, h3, q3.2⟩
      intro Dl2 Hk3 σ3 H3 p3 Q3 k3
      refine ht Dl2 Hk3 σ3 H3 p3 Q3 fun b O3 Hk4 H4 e4 h4 q4 => k3 b O3 Hk4 H4 e4 h4 ⟨fun hb => w_mono (q4.1 hb) fun r O4 ⟨O5, hp, q5⟩ => ⟨O5, hp, by rw [List.length_append]; simp; omega, q5⟩, fun hb => ?_⟩
      obtain ⟨O5, hp, q5⟩ := q4.2 hb
      exact ⟨O5, hp, by omega, q5⟩
    · obtain ⟨acc, O2, Hk2, e2, hl, hh, q⟩ := hP
      rw [hz] at q
      exact k _ (.ad Dl) _ Hk2 H2 (e1.trans e2) hh rfl (hd acc O2 Dl q)
end
/-! ### text × number -/
def rMulS : R2 := fun x y H Q => ∃ (a : Str) (i : Int), x = .str a ∧ y = .int i ∧ MulOk a i ∧ Q (.str (Txt.mul a i)) H
theorem op_mulS {X : Cx} : OpR X (binaryOp .Mult) rMulS := by
  intro pins s σ H x y v u Q I rx ry h
  obtain ⟨a, i, rfl, rfl, hok, q⟩ := h
  obtain ⟨t, rfl⟩ := rx
  obtain ⟨t', rfl⟩ := ry
  exact SB.mul hok fun t2 k => ⟨.str _, H, I.tok _, ⟨_, rfl⟩, q⟩
theorem fold_rep (c : Nat) : ∀ (n : Nat) (acc : Array Nat), ((List.replicate n (#[c] : Array Nat)).foldl (· ++ ·) acc).toList = acc.toList ++ List.replicate n c
  | 0, acc => by simp
  | n + 1, acc => by
    rw [List.replicate_succ, List.foldl_cons, fold_rep c n, List.replicate_succ]
    simp
theorem mulT (c : Nat) {n : Int} (h : 0 ≤ n) : Txt.mul (sT [c]) n = sT (List.replicate n.toNat c) := by
  unfold Txt.mul
  by_cases h1 : n < 1
  · rw [if_pos h1, show n.toNat = 0 by omega]
    rfl
  · rw [if_neg h1]
    by_cases h2 : n = 1
    · subst h2
      have e0 : ((1 : Int) == 1 || (sT [c]).length == 0) = true := rfl
      rw [if_pos e0]
      rfl
    · rw [if_neg (by rw [sT_len]; simp [h2])]
      refine TL.ext_tl ?_
      show ((List.replicate n.toNat (#[c] : Array Nat)).foldl (· ++ ·) #[]).toList = _
      rw [fold_rep]
      simp [TL.tl]
theorem mulOk (c : Nat) {n : Int} (h : 0 ≤ n) (h2 : n ≤ 1000) : MulOk (sT [c]) n := by
  refine ⟨by rw [decide_eq_false (by omega), decide_eq_false (by omega)]; rfl, fun h1 _ => ?_, fun _ _ => ?_⟩
  · rw [sT_len]
    have : (1 : Int) ≤ (2 ^ 63 - 1) / n := Int.le_ediv_of_mul_le (by omega) (by omega)
    show ¬ ((1 : Nat) : Int) > _
    omega
  · rw [sT_len]
    refine decide_eq_false ?_
    show ¬ (1 * n.toNat > sizeLine)
    have : (1000 : Nat) ≤ sizeLine := by decide
    omega
section
variable {K : PySem.W.Frag} {O : Own} {Q : SD → Own → Prop}
theorem o_mulS {c : Nat} {n : Int} (h : 0 ≤ n) (h2 : n ≤ 1000) (q : Q (.dat (.str (sT (List.replicate n.toNat c)))) O) : OpW K rMulS (.dat (.str (sT [c]))) (iV n) O Q := fun Hk H hh u v hu hv Q' k => by
  cases (show Da Hk u (.str (sT [c])) from hu)
  cases (show Da Hk v (.int n) from hv)
  refine ⟨_, n, rfl, rfl, mulOk c h h2, ?_⟩
  rw [mulT c h]
  exact k.now hh (r := .dat (.str _)) (.str _) q
end
section
variable {K : PySem.W.Frag} {O : Own} {ds : List SD} {te : TE}
theorem j_fmtS {n : Nat} {ts : List TE} {Q : Own → Prop} (h : EvW K te O ds fun r O1 => ∃ s : Str, r = .dat (.str s) ∧ s.length ≤ 1000 ∧ JsW K ts (n + 1000) O1 ds Q) (hn : n ≤ 100000 := by decide) : JsW K (tFmt te :: ts) n O ds Q := fun Hk σ H p acc ha Q' k => by
  refine h Hk σ H p _ fun v r O1 Hk1 H1 e1 h1 s1 q1 => ?_
  obtain ⟨s, rfl, hs, q⟩ := q1
  cases (show Da Hk1 v (.str s) from s1)
  have e0 : (acc ++ s).length ≤ n + 1000 := by
    rw [Str.length_append]
    omega
  have e2 : (101000 : Nat) ≤ sizeLine := by decide
  exact .inl ⟨s, rfl, by omega, s, rfl, by omega, q Hk1 σ H1 (p.ext e1 h1) (acc ++ s) e0 Q' fun out O2 Hk2 H2 e3 h3 q3 => k out O2 Hk2 H2 (e1.trans e3) h3 q3⟩
end
section
variable {K : PySem.W.Frag} {Hk Hk' H H' : Hp} {O O' Oa : Own} {ds : List SD} {σ : L2.St} {Q : SD → Own → Prop} {Q' : VK} {A : AE} {D : Ends} {te : TE}
/-- a, b, c = e: a triple of data -/
theorem s_unp3 {i j k : Nat} (h : EvW K te O ds fun r O1 => ∃ d e f, r = .dat (.tuple [d, e, f]) ∧ A.nx O1 (((ds.set i (.dat d)).set j (.dat e)).set k (.dat f))) : StW K (tAsg te (gTup K 3 (gCons (gName i) (gCons (gName j) (gCons (gName k) gNil))))) O ds A := fun Hk σ H D p l =>
  h Hk σ H p _ fun v r O1 Hk1 H1 e1 h1 s1 q1 => by
    obtain ⟨d, e, f, rfl, q⟩ := q1
    have p1 := p.ext e1 h1
    cases (show Da Hk1 v (.tuple [d, e, f]) from s1) with
    | @tup a xs _ h1 h2 =>
      cases h2 with
      | @cons v1 _ _ _ g1 r =>
        cases r with
        | @cons v2 _ _ _ g2 r =>
          cases r with
          | @cons v3 _ _ _ g3 r =>
            cases r
            refine ⟨a, [v1, v2, v3], rfl, .inl (.inl (p1.hold.kn _ _ h1)), rfl, v1, [v2, v3], rfl, v2, [v3], rfl, v3, [], rfl, rfl, ?_⟩
            exact l.nx O1 _ Hk1 _ H1 e1 (((p1.set (j := i) (r := .dat d) g1).set (j := j) (r := .dat e) g2).set (j := k) (r := .dat f) g3) q
end
/-! ### a list of owned lists of ints -/
theorem perm_era {α : Type} : ∀ {xs : List α} {i : Nat} {x : α}, xs[i]? = some x → xs.Perm (x :: xs.eraseIdx i)
  | [], i, x, h => by simp at h
  | y :: r, 0, x, h => by
    have e : y = x := by simpa using h
    rw [e]
    exact List.Perm.refl _
  | y :: r, i + 1, x, h => by
    have h' : r[i]? = some x := by simpa using h
    exact ((perm_era h').cons y).trans (.swap ..)
def ownL (as : List Addr) (Ls : List (List Int)) : Own := List.zipWith (fun a l => (a, OD.lst (l.map fun n => iV n))) as Ls
theorem ownL_at {as : List Addr} {Ls : List (List Int)} {i : Nat} (h1 : i < as.length) (h2 : i < Ls.length) : (ownL as Ls)[i]? = some (as[i], OD.lst (Ls[i].map fun n => iV n)) := by
  unfold ownL
  rw [List.getElem?_zipWith, List.getElem?_eq_getElem h1, List.getElem?_eq_getElem h2]
theorem ownL_set : ∀ (as : List Addr) (Ls : List (List Int)) (i : Nat) (l : List Int), (ownL as (Ls.set i l)).eraseIdx i = (ownL as Ls).eraseIdx i
  | [], _, _, _ => rfl
  | _ :: _, [], _, _ => by rw [List.set_nil]
  | a :: as, L :: Ls, 0, l => rfl
  | a :: as, L :: Ls, i + 1, l => by
    show _ :: (ownL as (Ls.set i l)).eraseIdx i = _ :: (ownL as Ls).eraseIdx i
    rw [ownL_set as Ls i l]
theorem ownL_mem {as : List Addr} {Ls : List (List Int)} {i : Nat} (h1 : i < as.length) (h2 : i < Ls.length) : (as[i], OD.lst (Ls[i].map fun n => iV n)) ∈ ownL as Ls := List.mem_of_getElem? (ownL_at h1 h2)
theorem ownL_nil (as : List Addr) : ownL as (List.replicate as.length []) = as.map fun a => (a, OD.lst []) := by
  induction as with
  | nil => rfl
  | cons a as ih =>
    show _ :: ownL as (List.replicate as.length []) = _
    rw [ih]
    rfl
/-! ### the length of a text -/
def rLenS : List V → Hp → VK → Prop := fun xs H Q => ∃ z, xs = [.str z] ∧ z.length ≤ sizeLine ∧ Q (.int z.length) H
theorem kLenS {X : Cx} : CallR X (.builtin "len") rLenS := call_len_str
theorem g_lenStr {K : PySem.W.Frag} {O : Own} {Q : SD → Own → Prop} {a : List Nat} (hz : a.length ≤ 1000000) (q : Q (iV a.length) O) : CbW K rLenS [.dat (.str (sT a))] O Q := fun Hk H h us hus Q' k => by
  obtain ⟨u, rfl, hu⟩ := all1 hus
  cases (show Da Hk u (.str (sT a)) from hu)
  refine ⟨_, rfl, by rw [sT_len]; exact Nat.le_trans hz (by decide), ?_⟩
  rw [sT_len]
  exact k.now h (r := iV _) (.int _) q
/-! ### a text beside plain data -/
theorem o_neSP {K : PySem.W.Frag} {O : Own} {Q : SD → Own → Prop} {a b : List Nat} {x y : PyData} (ha : ∀ c ∈ a, c < 0x110000) (hb : ∀ c ∈ b, c < 0x110000) (h1 : plB 8 x = true) (h2 : plB 8 y = true) (q : ∀ c, (c = true ↔ a = b ∧ x = y) → Q (bV (!c)) O) : OpW K (rNeD K) (.dat (.tuple [.str (sT a), x])) (.dat (.tuple [.str (sT b), y])) O Q := by
  have sh : ∀ (a : List Nat) (x : PyData), (∀ c ∈ a, c < 0x110000) → plB 8 x = true → SeqAt.shaped (.tuple [.str (sT a), x]) = true := fun a x ha h1 => by
    obtain ⟨e1, e2⟩ := pl_lay 8 x h1
    have e3 : PySem.PyData.strOk (sT a) = true := by
      unfold PySem.PyData.strOk
      rw [Array.all_eq_true]
      intro i hi
      exact decide_eq_true (ha _ (List.getElem_mem (by exact hi)))
    unfold SeqAt.shaped
    rw [Bool.and_eq_true]
    refine ⟨?_, decide_eq_true ?_⟩
    · show (PySem.PyData.strOk (sT a) && (x.canLay0 && true)) = true
      rw [e1, e3]
      rfl
    · simp only [PyData.depth, PyData.depthAll]
      omega
  refine o_neD (sh a x ha h1) (sh b y hb h2) (q _ ?_)
  show ((sT a == sT b) && (PyData.eqv x y && true)) = true ↔ _
  rw [Bool.and_true, Bool.and_eq_true, eqv_iff 8 x y h1 h2, beq_iff_eq]
  exact ⟨fun h => ⟨sT_inj h.1, h.2⟩, fun h => ⟨by rw [h.1], h.2⟩⟩
end Wk
namespace Wk
open PySem PySem.Spec PyProof.Rows L2
/-! ### enumerate of a text -/
def IteS (z : Str) : It :=
  ⟨fun i _ => i < z.cps.size, fun i H v H' => ∃ T c, v = .ref T ∧ H T = none ∧ z.cps[i]? = some c ∧ H' = upd H T (.tup [.int (i : Nat), .str ⟨#[c]⟩]), fun i _ => i = z.cps.size⟩
theorem turn_enumS {P : Program} {w : World} {K : PySem.W.Frag} {elts : List Expr} {kk : Nat} {tpos : Pos} (z : Str) (t : Tok) (e it : Addr) (ne : e ≠ it) :
    Turn P w K (.Tuple elts kk tpos) (IteS z) [e, it] e (fun i h => (∃ old, IsEnum h e it ((i : Nat) : Int) old) ∧ h.IsStrIter it (strIterType z) z t i) where
  mem := by simp
  obj := fun i h st b hb => by
    obtain ⟨⟨old, he⟩, ⟨o, ho, hc, hd⟩⟩ := st
    have e' : b = e ∨ b = it := by simpa using hb
    rcases e' with y | y
    · subst y
      exact ⟨_, he, fun v q => nomatch q⟩
    · subst y
      exact ⟨o, ho, fun v q => by rw [hd] at q; cases q⟩
  keep := fun i h h' st k => let ⟨⟨old, he⟩, ⟨o, ho, r⟩⟩ := st; ⟨⟨old, k e (by simp) _ he⟩, ⟨o, k it (by simp) o ho, r⟩⟩
  item := by
    intro X hP hw hK hc i pins s σ H E I hf st hg
    subst hP hw hK
    obtain ⟨⟨old, he⟩, hit⟩ := st
    have hel : e < s.heap.objs.size := Heap.lt_size he
    have hil : it < s.heap.objs.size := by obtain ⟨_, q, _⟩ := hit; exact Heap.lt_size q
    refine wpAny_pyNext_enum_itemD (Draws.text (A := X.A.in1) (show X.A.in1.handled = none from I.ok.hd hc) it z t) he hit hg ne (by simp [ne]) fun x' h' tk hx' ho hst' hT hsz hk => ?_
    obtain ⟨c, u, hc1, rfl⟩ := hx'
    refine ⟨_, rfl, wpAny_letOwnedTupleGo_enum (s := { s with heap := h', toks := tk + 1 }) ho fun h'' he' sb => ?_⟩
    have hT2 : h''.get? s.heap.objs.size = some { cls := .type "tuple", data := .seq #[.int i tk, .str ⟨#[c]⟩ u] } := (sb.2 _ (Nat.ne_of_gt hel)).trans hT
    have new : ObjOk X.prog X.w (upd H s.heap.objs.size (.tup [.int (i : Nat), .str ⟨#[c]⟩])) h'' s.heap.objs.size (.tup [.int (i : Nat), .str ⟨#[c]⟩]) :=
      ⟨by show 2 ≤ sizeLine; decide, [.int i tk, .str ⟨#[c]⟩ u], .cons ⟨_, rfl⟩ (.cons ⟨_, rfl⟩ .nil), ⟨_, hT2, rfl, _, rfl⟩⟩
    have I1 : Inv X pins σ (upd H s.heap.objs.size (.tup [.int (i : Nat), .str ⟨#[c]⟩])) { s with heap := h'', toks := tk + 1 } :=
      I.turnedNew (ch := [e, it]) (fun b ob hb q => (sb.2 b (fun y => hb (by simp [y]))).trans (hk b ob (fun y => hb (by simp [y])) (fun y => hb (by simp [y])) q)) hf (Nat.le_refl _) new
    refine ⟨.ref s.heap.objs.size, _, I1, rfl, ⟨_, c, rfl, I.hok.fresh (Nat.le_refl _), hc1, rfl⟩, ⟨⟨.str ⟨#[c]⟩ u, ?_⟩, (let ⟨o, hq, hr⟩ := hst'; ⟨o, (sb.2 it (Ne.symm ne)).trans hq, hr⟩)⟩, fun b hb => ?_⟩
    · have e1 : ((i + 1 : Nat) : Int) = (i : Int) + 1 := by omega
      rw [e1]
      exact he'
    · have hb' : b < s.heap.objs.size := by
        have e' : b = e ∨ b = it := by simpa using hb
        rcases e' with y | y
        · subst y; exact hel
        · subst y; exact hil
      rw [upd_ne (Nat.ne_of_lt hb')]
      exact (hf b hb).1
  done := by
    intro X hP hw hK hc i pins s σ H E I hf st hg
    subst hP hw hK
    obtain ⟨⟨old, he⟩, hit⟩ := st
    obtain ⟨f0, f1, f2, f3, f4, f5⟩ := hf it (by simp)
    have hg : i = z.cps.size := hg
    subst hg
    exact wpAny_pyNext_enum_endD (Draws.text (A := X.A.in1) (show X.A.in1.handled = none from I.ok.hd hc) it z t) he hit fun h' eb => ⟨rfl, I.turned (t' := s.toks) (fun b o hb q => eb b o hb q) f0 f1 f3 f4 f5⟩
  self := fun A i s Q E st h => let ⟨⟨_, he⟩, _⟩ := st; wpAny_pyIter_enum he h
def iEnumS (ta : TA) : TI := fun σ H R => ta σ H fun vs H1 => ∃ z, vs = [.str z] ∧ R (IteS z) H1
theorem pi_enumS {X : Cx} {e : Expr} {ta : TA} {p pos tpos : Pos} {elts : List Expr} {kk : Nat} (hg : Gl X "enumerate") (hm : X.mg "enumerate" = none) (ha : PA X [e] ta) (hs : starEach [e] X.env = [(false, eval e X.env)] := by rfl) :
    PI X (.Tuple elts kk tpos) (.Call (.Name "enumerate" p) [e] [] pos) (iEnumS ta) := by
  refine ⟨fun pins s σ H R I h => ?_⟩
  refine Call_ (ld_blt I hg hm boot_enumerate (PyProof.Rows.callWith_type1 (thn (ha.run pos pins s σ H _ I h) fun us s1 ⟨vs, H1, I1, r1, q1⟩ => ?_) hs rfl))
  obtain ⟨z, ex, q⟩ := q1
  subst ex
  cases r1 with
  | cons r rr =>
    cases rr
    obtain ⟨t, rfl⟩ := r
    refine call_enumerate_str fun h' he hit hsz hk => wpAny_pyIter_enum he ?_
    have I2 : Inv X pins σ H1 { s1 with heap := h' } := I1.kept (t' := s1.toks) hk
    refine ⟨s1.heap.objs.size + 1, [s1.heap.objs.size + 1, s1.heap.objs.size], _, _, H1, rfl, I2, turn_enumS z t (s1.heap.objs.size + 1) s1.heap.objs.size (Nat.succ_ne_self _), ⟨⟨.none, he⟩, hit⟩, fun b hb => ?_, q⟩
    have e' : b = s1.heap.objs.size + 1 ∨ b = s1.heap.objs.size := by simpa using hb
    have hle : s1.heap.objs.size ≤ b := by
      rcases e' with y | y
      · rw [y]; exact Nat.le_add_right _ _
      · rw [y]; exact Nat.le_refl _
    exact I1.fpOk hle (I1.hok.fresh hle)
section
variable {K : PySem.W.Frag} {O : Own} {ds : List SD} {A : AE}
/-- for i, x in enumerate(text) -/
theorem s_forES {ta : TA} {j1 j2 : Nat} {tb : TS} (h : AvW K ta O ds fun rs O1 => ∃ z : List Nat, rs = [.dat (.str (sT z))] ∧ ∃ I : Nat → Own → List SD → Prop, I 0 O1 ds ∧
    (∀ (i : Nat) c O2 ds2, z[i]? = some c → I i O2 ds2 → ∀ B : AE, Bdy I i A B → StW K tb O2 ((ds2.set j1 (iV (i : Int))).set j2 (.dat (.str (sT [c])))) B) ∧ ∀ O2 ds2, I z.length O2 ds2 → A.nx O2 ds2) :
    StW K (tFor (iEnumS ta) (gTup K 2 (gCons (gName j1) (gCons (gName j2) gNil))) tb) O ds A := fun Hk σ H D p l =>
  h Hk σ H p _ fun vs rs O1 Hk1 H1 e1 h1 s1 q1 => by
    obtain ⟨z, rfl, I, h0, hs, hd⟩ := q1
    obtain ⟨v, rfl, hv⟩ := all1 s1
    cases (show Da Hk1 v (.str (sT z)) from hv)
    have hz : (sT z).cps.size = z.length := by simp [sT]
    refine ⟨sT z, rfl, fun i m σ H => m = z.length - i ∧ i ≤ z.length ∧ ∃ O2 ds2 Hk2, Same Hk1 Hk2 ∧ Pt K Hk2 O2 ds2 σ H ∧ I i O2 ds2, ⟨z.length, by simp, Nat.zero_le _, O1, ds, Hk1, Same.refl _, p.ext e1 h1, h0⟩, ?_⟩
    rintro i m σ' H' ⟨rfl, hi, O2, ds2, Hk2, e, p2, q⟩
    by_cases hlt : i < z.length
    · refine .inr ⟨by show i < (sT z).cps.size; omega, fun σ2 H2 => ∃ O3 ds3 Hk3, Same Hk1 Hk3 ∧ Pt K Hk3 O3 ds3 σ2 H2 ∧ I (i + 1) O3 ds3, fun σ2 H2 hN => ⟨z.length - (i + 1), by omega, rfl, hlt, hN⟩, fun x H2 y => ?_⟩
      obtain ⟨T, c, rfl, nT, hc, rfl⟩ := y
      have hc' : z[i]? = some c := by simpa [sT] using hc
      have smT : Same Hk2 (upd Hk2 T (.tup [.int (i : Nat), .str ⟨#[c]⟩])) := same_new (p2.hold.kn.free nT)
      have p3 : Pt K (upd Hk2 T (.tup [.int (i : Nat), .str ⟨#[c]⟩])) O2 ds2 σ' (upd H' T (.tup [.int (i : Nat), .str ⟨#[c]⟩])) := p2.ext smT (p2.hold.know nT)
      refine ⟨T, [.int (i : Nat), .str ⟨#[c]⟩], rfl, .inl (.inl upd_same), rfl, .int (i : Nat), [.str ⟨#[c]⟩], rfl, .str ⟨#[c]⟩, [], rfl, rfl, ?_⟩
      have e4 := e.trans smT
      exact hs i c O2 ds2 hc' q _ .mk' _ _ _ _ ((p3.set (j := j1) (r := iV (i : Int)) (.int _)).set (j := j2) (r := .dat (.str (sT [c]))) (.str _)) ⟨fun O3 ds3 Hk3 σ3 H3 e3 p3 q3 => ⟨O3, ds3, Hk3, e4.trans e3, p3, q3⟩, l.rt.ext (e1.trans e4), l.nx.ext (e1.trans e4), fun O3 ds3 Hk3 σ3 H3 e3 p3 q3 => ⟨O3, ds3, Hk3, e4.trans e3, p3, q3⟩, l.xt.ext (e1.trans e4)⟩
    · have e2 : i = z.length := by omega
      subst e2
      exact .inl ⟨hz.symm, l.nx O2 ds2 Hk2 σ' H' (e1.trans e) p2 (hd O2 ds2 q)⟩
end
/-- xs + ys, what comes is owned -/
theorem g_catN {K : PySem.W.Frag} {O : Own} {x y : SD} {es fs : List PyData} {Q : SD → Own → Prop} (l1 : Lst O x es) (l2 : Lst O y fs) (hz : es.length + fs.length ≤ 1000000) (q : ∀ l, Q (.ad l) ((l, .lst ((es ++ fs).map .dat)) :: O)) : OpW K rCat x y O Q := fun Hk H h u v hu hv Q' k => by
  obtain ⟨a, xs, rfl, h1, h2⟩ := l1.get h hu
  obtain ⟨a2, ys, rfl, g1, g2⟩ := l2.get h hv
  exact ⟨_, _, xs, ys, rfl, rfl, h1, g1, by rw [h2.length, g2.length]; exact Nat.le_trans hz (by decide), fun l hf => k.newO h hf (h2.append g2) q⟩
end Wk
namespace Wk
open PySem PySem.Spec PyProof.Rows L2
abbrev dc2 (kx vx t0 i0 t1 i1 : Expr) (scope : Scope) (pos : Pos) : Expr := .DictComp kx vx [⟨t0, i0, [], 0⟩, ⟨t1, i1, [], 0⟩] scope pos
section
variable {prog : Program} {w : World} {A : Around} {R : Result → Shared → Prop} {s : Shared} {kx vx t0 i0 t1 i1 : Expr} {scope : Scope} {pos : Pos} {it acc : Value} {D : Addr} {env : Env}
/-- a turn of the first clause: store, the second source, its own loop -/
theorem turnD_out : compTurn (dc2 kx vx t0 i0 t1 i1 scope pos) 0 it acc env = (do
    standAt i0.pos
    match ← pyNext it with
    | none => pure (.done .next)
    | some v =>
      letOwnedTupleGo t0 it v
      assign t0 env v
      let x ← eval i1 env
      standAt i1.pos
      let x ← foldedSetIterable i1 env x
      let _ ← runOwn (.compStart (dc2 kx vx t0 i0 t1 i1 scope pos) 1 (← holding [x] (pyIter x)) acc env) env
      again (.compLoop (dc2 kx vx t0 i0 t1 i1 scope pos) 0 it acc env)) := by rfl
/-- a turn of the second: store, the key, the value, the dict's write -/
theorem turnD_in : compTurn (dc2 kx vx t0 i0 t1 i1 scope pos) 1 it (.ref D) env = (do
    standAt i1.pos
    match ← pyNext it with
    | none => pure (.done .next)
    | some v =>
      letOwnedTupleGo t1 it v
      assign t1 env v
      (do
        let kv ← eval kx env
        let vv ← holding [kv] (eval vx env)
        standAt { kx.pos with endLine := vx.pos.endLine, endCol := vx.pos.endCol }
        holding [kv, vv] (dictSet D kv vv))
      again (.compLoop (dc2 kx vx t0 i0 t1 i1 scope pos) 1 it (.ref D) env)) := by rfl
/-- what goes wrong in a turn: nothing that is stated here lets it -/
abbrev Bad (prog : Program) (w : World) (A : Around) (env : Env) (R : Result → Shared → Prop) : Value → Shared → Prop := notedBy (model prog w) A env fun e s' => R (.error e) s'
theorem loopD_out (hs : ∀ x, foldedSetIterable i1 env x = pure x) (I : Nat → Shared → Prop)
    (turn : ∀ n s, I n s → wpAny (model prog w) A (pyNext it) (fun r s₁ => match r with
      | none => R (.ok .next) s₁
      | some v => wpAny (model prog w) A (letOwnedTupleGo t0 it v) (fun _ s₂ => wpAny (model prog w) A (assign t0 env v) (fun _ s₃ =>
          wpAny (model prog w) A (eval i1 env) (fun x s₄ => wpAny (model prog w) A (pyIter x) (fun it1 s₅ =>
              codeAny (model prog w) A (.compStart (dc2 kx vx t0 i0 t1 i1 scope pos) 1 it1 acc env) (fun r s' => match r with
                | .ok _ => ∃ m, m < n ∧ I m s'
                | .error _ => False) s₅) (Bad prog w A env R) s₄) (Bad prog w A env R) s₃) (Bad prog w A env R) s₂) (Bad prog w A env R) s₁) (Bad prog w A env R) s)
    (n : Nat) (h : I n s) : codeAny (model prog w) A (.compLoop (dc2 kx vx t0 i0 t1 i1 scope pos) 0 it acc env) R s := by
  refine codeAny_loop rfl I (fun n s hI => ?_) n h
  show wpAny _ A ((compTurn (dc2 kx vx t0 i0 t1 i1 scope pos) 0 it acc env).onRaise (fun x => do noteFrame x env; theTreesLotGoes x)) _ _ s
  refine wpAny_noted ?_
  rw [turnD_out]
  refine wpAny_bind (wpAny_standAt (wpAny_bind (wpAny_mono (turn n s hI) (fun r s₁ h₁ => ?_) fun _ _ z => z)))
  match r, h₁ with
  | none, h₁ => exact wpAny_pure h₁
  | some v, h₁ =>
    refine wpAny_bind (wpAny_mono h₁ (fun _ s₂ h₂ => ?_) fun _ _ z => z)
    refine wpAny_bind (wpAny_mono h₂ (fun _ s₃ h₃ => ?_) fun _ _ z => z)
    refine wpAny_bind (wpAny_mono h₃ (fun x s₄ h₄ => ?_) fun _ _ z => z)
    refine wpAny_bind (wpAny_standAt (wpAny_bind (wpAny_of_eq (hs x) (wpAny_bind (wpAny_holding (wpAny_mono h₄ (fun it1 s₅ h₅ => ?_) fun _ _ z => z))))))
    refine wpAny_bind (wpAny_runOwn ?_)
    rw [Around.mark_none]
    refine codeAny_mono h₅ fun r s' hr => ?_
    match r, hr with
    | .ok f, hr => first | exact wpAny_pure ⟨rfl, hr⟩ | exact wpAny_bind (wpAny_pure (wpAny_pure ⟨rfl, hr⟩))
theorem loopD_in (I : Nat → Shared → Prop)
    (turn : ∀ n s, I n s → wpAny (model prog w) A (pyNext it) (fun r s₁ => match r with
      | none => R (.ok .next) s₁
      | some v => wpAny (model prog w) A (letOwnedTupleGo t1 it v) (fun _ s₂ => wpAny (model prog w) A (assign t1 env v) (fun _ s₃ =>
          wpAny (model prog w) A (eval kx env) (fun kv s₄ => wpAny (model prog w) A (eval vx env) (fun vv s₅ =>
            wpAny (model prog w) A (dictSet D kv vv) (fun _ s₆ => ∃ m, m < n ∧ I m s₆) (Bad prog w A env R) s₅) (Bad prog w A env R) s₄) (Bad prog w A env R) s₃) (Bad prog w A env R) s₂) (Bad prog w A env R) s₁) (Bad prog w A env R) s)
    (n : Nat) (h : I n s) : codeAny (model prog w) A (.compLoop (dc2 kx vx t0 i0 t1 i1 scope pos) 1 it (.ref D) env) R s := by
  refine codeAny_loop rfl I (fun n s hI => ?_) n h
  show wpAny _ A ((compTurn (dc2 kx vx t0 i0 t1 i1 scope pos) 1 it (.ref D) env).onRaise (fun x => do noteFrame x env; theTreesLotGoes x)) _ _ s
  refine wpAny_noted ?_
  rw [turnD_in]
  refine wpAny_bind (wpAny_standAt (wpAny_bind (wpAny_mono (turn n s hI) (fun r s₁ h₁ => ?_) fun _ _ z => z)))
  match r, h₁ with
  | none, h₁ => exact wpAny_pure h₁
  | some v, h₁ =>
    refine wpAny_bind (wpAny_mono h₁ (fun _ s₂ h₂ => ?_) fun _ _ z => z)
    refine wpAny_bind (wpAny_mono h₂ (fun _ s₃ h₃ => ?_) fun _ _ z => z)
    exact wpAny_bind (wpAny_bind (wpAny_mono h₃ (fun kv s₄ h₄ => wpAny_bind (wpAny_holding (wpAny_mono h₄ (fun vv s₅ h₅ => wpAny_bind (wpAny_standAt (wpAny_holding (wpAny_mono h₅ (fun _ s₆ h₆ => wpAny_pure ⟨rfl, h₆⟩) fun _ _ z => z)))) fun _ _ z => z))) fun _ _ z => z))
theorem startD_in (h0 : codeAny (model prog w) A (.compLoop (dc2 kx vx t0 i0 t1 i1 scope pos) 1 it acc env) R s)
    (h : wpAny (model prog w) A (pyIter it) (fun it' s' => codeAny (model prog w) A (.compLoop (dc2 kx vx t0 i0 t1 i1 scope pos) 1 it' acc env) R s') (Bad prog w A env R) s) :
    codeAny (model prog w) A (.compStart (dc2 kx vx t0 i0 t1 i1 scope pos) 1 it acc env) R s := by
  refine codeAny_of_tree ?_
  show wpAny _ _ ((compStart (dc2 kx vx t0 i0 t1 i1 scope pos) 1 it acc env).onRaise (fun x => do noteFrame x env; standAt theWindowsPlace)) _ _ s
  refine wpAny_notedAt ?_
  unfold compStart
  show wpAny _ _ (ask >>= _) _ _ s
  refine wpAny_bind (wpAny_askSetting (wpAny_ite ?_))
  split
  · first
      | exact wpAny_bind (wpAny_pure (wpAny_pure ⟨rfl, h0⟩))
      | exact wpAny_pure ⟨rfl, h0⟩
  · first
      | exact wpAny_bind (wpAny_rule (wpAny_bind (wpAny_standAt (wpAny_bind (wpAny_mono h (fun _ _ z => wpAny_pure ⟨rfl, z⟩) fun _ _ z => z)))))
      | (refine wpAny_bind (wpAny_rule ?_); show wpAny _ _ (standAt i1.pos >>= _) _ _ s; exact wpAny_bind (wpAny_standAt (wpAny_bind (wpAny_mono h (fun _ _ z => wpAny_pure ⟨rfl, z⟩) fun _ _ z => z))))
end
section
variable {X : Cx} {kx vx tg iter tg1 iter1 : Expr} {scope : Scope} {own : List (Str × Nat)} {vs1 : List Nat} {pos : Pos} {wi wi1 : TI} {g g1 : TG} {tk tv : TE}
/-- vs: the block's names, vs1: those of the second target; Nx: what holds where the next turn of the first clause begins -/
def tDc2 (wi : TI) (g : TG) (wi1 : TI) (g1 : TG) (tk tv : TE) (vs vs1 : List Nat) : TE := fun σ H Q => wi σ H fun J H1 => ∀ D, H1 D = none → ∃ W : Nat → Nat → Hp → Prop, (∃ m, W 0 m (upd H1 D (.dK []))) ∧ ∀ i m H, W i m H →
  (J.stop i H ∧ Q (.ref D) H) ∨ (J.go i H ∧ ∃ Nx : Hp → Prop, (∀ H', Nx H' → ∃ m', m' < m ∧ W (i + 1) m' H') ∧ ∀ x H', J.yld i H x H' → g x (wipe σ vs) H' fun σ2 H2 => wipe σ2 vs = wipe σ vs ∧
    wi1 σ2 H2 fun J1 H4 => ∃ W1 : Nat → Nat → Hp → Prop, (∃ m, W1 0 m H4) ∧ ∀ j k H, W1 j k H →
      (J1.stop j H ∧ Nx H) ∨ (J1.go j H ∧ ∃ N1 : Hp → Prop, (∀ H', N1 H' → ∃ k', k' < k ∧ W1 (j + 1) k' H') ∧ ∀ x H', J1.yld j H x H' → g1 x (wipe σ2 vs1) H' fun σ3 H5 => wipe σ3 vs1 = wipe σ2 vs1 ∧
        tk σ3 H5 fun y H6 => tv σ3 H6 fun z H7 => ∃ kvs key, y = kV key ∧ H7 D = some (.dK kvs) ∧ kvs.length < sizeLine ∧ N1 (upd H7 D (.dK (putK kvs key z)))))
theorem dc2Core {pins : List (Addr × Obj)} {s : Shared} {σ : L2.St} {H : Hp} {Q : VK} {pos' : Pos} {use : Option (Value → Sem Unit)} {Qf : Value → Shared → Prop} (hc : X.calm = true) (hN : X.N.Nodup) (hi : PI X tg iter wi) (ok : BlkOk X.N X.env.scope scope own) (hv : ∀ i ∈ vs1, i ∈ own.map (·.2))
    (hg : ∀ (s : Shared) (H : Hp) (C : Addr) (cl : List (Str × Addr)) (fp : List Addr), PG (X.blk s H scope (compEnvC scope cl C X.env) fp) tg g)
    (hi1 : ∀ (s : Shared) (H : Hp) (C : Addr) (cl : List (Str × Addr)) (fp : List Addr), PI (X.blk s H scope (compEnvC scope cl C X.env) fp) tg1 iter1 wi1)
    (hg1 : ∀ (s : Shared) (H : Hp) (C : Addr) (cl : List (Str × Addr)) (fp : List Addr), PG (X.blk s H scope (compEnvC scope cl C X.env) fp) tg1 g1)
    (hk : ∀ (s : Shared) (H : Hp) (C : Addr) (cl : List (Str × Addr)) (fp : List Addr), PE (X.blk s H scope (compEnvC scope cl C X.env) fp) kx tk)
    (hx : ∀ (s : Shared) (H : Hp) (C : Addr) (cl : List (Str × Addr)) (fp : List Addr), PE (X.blk s H scope (compEnvC scope cl C X.env) fp) vx tv)
    (hs : ∀ x, foldedSetIterable iter X.env x = pure x) (hs1 : ∀ env x, foldedSetIterable iter1 env x = pure x) (I : Inv X pins σ H s) (h : tDc2 wi g wi1 g1 tk tv (own.map (·.2)) vs1 σ H Q)
    (fin : ∀ D C s' m H', Inv X pins σ H' s' → Q (.ref D) H' → s'.heap.Ns C m → FpOk X pins H' C → compPost (model X.prog X.w) X.A X.xe use Qf (.ref D) C (.ok .next) s') :
    wpAny (model X.prog X.w) X.A (comprehension (dc2 kx vx tg iter tg1 iter1 scope pos) scope X.env pos' newDict false (eval iter X.env) use) Qf X.xe s := by
  -- the block: its closure, its first source, the new dict
  refine wpAny_comprehension_free (use := use) rfl hs (closure_ok fun y hy e => (ok.free y hy e).elim (fun k => I.ok.has _ (.inl k)) fun k => I.ok.has _ (.inr k)) ok.kind (fun y hy e => by rw [ok.uniq y hy, e])
    (thn (hi.run pins s σ H _ I h) fun xv s1 h1 => thn h1 fun itv s2 h2 => ?_)
  obtain ⟨it, fp, tn, J, H2, rfl, I2, T, st2, f2, q⟩ := h2
  refine wpAny_newObj_type (newEnv_comp ?_)
  generalize hD : s2.heap.objs.size = D
  obtain ⟨W, ⟨m0, w0⟩, turn⟩ := q D (I2.hok.fresh (Nat.le_of_eq hD))
  generalize hs3 : ({ s2 with heap := s2.heap.push { cls := .type "dict", data := .dict #[] } } : Shared) = s3
  have I3 : Inv X pins σ (upd H2 D (.dK [])) s3 := by
    subst hs3 hD
    exact I2.laid (t' := s2.toks) (fun b o e => Heap.get?_push_of_some _ e) (Nat.le_refl _) (dk_empty s2.heap I2.big)
  have up3 : ∀ b o, s2.heap.get? b = some o → s3.heap.get? b = some o := fun b o e => by
    subst hs3
    exact Heap.get?_push_of_some _ e
  have f3 : ∀ b ∈ fp, FpOk X pins (upd H2 D (.dK [])) b ∧ b < s3.heap.objs.size := fun b hb => by
    obtain ⟨o, e, _⟩ := T.obj _ _ st2 b hb
    have hlt := Heap.lt_size e
    refine ⟨⟨?_, (f2 b hb).2⟩, Heap.lt_size (up3 b o e)⟩
    rw [upd_ne (by rw [← hD]; exact Nat.ne_of_lt hlt)]
    exact (f2 b hb).1
  have I4 := block_start I3 ok hN f3
  have st3 : tn 0 s3.heap := T.keep _ _ _ st2 fun b _ o e => up3 b o e
  generalize hcl : cellsFrom (s3.heap.objs.size + 1) scope.names (cloFrom X.env.cells scope.names []) = cl at I4
  generalize hH3 : upd H2 D (.dK []) = H3 at I3 I4 w0 f3
  have pg := hg s3 H3 s3.heap.objs.size cl fp
  have pi1 := hi1 s3 H3 s3.heap.objs.size cl fp
  have pg1 := hg1 s3 H3 s3.heap.objs.size cl fp
  have pk := hk s3 H3 s3.heap.objs.size cl fp
  have px := hx s3 H3 s3.heap.objs.size cl fp
  show codeAny _ _ (.compStart (dc2 kx vx tg iter tg1 iter1 scope pos) 0 (.ref it) (.ref D) (compEnvC scope cl s3.heap.objs.size X.env)) (compPost (model X.prog X.w) X.A X.xe use Qf (.ref D) s3.heap.objs.size) { s3 with heap := pushCells (s3.heap.push { cls := .type "dict", data := .dict #[] }) scope.names }
  have nfp : ∀ b ∈ fp, H3 b = none := fun b hb => (f3 b hb).1.1
  generalize hce : compEnvC scope cl s3.heap.objs.size X.env = ce at I4 pg pi1 pg1 pk px ⊢
  have cL : ce.locals = s3.heap.objs.size := by subst hce; rfl
  generalize hs4 : ({ s3 with heap := pushCells (s3.heap.push { cls := .type "dict", data := .dict #[] }) scope.names } : Shared) = s4 at I4 ⊢
  have st4 : tn 0 s4.heap := T.keep _ _ _ st3 fun b _ o e => by rw [← hs4]; exact pushCells_keeps _ _ _ _ (Heap.get?_push_of_some _ e)
  -- what holds where a turn of the first clause begins
  let In : Nat → Shared → Prop := fun n s' => ∃ i H', Inv (X.blk s3 H3 scope ce fp) [] (wipe σ (own.map (·.2))) H' s' ∧ tn i s'.heap ∧ (∀ b ∈ fp, H' b = none) ∧ W i n H'
  have pinned : ∀ {σ' : L2.St} {H' : Hp} {s' : Shared}, Inv (X.blk s3 H3 scope ce fp) [] σ' H' s' → (∀ b ∈ fp, H' b = none) → ∀ b ∈ fp, FpOk (X.blk s3 H3 scope ce fp) [] H' b := fun I' hn b hb =>
    ⟨hn b hb, (I'.ok.exf b hb).1, I'.ok.exfs b hb, .inl hb, fun x c e => (I'.ok.exf b hb).2 x c e, fun p hp => absurd hp List.not_mem_nil⟩
  have loop : codeAny (model X.prog X.w) X.A (.compLoop (dc2 kx vx tg iter tg1 iter1 scope pos) 0 (.ref it) (.ref D) ce) (compPost (model X.prog X.w) X.A X.xe use Qf (.ref D) s3.heap.objs.size) s4 := by
    refine loopD_out (hs1 ce) In ?_ m0 ⟨0, H3, I4, st4, nfp, w0⟩
    rintro n s5 ⟨i, H5, I5, st5, n5, w5⟩
    rcases turn i n H5 w5 with ⟨stop, qq⟩ | ⟨go, Nx, hNx, step⟩
    · -- the end: back in the def
      refine thnF (T.done (X.blk s3 H3 scope ce fp) rfl rfl rfl hc i [] s5 _ H5 (fun _ _ => False) I5 (pinned I5 n5) st5 stop) fun r s6 ⟨hr, I6⟩ => ?_
      subst hr
      have I7 : Inv X pins σ H5 s6 := I3.call' (ch := fp) I6.os I6.base I6.hok I6.bare fun b hb => have z := (f3 b hb).1.2; ⟨z.2.2.1, z.1, z.2.2.2.1, z.2.2.2.2⟩
      have nC : H5 s3.heap.objs.size = none := by
        rw [← cL]
        exact I6.free
      obtain ⟨m, hn, _⟩ := I6.loc
      have hn : s6.heap.Ns ce.locals m := hn
      rw [cL] at hn
      exact fin D s3.heap.objs.size s6 m H5 I7 qq hn (I3.fpOk (Nat.le_refl _) nC)
    · refine thnF (T.item (X.blk s3 H3 scope ce fp) rfl rfl rfl hc i [] s5 _ H5 (fun _ _ => False) I5 (pinned I5 n5) st5 go) fun r s6 ⟨u, hr, h6⟩ => ?_
      subst hr
      refine thnF h6 fun _ s7 ⟨x, H7, I7, r7, y7, st7, n7⟩ => ?_
      refine thnF (pg.run _ s7 _ H7 x u _ (I7.pinned (pinned I7 n7) (T.obj _ _ st7)) r7 (step x H7 y7)) fun _ s8 ⟨σ8, H8, I8, hw8, q8⟩ => ?_
      have hl8 : (wipe σ (own.map (·.2))).length = σ8.length := by rw [← hw8, wipe_length]
      have hk9 : ∀ (j : Nat) v, (wipe σ (own.map (·.2)))[j]? = some (some v) → (wipe σ8 vs1)[j]? = some (some v) := fun j v e => by
        rw [← hw8] at e
        obtain ⟨e1, e2⟩ := wipe_some e
        rw [wipe_out fun z => e2 (hv j z)]
        exact e1
      -- the next turn, from any slots that know what the block knew
      have next : ∀ {σ9 : L2.St} {s' : Shared} {H' : Hp}, Inv (X.blk s3 H3 scope ce fp) ([] ++ pinsAt fp s7.heap) σ9 H' s' → (wipe σ (own.map (·.2))).length = σ9.length → (∀ (j : Nat) v, (wipe σ (own.map (·.2)))[j]? = some (some v) → σ9[j]? = some (some v)) → Nx H' → ∃ m, m < n ∧ In m s' := fun {σ9 s' H'} I' hl hk nx => by
        obtain ⟨m', hm, w'⟩ := hNx H' nx
        have pin : ∀ b ∈ fp, ∀ o, s7.heap.get? b = some o → s'.heap.get? b = some o ∧ H' b = none := fun b hb o e =>
          have z := I'.pin (b, o) (List.mem_append_right _ (List.mem_append_right _ (mem_pinsAt hb e)))
          ⟨z.1, z.2.1⟩
        refine ⟨m', hm, i + 1, H', (I'.unpinned (pins := [])).weak hl hk, T.keep _ _ _ st7 fun b hb o e => (pin b hb o e).1, fun b hb => ?_, w'⟩
        obtain ⟨o, e, _⟩ := T.obj _ _ st7 b hb
        exact (pin b hb o e).2
      refine thnF (pi1.run _ s8 σ8 H8 _ I8 q8) fun xv s10 h10 => thnF h10 fun itv s11 h11 => ?_
      obtain ⟨it1, fp1, tn1, J1, H11, rfl, I11, T1, st11, f11, W1, ⟨m1, w1⟩, turn1⟩ := h11
      have pinned1 : ∀ {H' : Hp}, (∀ b ∈ fp1, H' b = none) → ∀ b ∈ fp1, FpOk (X.blk s3 H3 scope ce fp) ([] ++ pinsAt fp s7.heap) H' b := fun hn b hb => ⟨hn b hb, (f11 b hb).2⟩
      have loop1 : codeAny (model X.prog X.w) X.A (.compLoop (dc2 kx vx tg iter tg1 iter1 scope pos) 1 (.ref it1) (.ref D) ce) (fun r s' => match r with
          | .ok _ => ∃ m, m < n ∧ In m s'
          | .error _ => False) s11 := by
        refine loopD_in (fun k s' => ∃ j H', Inv (X.blk s3 H3 scope ce fp) ([] ++ pinsAt fp s7.heap) (wipe σ8 vs1) H' s' ∧ tn1 j s'.heap ∧ (∀ b ∈ fp1, H' b = none) ∧ W1 j k H') ?_ m1 ⟨0, H11, I11.weak (wipe_length _ _) (fun j v e => (wipe_some e).1), st11, fun b hb => (f11 b hb).1, w1⟩
        rintro k s12 ⟨j, H12, I12, st12, n12, w12⟩
        rcases turn1 j k H12 w12 with ⟨stop1, nx1⟩ | ⟨go1, N1, hN1, step1⟩
        · refine thnF (T1.done (X.blk s3 H3 scope ce fp) rfl rfl rfl hc j _ s12 (wipe σ8 vs1) H12 (fun _ _ => False) I12 (pinned1 n12) st12 stop1) fun r s13 ⟨hr, I13⟩ => ?_
          subst hr
          exact next I13 (hl8.trans (wipe_length σ8 vs1).symm) hk9 nx1
        · refine thnF (T1.item (X.blk s3 H3 scope ce fp) rfl rfl rfl hc j _ s12 (wipe σ8 vs1) H12 (fun _ _ => False) I12 (pinned1 n12) st12 go1) fun r s13 ⟨u1, hr, h13⟩ => ?_
          subst hr
          refine thnF h13 fun _ s14 ⟨x1, H14, I14, r14, y14, st14, n14⟩ => ?_
          refine thnF (pg1.run _ s14 (wipe σ8 vs1) H14 x1 u1 _ (I14.pinned (pinned1 n14) (T1.obj _ _ st14)) r14 (step1 x1 H14 y14)) fun _ s15 ⟨σ15, H15, I15, hw15, q15⟩ => ?_
          refine thnF (pk.run _ s15 σ15 H15 _ I15 q15) fun z s16 ⟨yk, H16, I16, r16, q16⟩ => ?_
          refine thnF (px.run _ s16 σ15 H16 _ I16 q16) fun z2 s17 ⟨yv, H17, I17, r17, kvs, key, ek, hD17, hz17, nx⟩ => ?_
          subst ek
          refine d_dictSet (X := X.blk s3 H3 scope ce fp) I17 hD17 hz17 r16 r17 fun s18 I18 => ?_
          obtain ⟨m', hm, w'⟩ := hN1 _ nx
          have pin : ∀ b ∈ fp1, ∀ o, s14.heap.get? b = some o → s18.heap.get? b = some o ∧ (upd H17 D (.dK (putK kvs key yv))) b = none := fun b hb o e =>
            have z := I18.pin (b, o) (List.mem_append_right _ (List.mem_append_right _ (mem_pinsAt hb e)))
            ⟨z.1, z.2.1⟩
          refine ⟨m', hm, j + 1, _, I18.unpinned.weak (by rw [← hw15, wipe_length]) (fun j v e => by rw [← hw15] at e; exact (wipe_some e).1), T1.keep _ _ _ st14 fun b hb o e => (pin b hb o e).1, fun b hb => ?_, w'⟩
          obtain ⟨o, e, _⟩ := T1.obj _ _ st14 b hb
          exact (pin b hb o e).2
      exact startD_in loop1 (T1.self X.A 0 _ _ _ st11 loop1)
  exact codeAny_compStart_dict loop (T.self X.A 0 _ _ _ st4 loop)
/-- y = {k: v for .. in .. for .. in ..} -/
theorem psSetDc2 {i : Nat} {y : Str} {py spos : Pos} (hy : X.N[i]? = some y) (hyl : X.env.scope.names.lookup y = some .local) (hsw : swapsWith (dc2 kx vx tg iter tg1 iter1 scope pos) (some (.Name y py)) spos.line X.env = pure true) (hc : X.calm = true) (hN : X.N.Nodup) (hi : PI X tg iter wi) (ok : BlkOk X.N X.env.scope scope own) (hv : ∀ i ∈ vs1, i ∈ own.map (·.2))
    (hg : ∀ (s : Shared) (H : Hp) (C : Addr) (cl : List (Str × Addr)) (fp : List Addr), PG (X.blk s H scope (compEnvC scope cl C X.env) fp) tg g)
    (hi1 : ∀ (s : Shared) (H : Hp) (C : Addr) (cl : List (Str × Addr)) (fp : List Addr), PI (X.blk s H scope (compEnvC scope cl C X.env) fp) tg1 iter1 wi1)
    (hg1 : ∀ (s : Shared) (H : Hp) (C : Addr) (cl : List (Str × Addr)) (fp : List Addr), PG (X.blk s H scope (compEnvC scope cl C X.env) fp) tg1 g1)
    (hk : ∀ (s : Shared) (H : Hp) (C : Addr) (cl : List (Str × Addr)) (fp : List Addr), PE (X.blk s H scope (compEnvC scope cl C X.env) fp) kx tk)
    (hx : ∀ (s : Shared) (H : Hp) (C : Addr) (cl : List (Str × Addr)) (fp : List Addr), PE (X.blk s H scope (compEnvC scope cl C X.env) fp) vx tv)
    (hs : ∀ x, foldedSetIterable iter X.env x = pure x := by intro _; rfl) (hs1 : ∀ env x, foldedSetIterable iter1 env x = pure x := by intro _ _; rfl) :
    PS X (.Assign [.Name y py] (dc2 kx vx tg iter tg1 iter1 scope pos) spos) (tAsg (tDc2 wi g wi1 g1 tk tv (own.map (·.2)) vs1) (gName i)) := by
  refine ⟨fun pins s σ H D I h => ?_⟩
  rw [exec_Assign_Name_used _ _ _ _ hsw]
  refine wpAny_bind (wpAny_standAt (wpAny_bind ?_))
  show wpAny _ X.A (do let _ ← comprehension (dc2 kx vx tg iter tg1 iter1 scope pos) scope X.env (firstIterPos [⟨tg, iter, [], 0⟩, ⟨tg1, iter1, [], 0⟩] pos) newDict false (eval iter X.env) (some (assign (.Name y py) X.env))) _ _ s
  have h : tDc2 wi g wi1 g1 tk tv (own.map (·.2)) vs1 σ H (fun x H1 => gName i x σ H1 D.nx) := h
  refine wpAny_bind (thn (dc2Core (Qf := fun _ s' => SP X pins D .next s') hc hN hi ok hv hg hi1 hg1 hk hx hs hs1 I h fun L C s' m H' I' q hn f => ?_) fun _ s' hq => wpAny_pure (wpAny_pure hq))
  show wpAny _ _ (assign (.Name y py) X.env (.ref L)) _ _ _
  refine wpAny_assign_Name (store_ok2 (v := V.ref L) I' hN hy (.inl hyl) rfl (fun s2 I2 ⟨a, sb, ha⟩ => ?_) (.inr hyl))
  obtain ⟨f0, f1, _, f3, f4, f5⟩ := f
  have hne : C ≠ a := ha.elim (fun z => by rw [z]; exact f1) fun z e => f4 y a z e.symm
  exact ⟨m, hn.sameBut sb hne, fun h3 sb3 => ⟨_, H', I2.turned (t' := s2.toks) (fun b o hb e => (sb3.2 b hb).trans e) f0 f1 f3 f4 f5, q⟩⟩
theorem swD_true {py : Pos} {y : Str} {l : Nat} {env : Env} (hk : env.blockKind = .function) (hy : env.kindOf y = some .local) (hl : py.line = pos.line)
    (hn : (scope.names.any fun x => x.1 == y && (x.2 == .local || x.2 == .cell)) = false) : swapsWith (dc2 kx vx tg iter tg1 iter1 scope pos) (some (.Name y py)) l env = pure true := by
  have h3 : (py.line == pos.line) = true := by rw [hl]; simp
  show (pure (env.blockKind == ScopeKind.function && env.kindOf y == some NameKind.local && py.line == pos.line && !(scope.names.any fun x => x.1 == y && (x.2 == .local || x.2 == .cell))) : Sem Bool) = pure true
  rw [hk, hy, h3, hn]
  rfl
end
/-! ### the dict of the rows in which numbers stand: {v: i + 1 for i, row in enumerate(t) for v in row} -/
abbrev diO (kvs : List (Key × V)) : OD := .obj (.dK kvs) [] []
def addK (kvs : List (Key × V)) (i : Nat) (r : List Int) : List (Key × V) := r.foldl (fun kvs v => putK kvs (.inl v) (V.int ((i : Int) + 1))) kvs
def rowK (T : List (List Int)) : Nat → List (Key × V)
  | 0 => []
  | i + 1 => addK (rowK T i) i (T.getD i [])
theorem addK_snoc (kvs : List (Key × V)) (i : Nat) (r : List Int) (v : Int) : addK kvs i (r ++ [v]) = putK (addK kvs i r) (.inl v) (V.int ((i : Int) + 1)) := by
  rw [addK, List.foldl_append]
  rfl
theorem addK_len (i : Nat) : ∀ (r : List Int) (kvs : List (Key × V)), (addK kvs i r).length ≤ kvs.length + r.length
  | [], kvs => Nat.le_refl _
  | v :: r, kvs => by
    have h1 := addK_len i r (putK kvs (.inl v) (V.int ((i : Int) + 1)))
    have h2 := length_putK kvs (Sum.inl v : Key) (V.int ((i : Int) + 1))
    show (addK (putK kvs (.inl v) (V.int ((i : Int) + 1))) i r).length ≤ kvs.length + (r.length + 1)
    omega
theorem rowK_len (T : List (List Int)) (m : Nat) (h : ∀ r ∈ T, r.length ≤ m) : ∀ i, (rowK T i).length ≤ i * m
  | 0 => Nat.zero_le _
  | i + 1 => by
    have h1 := addK_len i (T.getD i []) (rowK T i)
    have h2 := rowK_len T m h i
    have h3 : (T.getD i []).length ≤ m := by
      rw [List.getD_eq_getElem?_getD]
      cases e : T[i]? with
      | none => exact Nat.zero_le _
      | some r => exact h r (List.mem_of_getElem? e)
    show (addK (rowK T i) i (T.getD i [])).length ≤ (i + 1) * m
    rw [Nat.add_mul, Nat.one_mul]
    omega
theorem wipe_in {σ : L2.St} {i : Nat} : ∀ {vs : List Nat}, i ∈ vs → i < σ.length → (wipe σ vs)[i]? = some none
  | [], h, _ => absurd h List.not_mem_nil
  | v :: vs, h, hl => by
    unfold wipe
    by_cases e : v = i
    · subst e
      rw [List.getElem?_set_self (by rw [wipe_length]; exact hl)]
    · rw [List.getElem?_set_ne e]
      rcases List.mem_cons.mp h with z | z
      · exact absurd z.symm e
      · exact wipe_in z hl
theorem wipe_same {σ σ2 : L2.St} {vs : List Nat} (hl : σ2.length = σ.length) (h : ∀ i, i ∉ vs → σ2[i]? = σ[i]?) : wipe σ2 vs = wipe σ vs := by
  refine List.ext_getElem? fun i => ?_
  by_cases hi : i ∈ vs
  · by_cases hlt : i < σ.length
    · rw [wipe_in hi (by rw [hl]; exact hlt), wipe_in hi hlt]
    · rw [List.getElem?_eq_none (by rw [wipe_length]; omega), List.getElem?_eq_none (by rw [wipe_length]; omega)]
  · rw [wipe_out hi, wipe_out hi, h i hi]
section
variable {K : PySem.W.Frag} {Hk Hk' H H' : Hp} {O O' : Own} {ds : List SD} {σ : L2.St} {Q : SD → Own → Prop} {A : AE}
theorem w_rowD {ta : TA} {j1 j2 j3 : Nat} (h12 : j1 ≠ j2) (h13 : j1 ≠ j3) (h23 : j2 ≠ j3) (l1 : j1 < ds.length) (l2 : j2 < ds.length) (l3 : j3 < ds.length)
    (h : AvW K ta O ds fun rs O1 => ∃ T : List (List Int), rs = [.dat (.tuple (T.map fun r => .tuple (r.map .int)))] ∧ T.length ≤ 1000 ∧ (∀ r ∈ T, r.length ≤ 1000) ∧ ∀ D, Q (.ad D) ((D, diO (rowK T T.length)) :: O1)) :
    EvW K (tDc2 (iEnumT K ta) (gTup K 2 (gCons (gName j1) (gCons (gName j2) gNil))) (iTup K (tVar j2)) (gName j3) (tVar j3) (tOp (rI0 fun i j => V.int (i + j)) (tVar j1) (tC (V.int 1))) [j1, j2, j3] [j3]) O ds Q := fun Hk σ H p Q' k =>
  h Hk σ H p _ fun vs rs O1 Hk1 H1 e1 h1 s1 q1 => by
    obtain ⟨T, rfl, hT, hr, q⟩ := q1
    obtain ⟨v, rfl, hv⟩ := all1 s1
    have hσ : σ.length = ds.length := p.len
    cases (show Da Hk1 v (.tuple (T.map fun r => .tuple (r.map .int))) from hv) with
    | @tup a xs _ g1 g2 =>
    have hxl : xs.length = T.length := by rw [g2.length, List.length_map]
    refine ⟨a, xs, rfl, .inl (.inl (h1.kn _ _ g1)), fun D hf => ?_⟩
    refine ⟨fun i m H => m = T.length - i ∧ i ≤ T.length ∧ ∃ Hk2, Same Hk1 Hk2 ∧ Hold K Hk2 ((D, diO (rowK T i)) :: O1) H, ⟨T.length, by simp, Nat.zero_le _, Hk1, Same.refl _, h1.ownG (x := diO []) hf ⟨upd_same, .nil⟩⟩, ?_⟩
    rintro i m H2 ⟨rfl, hi, Hk2, e2, hh⟩
    have sq : SqT K H2 a xs := .inl (.inl (hh.kn _ _ (e2 _ _ g1)))
    by_cases hlt : i < T.length
    · have hx : xs[i]? = some xs[i] := List.getElem?_eq_getElem (by omega)
      refine .inr ⟨⟨xs, xs[i], sq, hx⟩, fun H3 => ∃ Hk3, Same Hk1 Hk3 ∧ Hold K Hk3 ((D, diO (rowK T (i + 1))) :: O1) H3, fun H3 hN => ⟨T.length - (i + 1), by omega, rfl, hlt, hN⟩, fun x H3 y => ?_⟩
      obtain ⟨t, x', rfl, nt, rfl, fx⟩ := y
      have ex : x' = xs[i] := by
        have := fx xs sq
        rw [hx] at this
        exact (Option.some.inj this).symm
      obtain ⟨d, hd1, hd2⟩ := g2.getV hx
      have ed : d = .tuple (T[i].map .int) := by
        rw [List.getElem?_map, List.getElem?_eq_getElem hlt] at hd1
        exact (Option.some.inj hd1).symm
      subst ed
      have smT : Same Hk2 (upd Hk2 t (.tup [.int (i : Nat), x'])) := same_new (hh.kn.free nt)
      have hh2 : Hold K (upd Hk2 t (.tup [.int (i : Nat), x'])) ((D, diO (rowK T i)) :: O1) (upd H2 t (.tup [.int (i : Nat), x'])) := hh.know nt
      generalize hHt : upd H2 t (.tup [.int (i : Nat), x']) = Ht at hh2 ⊢
      have htt : Ht t = some (.tup [.int (i : Nat), x']) := by rw [← hHt]; exact upd_same
      refine ⟨t, [.int (i : Nat), x'], rfl, .inl (.inl htt), rfl, .int (i : Nat), [x'], rfl, x', [], rfl, rfl, ?_⟩
      have e4 := e2.trans smT
      generalize hHk4 : upd Hk2 t (.tup [.int (i : Nat), x']) = Hk4 at hh2 e4
      have hdx : Da Hk4 x' (.tuple (T[i].map .int)) := by
        have := Da.mono e4 hd2
        rw [← ex] at this
        exact this
      generalize hs2 : ((wipe σ [j1, j2, j3]).set j1 (some (V.int (i : Nat)))).set j2 (some x') = σ2
      have hl2 : σ2.length = σ.length := by rw [← hs2, List.length_set, List.length_set, wipe_length]
      have w1 : σ2[j1]? = some (some (V.int (i : Nat))) := by
        rw [← hs2, List.getElem?_set_ne (Ne.symm h12), List.getElem?_set_self (by rw [wipe_length]; omega)]
      have w2 : σ2[j2]? = some (some x') := by
        rw [← hs2, List.getElem?_set_self (by rw [List.length_set, wipe_length]; omega)]
      refine ⟨wipe_same hl2 fun z hz => ?_, ?_⟩
      · have z1 : j1 ≠ z := fun e => hz (by rw [← e]; exact List.mem_cons_self)
        have z2 : j2 ≠ z := fun e => hz (by rw [← e]; exact List.mem_cons_of_mem _ List.mem_cons_self)
        rw [← hs2, List.getElem?_set_ne z2, List.getElem?_set_ne z1, wipe_out hz]
      have hrl : (T[i]).length ≤ 1000 := hr _ (List.getElem_mem hlt)
      have hKl : (rowK T i).length ≤ i * 1000 := rowK_len T 1000 hr i
      have hgi : T.getD i [] = T[i] := by rw [List.getD_eq_getElem?_getD, List.getElem?_eq_getElem hlt]; rfl
      cases hdx with
      | @tup b ys _ b1 b2 =>
      obtain rfl : ys = (T[i]).map V.int := b2.ints
      have sq4 : ∀ {Hk5 H5 : Hp}, Same Hk4 Hk5 → Same Hk5 H5 → SqT K H5 b ((T[i]).map V.int) := fun a1 a2 => .inl (.inl (a2 _ _ (a1 _ _ b1)))
      refine ⟨.ref b, w2, b, rfl, ⟨_, sq4 (Same.refl _) hh2.kn⟩, fun j k H => k = (T[i]).length - j ∧ j ≤ (T[i]).length ∧ ∃ Hk5, Same Hk4 Hk5 ∧ Hold K Hk5 ((D, diO (addK (rowK T i) i ((T[i]).take j))) :: O1) H, ⟨(T[i]).length, by simp, Nat.zero_le _, Hk4, Same.refl _, hh2⟩, ?_⟩
      rintro j m5 H5 ⟨rfl, hj, Hk5, e5, hh5⟩
      have sq5 := sq4 e5 hh5.kn
      by_cases hjl : j < (T[i]).length
      · have hy : ((T[i]).map V.int)[j]? = some (V.int (T[i])[j]) := by rw [List.getElem?_map, List.getElem?_eq_getElem hjl]; rfl
        refine .inr ⟨⟨_, _, sq5, hy⟩, fun H6 => ∃ Hk6, Same Hk4 Hk6 ∧ Hold K Hk6 ((D, diO (addK (rowK T i) i ((T[i]).take (j + 1)))) :: O1) H6, fun H6 hN => ⟨(T[i]).length - (j + 1), by omega, rfl, hjl, hN⟩, ?_⟩
        rintro x5 H6 ⟨rfl, fx5⟩
        obtain rfl : x5 = V.int (T[i])[j] := by
          have := fx5 _ sq5
          rw [hy] at this
          exact (Option.some.inj this).symm
        have n3 : (wipe σ2 [j3])[j1]? = σ2[j1]? := wipe_out fun z => h13 (List.mem_singleton.mp z)
        refine ⟨wipe_same (by rw [List.length_set, wipe_length]) fun z hz => ?_, .int (T[i])[j], List.getElem?_set_self (by rw [wipe_length]; omega), .int (i : Nat), ?_, (i : Nat), 1, rfl, rfl, _, .inl (T[i])[j], rfl, (hh5.ow _ List.mem_cons_self).1.1, ?_, Hk5, e5, ?_⟩
        · rw [List.getElem?_set_ne (fun e => hz (by rw [e]; exact List.mem_cons_self)), wipe_out hz]
        · rw [List.getElem?_set_ne (Ne.symm h13), n3]
          exact w1
        · have h7 := addK_len i ((T[i]).take j) (rowK T i)
          rw [List.length_take] at h7
          exact Nat.lt_of_le_of_lt (show _ ≤ 1001000 by omega) (by decide)
        · rw [List.take_succ, List.getElem?_eq_getElem hjl]
          show Hold K Hk5 ((D, diO (addK (rowK T i) i ((T[i]).take j ++ [(T[i])[j]]))) :: O1) _
          rw [addK_snoc]
          exact hh5.writeG (y := diO _) ⟨upd_same, .nil⟩
      · have ej : j = (T[i]).length := by omega
        subst ej
        refine .inl ⟨⟨_, sq5, by rw [List.length_map]; exact Nat.le_refl _⟩, Hk5, e4.trans e5, ?_⟩
        rw [List.take_length] at hh5
        show Hold K Hk5 ((D, diO (addK (rowK T i) i (T.getD i []))) :: O1) _
        rw [hgi]
        exact hh5
    · have ei : i = T.length := by omega
      subst ei
      exact .inl ⟨⟨xs, sq, by omega⟩, k _ (.ad D) _ Hk2 H2 (e1.trans e2) hh rfl (q D)⟩
/-- d[e], d owned, its keys ints -/
theorem w_dgetI {td ty : TE} (h : EvW K td O ds fun r O1 => EvW K ty O1 ds fun r2 O2 => ∃ a kvs n v, r = .ad a ∧ (a, diO kvs) ∈ O2 ∧ r2 = iV n ∧ valV kvs (.inl n) = some (V.int v) ∧ Q (iV v) O2) : EvW K (tDGet td ty) O ds Q := fun Hk σ H p Q' k =>
  h Hk σ H p _ fun v r O1 Hk1 H1 e1 h1 s1 q1 => q1 Hk1 σ H1 (p.ext e1 h1) _ fun v2 r2 O2 Hk2 H2 e2 h2 s2 q2 => by
    obtain ⟨a, kvs, n, x, rfl, hm, rfl, hv, q⟩ := q2
    cases (show v = .ref a from s1)
    cases (show Da Hk2 v2 (.int n) from s2)
    have g := DGet.k (k := (.inl n : Key)) (h2.ow _ hm).1.1
    rw [hv] at g
    exact ⟨a, V.int x, rfl, g, k _ (iV x) O2 Hk2 H2 (e1.trans e2) h2 (.int x) q⟩
/-- sorted(d), d owned, its keys ints -/
def rSortedD : List V → Hp → VK → Prop := fun xs H Q => ∃ (a : Addr) (kvs : List (Key × V)) (ks : List Int), xs = [.ref a] ∧ Rd H a (.dK kvs) ∧ kvs.map (·.1) = ks.map Sum.inl ∧ ks.length < 64 ∧ ∀ (ys : List Int) (p : Addr), ys.Perm ks → ys.Pairwise (· ≤ ·) → H p = none → Q (.ref p) (upd H p (.lst (ys.map V.int)))
theorem kSortedD {X : Cx} (hc : X.calm = true) : CallR X (.builtin "sorted") rSortedD := call_sortedDI hc
theorem g_sortedD {a : Addr} {kvs : List (Key × V)} {ks : List Int} (hm : (a, diO kvs) ∈ O) (hk : kvs.map (·.1) = ks.map Sum.inl) (hl : ks.length < 64) (q : ∀ ms : List Int, ms.Perm ks → ms.Pairwise (· ≤ ·) → Q (.dat (.list (ms.map .int))) O) : CbW K rSortedD [.ad a] O Q := fun Hk H h us hus Q' k => by
  obtain ⟨u, rfl, hu⟩ := all1 hus
  cases (show u = .ref a from hu)
  exact ⟨a, kvs, ks, rfl, .inl (h.ow _ hm).1.1, hk, hl, fun ms p hp hs hf => k.newD h hf (DaAll.of_ints ms) (q ms hp hs)⟩
end
/-! ### what the dict of rows holds -/
open Classical in
theorem putK_keys (kvs : List (Key × V)) (k : Key) (v : V) : (putK kvs k v).map (·.1) = if k ∈ kvs.map (·.1) then kvs.map (·.1) else kvs.map (·.1) ++ [k] := by
  unfold putK
  by_cases h : k ∈ kvs.map (·.1)
  · have e : (kvs.any fun kv => decide (kv.1 = k)) = true := by
      obtain ⟨p, hp, e⟩ := List.mem_map.mp h
      exact List.any_eq_true.mpr ⟨p, hp, decide_eq_true e⟩
    rw [if_pos e, if_pos h, List.map_map]
    refine List.map_congr_left fun p _ => ?_
    show (if p.1 = k then (p.1, v) else p).1 = p.1
    split <;> rfl
  · have e : ¬ (kvs.any fun kv => decide (kv.1 = k)) = true := fun z => by
      obtain ⟨p, hp, e⟩ := List.any_eq_true.mp z
      exact h (List.mem_map.mpr ⟨p, hp, of_decide_eq_true e⟩)
    rw [if_neg e, if_neg h, List.map_append]
    rfl
theorem addK_val (i : Nat) (v : Int) : ∀ (r : List Int) (kvs : List (Key × V)), valV (addK kvs i r) (.inl v) = if v ∈ r then some (V.int ((i : Int) + 1)) else valV kvs (.inl v)
  | [], kvs => by rw [if_neg List.not_mem_nil]; rfl
  | x :: r, kvs => by
    show valV (addK (putK kvs (.inl x) (V.int ((i : Int) + 1))) i r) (.inl v) = _
    rw [addK_val i v r, valV_put]
    by_cases h1 : v ∈ r
    · rw [if_pos h1, if_pos (List.mem_cons_of_mem _ h1)]
    · by_cases h2 : v = x
      · subst h2
        rw [if_neg h1, if_pos rfl, if_pos List.mem_cons_self]
      · rw [if_neg h1, if_neg fun e => h2 (Sum.inl.inj e), if_neg fun z => (List.mem_cons.mp z).elim h2 h1]
theorem rowK_val (T : List (List Int)) (v : Int) (i : Nat) (hv : v ∈ T.getD i []) (hu : ∀ j, v ∈ T.getD j [] → j = i) : ∀ n, i < n → valV (rowK T n) (.inl v) = some (V.int ((i : Int) + 1))
  | 0, h => absurd h (Nat.not_lt_zero _)
  | n + 1, h => by
    show valV (addK (rowK T n) n (T.getD n [])) (.inl v) = _
    rw [addK_val]
    by_cases e : n = i
    · subst e
      rw [if_pos hv]
    · rw [if_neg fun z => e (hu n z)]
      exact rowK_val T v i hv hu n (by omega)
theorem addK_keys (i : Nat) : ∀ (r : List Int) (kvs : List (Key × V)) (ks : List Int), kvs.map (·.1) = ks.map Sum.inl → ks.Nodup → ∃ ks2 : List Int, (addK kvs i r).map (·.1) = ks2.map Sum.inl ∧ ks2.Nodup ∧ ∀ v, v ∈ ks2 ↔ v ∈ ks ∨ v ∈ r
  | [], kvs, ks, h, hn => ⟨ks, h, hn, fun v => ⟨.inl, fun z => z.elim id fun z => absurd z List.not_mem_nil⟩⟩
  | x :: r, kvs, ks, h, hn => by
    have hk := putK_keys kvs (.inl x) (V.int ((i : Int) + 1))
    rw [h] at hk
    have hin : (Sum.inl x : Key) ∈ (ks.map Sum.inl : List Key) ↔ x ∈ ks := ⟨fun z => by
      obtain ⟨y, hy, e⟩ := List.mem_map.mp z
      rw [← Sum.inl.inj e]
      exact hy, fun z => List.mem_map.mpr ⟨x, z, rfl⟩⟩
    by_cases hx : x ∈ ks
    · rw [if_pos (hin.mpr hx)] at hk
      obtain ⟨ks2, g1, g2, g3⟩ := addK_keys i r _ ks hk hn
      refine ⟨ks2, g1, g2, fun v => ⟨fun z => ?_, fun z => ?_⟩⟩
      · exact ((g3 v).mp z).elim .inl fun z => .inr (List.mem_cons_of_mem _ z)
      · refine (g3 v).mpr (z.elim .inl fun z => ?_)
        rcases List.mem_cons.mp z with rfl | z
        · exact .inl hx
        · exact .inr z
    · rw [if_neg fun z => hx (hin.mp z)] at hk
      have hk2 : (putK kvs (.inl x) (V.int ((i : Int) + 1))).map (·.1) = ((ks ++ [x]).map Sum.inl : List Key) := by
        rw [hk, List.map_append]
        rfl
      obtain ⟨ks2, g1, g2, g3⟩ := addK_keys i r _ (ks ++ [x]) hk2 (List.nodup_append.mpr ⟨hn, List.nodup_cons.mpr ⟨List.not_mem_nil, List.nodup_nil⟩, fun a ha b hb e => hx (by rw [List.mem_singleton.mp hb] at e; rw [← e]; exact ha)⟩)
      refine ⟨ks2, g1, g2, fun v => ⟨fun z => ?_, fun z => ?_⟩⟩
      · rcases (g3 v).mp z with z | z
        · rcases List.mem_append.mp z with z | z
          · exact .inl z
          · rw [List.mem_singleton.mp z]
            exact .inr List.mem_cons_self
        · exact .inr (List.mem_cons_of_mem _ z)
      · rcases z with z | z
        · exact (g3 v).mpr (.inl (List.mem_append_left _ z))
        · rcases List.mem_cons.mp z with rfl | z
          · exact (g3 _).mpr (.inl (List.mem_append_right _ List.mem_cons_self))
          · exact (g3 v).mpr (.inr z)
theorem rowK_keys (T : List (List Int)) : ∀ n, n ≤ T.length → ∃ ks : List Int, (rowK T n).map (·.1) = ks.map Sum.inl ∧ ks.Nodup ∧ ∀ v, v ∈ ks ↔ ∃ i, i < n ∧ v ∈ T.getD i []
  | 0, _ => ⟨[], rfl, List.nodup_nil, fun v => ⟨fun z => absurd z List.not_mem_nil, fun ⟨i, h, _⟩ => absurd h (Nat.not_lt_zero _)⟩⟩
  | n + 1, h => by
    obtain ⟨ks, g1, g2, g3⟩ := rowK_keys T n (by omega)
    obtain ⟨ks2, k1, k2, k3⟩ := addK_keys n (T.getD n []) _ ks g1 g2
    refine ⟨ks2, k1, k2, fun v => ⟨fun z => ?_, fun ⟨i, hi, hv⟩ => ?_⟩⟩
    · rcases (k3 v).mp z with z | z
      · obtain ⟨i, hi, hv⟩ := (g3 v).mp z
        exact ⟨i, by omega, hv⟩
      · exact ⟨n, by omega, z⟩
    · by_cases e : i = n
      · subst e
        exact (k3 v).mpr (.inr hv)
      · exact (k3 v).mpr (.inl ((g3 v).mpr ⟨i, by omega, hv⟩))
end Wk
namespace Wk
open PySem PySem.Spec PyProof.Rows L2
/-- an owned instance of the class at C (its own dict at dx): ns the attributes' names, vs what they hold, rs what is known of it -/
abbrev insO (C dx : Addr) (ns : List Str) (vs : List V) (rs : List SD) : OD := .obj (.ins C dx (ns.zip vs)) vs rs
section
variable {K : PySem.W.Frag} {Hk Hk' H H' : Hp} {O O' Oa : Own} {ds : List SD} {σ : L2.St} {Q : SD → Own → Prop} {A : AE} {C dx a : Addr} {te ta tv to : TE} {t : TA}
theorem look_all {f : Str} {d : SD} : ∀ {ns : List Str} {vs : List V} {rs : List SD}, SDall K Hk vs rs → (ns.zip rs).lookup f = some d → ∃ v, (ns.zip vs).lookup f = some v ∧ SDok K Hk v d
  | [], _, _, _, h => by cases h
  | _ :: _, _, _, .nil, h => by cases h
  | n :: ns, _, _, .cons (v := v) a r, h => by
    rw [List.zip_cons_cons, List.lookup_cons] at h
    rw [List.zip_cons_cons, List.lookup_cons]
    cases e : (f == n) with
    | true =>
      rw [e] at h
      cases h
      exact ⟨v, rfl, a⟩
    | false =>
      rw [e] at h
      exact look_all r h
/-- o.f -/
theorem w_fld {f : Str} (c : Cls K C) (n : NoAttr K C f) (h : EvW K ta O ds fun r O1 => ∃ a dx ns vs rs d, r = .ad a ∧ (a, insO C dx ns vs rs) ∈ O1 ∧ (ns.zip rs).lookup f = some d ∧ Q d O1) : EvW K (tFld K ta f) O ds Q := fun Hk σ H p Q' k =>
  h Hk σ H p _ fun v r O1 Hk1 H1 e1 h1 s1 q1 => by
    obtain ⟨a, dx, ns, vs, rs, d, rfl, hm, hl, q⟩ := q1
    cases (show v = .ref a from s1)
    obtain ⟨⟨g1, g2⟩, _⟩ := h1.ow _ hm
    obtain ⟨u, h2, h3⟩ := look_all g2 hl
    exact ⟨a, C, dx, _, u, rfl, g1, c, n, h2, k u d O1 Hk1 H1 e1 h1 h3 q⟩
theorem putF_old {f : Str} {v : V} : ∀ {ns : List Str} {vs : List V} {i : Nat}, ns.Nodup → ns[i]? = some f → vs.length = ns.length → putF f v (ns.zip vs) = ns.zip (vs.set i v)
  | [], _, _, _, h, _ => by cases h
  | _ :: _, [], _, _, _, h => by cases h
  | n :: ns, u :: vs, 0, _, h, _ => by
    have e : n = f := by simpa using h
    subst e
    show putF n v ((n, u) :: ns.zip vs) = _
    unfold putF
    rw [if_pos rfl]
    rfl
  | n :: ns, u :: vs, i + 1, hn, h, hl => by
    obtain ⟨h1, h2⟩ := List.nodup_cons.mp hn
    have h3 : ns[i]? = some f := by simpa using h
    have ne : ¬ n = f := fun e => h1 (by rw [e]; exact List.mem_of_getElem? h3)
    show putF f v ((n, u) :: ns.zip vs) = (n, u) :: ns.zip (vs.set i v)
    unfold putF
    rw [if_neg ne, putF_old h2 h3 (Nat.succ.inj hl)]
theorem putF_new {f : Str} {v : V} : ∀ {ns : List Str} {vs : List V}, f ∉ ns → vs.length = ns.length → putF f v (ns.zip vs) = (ns ++ [f]).zip (vs ++ [v])
  | [], [], _, _ => rfl
  | [], _ :: _, _, h => by cases h
  | _ :: _, [], _, h => by cases h
  | n :: ns, u :: vs, hn, hl => by
    have ne : ¬ n = f := fun e => hn (by rw [e]; exact List.mem_cons_self)
    show putF f v ((n, u) :: ns.zip vs) = (n, u) :: (ns ++ [f]).zip (vs ++ [v])
    unfold putF
    rw [if_neg ne, putF_new (fun z => hn (List.mem_cons_of_mem _ z)) (Nat.succ.inj hl)]
/-- o.f = e, f there already -/
theorem s_fldS {f : Str} (c : Cls K C) (n : NoAttr K C f) (h : EvW K tv O ds fun r O1 => EvW K ta O1 ds fun ro O2 => ∃ a dx ns vs rs i Oa, ro = .ad a ∧ O2.Perm ((a, insO C dx ns vs rs) :: Oa) ∧ ns.Nodup ∧ ns.length ≤ 100 ∧ rs.length = ns.length ∧ ns[i]? = some f ∧
    ∀ vs2, A.nx ((a, insO C dx ns vs2 (rs.set i r)) :: Oa) ds) : StW K (sFld K ta tv f) O ds A := fun Hk σ H D p l =>
  h Hk σ H p _ fun v r O1 Hk1 H1 e1 h1 s1 q1 => q1 Hk1 σ H1 (p.ext e1 h1) _ fun vo ro O2 Hk2 H2 e2 h2 s2 q2 => by
    obtain ⟨a, dx, ns, vs, rs, i, Oa, rfl, hp, hn, hl, hrl, hi, q⟩ := q2
    cases (show vo = .ref a from s2)
    have h' := h2.perm hp
    obtain ⟨⟨g1, g2⟩, _⟩ := h'.ow _ List.mem_cons_self
    have hvl : vs.length = ns.length := by rw [g2.length, hrl]
    refine ⟨a, C, dx, _, rfl, g1, c, n, by rw [List.length_zip]; omega, ?_⟩
    rw [putF_old hn hi hvl]
    have hset : SDall K Hk2 (vs.set i v) (rs.set i r) := SDall.set (s1.mono e2) i g2
    exact l.nx _ ds Hk2 σ _ (e1.trans e2) (p.ext (e1.trans e2) (h'.writeG (y := insO C dx ns (vs.set i v) (rs.set i r)) ⟨upd_same, hset⟩)) (q _)
/-- o.f = e, f new -/
theorem s_fldN {f : Str} (c : Cls K C) (n : NoAttr K C f) (h : EvW K tv O ds fun r O1 => EvW K ta O1 ds fun ro O2 => ∃ a dx ns vs rs Oa, ro = .ad a ∧ O2.Perm ((a, insO C dx ns vs rs) :: Oa) ∧ f ∉ ns ∧ ns.length ≤ 100 ∧ rs.length = ns.length ∧
    ∀ vs2, A.nx ((a, insO C dx (ns ++ [f]) vs2 (rs ++ [r])) :: Oa) ds) : StW K (sFld K ta tv f) O ds A := fun Hk σ H D p l =>
  h Hk σ H p _ fun v r O1 Hk1 H1 e1 h1 s1 q1 => q1 Hk1 σ H1 (p.ext e1 h1) _ fun vo ro O2 Hk2 H2 e2 h2 s2 q2 => by
    obtain ⟨a, dx, ns, vs, rs, Oa, rfl, hp, hn, hl, hrl, q⟩ := q2
    cases (show vo = .ref a from s2)
    have h' := h2.perm hp
    obtain ⟨⟨g1, g2⟩, _⟩ := h'.ow _ List.mem_cons_self
    have hvl : vs.length = ns.length := by rw [g2.length, hrl]
    refine ⟨a, C, dx, _, rfl, g1, c, n, by rw [List.length_zip]; omega, ?_⟩
    rw [putF_new hn hvl]
    exact l.nx _ ds Hk2 σ _ (e1.trans e2) (p.ext (e1.trans e2) (h'.writeG (y := insO C dx (ns ++ [f]) (vs ++ [v]) (rs ++ [r])) ⟨upd_same, g2.append (.cons (s1.mono e2) .nil)⟩)) (q _)
/-- o.m(..) -/
theorem w_meth {m : Str} {pre : List SD → Own → (SD → Own → Prop) → Prop} {E : XK} (h : EvW K ta O ds fun r O1 => ∃ a dx ns vs rs, r = .ad a ∧ (a, insO C dx ns vs rs) ∈ O1 ∧ m ∉ ns ∧ AvW K t O1 ds fun ws O2 => pre (.ad a :: ws) O2 Q) : EvW K (tMeth C m (spW K pre) [] E ta t) O ds Q := fun Hk σ H p Q' k =>
  h Hk σ H p _ fun v r O1 Hk1 H1 e1 h1 s1 q1 => by
    obtain ⟨a, dx, ns, vs, rs, rfl, hm, hn, q⟩ := q1
    cases (show v = .ref a from s1)
    obtain ⟨⟨g1, g2⟩, _⟩ := h1.ow _ hm
    have hno : ∀ {ns : List Str} {vs : List V}, m ∉ ns → (ns.zip vs).lookup m = none := fun {ns} => by
      induction ns with
      | nil => exact fun _ => rfl
      | cons n ns ih =>
        intro vs hn
        cases vs with
        | nil => rfl
        | cons u vs =>
          rw [List.zip_cons_cons, List.lookup_cons]
          have e : (m == n) = false := beq_eq_false_iff_ne.mpr fun z => hn (by rw [z]; exact List.mem_cons_self)
          rw [e]
          exact ih fun z => hn (List.mem_cons_of_mem _ z)
    refine ⟨a, dx, _, rfl, g1, hno hn, q Hk1 σ H1 (p.ext e1 h1) _ fun ws ss O2 Hk2 H2 e2 h2 s2 q2 => ?_⟩
    show spW K pre (.ref a :: (ws ++ [])) H2 Q' E
    rw [List.append_nil]
    exact ⟨Hk2, O2, .ad a :: ss, Q, h2, .cons rfl s2, q2, k.ext (e1.trans e2)⟩
/-- C(..): a new instance without attributes, then its __init__ -/
theorem w_make {pre : List SD → Own → (SD → Own → Prop) → Prop} {E : XK} (h : AvW K t O ds fun rs O1 => ∀ x dx, pre (.ad x :: rs) ((x, insO C dx [] [] []) :: O1) fun r O2 => r = .dat .none ∧ Q (.ad x) O2) : EvW K (tMake C (spW K pre) [] E t) O ds Q := fun Hk σ H p Q' k =>
  h Hk σ H p _ fun vs rs O1 Hk1 H1 e1 h1 s1 q1 => by
    intro x dx nx nd ne
    have smT : Same Hk1 (upd Hk1 dx (.own x)) := same_new (h1.kn.free nd)
    have h2 : Hold K (upd Hk1 dx (.own x)) O1 (upd H1 dx (.own x)) := h1.know nd
    have nx2 : (upd H1 dx (.own x)) x = none := by rw [upd_ne (Ne.symm ne)]; exact nx
    have h3 := h2.ownG (x := insO C dx [] [] []) (o := .ins C dx []) nx2 ⟨upd_same, .nil⟩
    show spW K pre (.ref x :: (vs ++ [])) _ _ E
    rw [List.append_nil]
    refine ⟨_, _, .ad x :: rs, _, h3, .cons rfl (s1.mono smT), q1 x dx, ?_⟩
    intro v r O2 Hk4 H4 e4 h4 s4 q4
    obtain ⟨rfl, q5⟩ := q4
    cases (show Da Hk4 v .none from s4)
    exact ⟨rfl, k _ (.ad x) O2 Hk4 H4 (e1.trans (smT.trans e4)) h4 rfl q5⟩
/-- xs.pop(), xs owned -/
theorem w_pop (h : EvW K to O ds fun r O1 => ∃ a rs d Oa, r = .ad a ∧ O1.Perm ((a, OD.lst (rs ++ [d])) :: Oa) ∧ Q d ((a, .lst rs) :: Oa)) : EvW K (tBM0 K "list" rPop to) O ds Q := fun Hk σ H p Q' k =>
  h Hk σ H p _ fun v r O1 Hk1 H1 e1 h1 s1 q1 => by
    obtain ⟨a, rs, d, Oa, rfl, hp, q⟩ := q1
    cases (show v = .ref a from s1)
    have h' := h1.perm hp
    obtain ⟨⟨vs, g1, g2⟩, _⟩ := h'.ow _ List.mem_cons_self
    obtain ⟨v1, v2, rfl, a1, a2⟩ := g2.split
    cases a2 with
    | cons b1 b2 =>
      cases b2
      rename_i u
      refine ⟨.inl ⟨rfl, _, .inl (.inl g1)⟩, a, _, u, rfl, rfl, g1, by simp, ?_⟩
      rw [List.dropLast_concat]
      exact k u d _ Hk1 _ e1 (h'.writeG (y := OD.lst rs) ⟨v1, upd_same, a1⟩) b1 q
end
/-! ### methods that may raise -/
def tMethS (C : Addr) (m : Str) (sp : Sp) (E : L2.St → XK) (ta : TE) (t : TA) : TE := fun σ H Q => ta σ H fun x H1 => ∃ a dx fs, x = .ref a ∧ H1 a = some (.ins C dx fs) ∧ fs.lookup m = none ∧
  t σ H1 fun vs H2 => sp (x :: vs) H2 Q (E σ)
theorem zip_no {m : Str} : ∀ {ns : List Str} {vs : List V}, m ∉ ns → (ns.zip vs).lookup m = none
  | [], _, _ => rfl
  | _ :: _, [], _ => rfl
  | n :: ns, u :: vs, hn => by
    rw [List.zip_cons_cons, List.lookup_cons]
    have e : (m == n) = false := beq_eq_false_iff_ne.mpr fun z => hn (by rw [z]; exact List.mem_cons_self)
    rw [e]
    exact zip_no fun z => hn (List.mem_cons_of_mem _ z)
section
variable {K : PySem.W.Frag} {O : Own} {ds : List SD} {Q : SD → Own → Prop} {C : Addr} {ta : TE} {t : TA} {W : WX} {Qs : Addr → Option (Str × PyData) → Own → List SD → Prop} {m : Str}
  {preX : List SD → Own → (SD → Own → Prop) → (Addr → Option (Str × PyData) → Own → Prop) → Prop}
theorem x_meth (h : EvW K ta O ds fun r O1 => ∃ a dx ns vs rs, r = .ad a ∧ (a, insO C dx ns vs rs) ∈ O1 ∧ m ∉ ns ∧ AvW K t O1 ds fun ws O2 => preX (.ad a :: ws) O2 Q fun C fs O2 => Qs C fs O2 ds) : EvX K W Qs (tMethS C m (spX K preX) (WE W) ta t) O ds Q := fun Hk σ H p kw Q' k =>
  h Hk σ H p _ fun v r O1 Hk1 H1 e1 h1 s1 q1 => by
    obtain ⟨a, dx, ns, vs, rs, rfl, hm, hn, q⟩ := q1
    cases (show v = .ref a from s1)
    obtain ⟨⟨g1, g2⟩, _⟩ := h1.ow _ hm
    exact ⟨a, dx, _, rfl, g1, zip_no hn, q Hk1 σ H1 (p.ext e1 h1) _ fun ws ss O2 Hk2 H2 e2 h2 s2 q2 =>
      ⟨Hk2, O2, .ad a :: ss, Q, _, h2, .cons rfl s2, q2, k.ext (e1.trans e2), fun cls d C fs O3 Hk3 H3 e3 h3 ok q => kw cls d C fs σ O3 ds Hk3 H3 ((e1.trans e2).trans e3) (p.ext ((e1.trans e2).trans e3) h3) ok q⟩⟩
/-- where nothing is raised -/
theorem w_methN (h : EvW K ta O ds fun r O1 => ∃ a dx ns vs rs, r = .ad a ∧ (a, insO C dx ns vs rs) ∈ O1 ∧ m ∉ ns ∧ AvW K t O1 ds fun ws O2 => preX (.ad a :: ws) O2 Q fun _ _ _ => False) : EvW K (tMethS C m (spX K preX) (WE fun _ _ _ _ => False) ta t) O ds Q := fun Hk σ H p Q' k =>
  h Hk σ H p _ fun v r O1 Hk1 H1 e1 h1 s1 q1 => by
    obtain ⟨a, dx, ns, vs, rs, rfl, hm, hn, q⟩ := q1
    cases (show v = .ref a from s1)
    obtain ⟨⟨g1, g2⟩, _⟩ := h1.ow _ hm
    exact ⟨a, dx, _, rfl, g1, zip_no hn, q Hk1 σ H1 (p.ext e1 h1) _ fun ws ss O2 Hk2 H2 e2 h2 s2 q2 =>
      ⟨Hk2, O2, .ad a :: ss, Q, _, h2, .cons rfl s2, q2, k.ext (e1.trans e2), fun cls d C fs O3 Hk3 H3 e3 h3 ok q => q.elim⟩⟩
end
section
variable {X : Cx} {K : PySem.W.Frag} {CX : CXT} {k : Nat} {f C : Addr} {fd : FuncData} {ps : List Str} {sp : Sp} {E : L2.St → XK} {x m : Str} {p pos pos' apos : Pos} {e o value : Expr} {es : List Expr} {te ta tv : TE} {t : TA}
theorem peBm0 {T id : String} {name : Str} {r : V → List V → Hp → VK → Prop} {to : TE} (K : PySem.W.Frag) (pa : PlainAttrs T) (slot : Slot T name id) (hty : typeOf (.builtin id) = pure (.type "method_descriptor")) (hm : MtR X id r) (ho : PE X o to) (hK : X.K = K := by rfl)
    (hbase : attributeBase o name X.env (eval o X.env) = eval o X.env := by rfl) (hline : (apos.endLine == pos.line) = true := by rfl) : PE X (.Call (.Attribute o name apos) [] [] pos) (tBM0 K T r to) := hK ▸ pe_bm0 pa slot hty hm ho hbase hline
theorem peFld {g : Str} (he : PE X e ta) (hK : X.K = K := by rfl) (hb : attributeBase e g X.env (eval e X.env) = eval e X.env := by rfl) : PE X (.Attribute e g pos) (tFld K ta g) := hK ▸ pe_fld he hb
theorem psFld {g : Str} (ha : PE X o ta) (hv : PE X value tv) (hK : X.K = K := by rfl) (hs : swapsWith value (some (.Attribute o g pos')) pos.line X.env = pure false := by rfl) : PS X (.Assign [.Attribute o g pos'] value pos) (sFld K ta tv g) := hK ▸ ps_fld ha hv hs
theorem peMeth {pl : Sem Bool} (c : Cls K C) (hm : Meth K C m f) (F : FnOk X.prog X.w X.K X.mg X.base CX0 k f fd ps sp) (hr : Room k X.A) (hb : Binds X.K fd ps []) (he : PE X o ta) (ha : PA X (e :: es) t) (hK : X.K = K := by rfl)
    (hst : starEach (e :: es) X.env = (false, eval e X.env) :: starEach es X.env := by rfl) (hpl : (backTo pos (starEach es X.env)).any (·.1) = false := by rfl)
    (ht : eval (.Call (.Attribute o m apos) (e :: es) [] pos) X.env = (do
      let ov ← eval o X.env
      standAt apos.atName
      let (f, first) ← holding [ov] (getMethod ov m pl)
      callWith pos f first (backTo pos (starEach (e :: es) X.env)) (backToKw pos (keywordEach [] X.env))) := by rfl) :
    PE X (.Call (.Attribute o m apos) (e :: es) [] pos) (tMeth C m sp [] E0 ta t) := by
  subst hK
  exact pe_meth he c hm F hr hb .nil pass0 ha hst hpl ht
theorem peMeth0 {pl : Sem Bool} (c : Cls K C) (hm : Meth K C m f) (F : FnOk X.prog X.w X.K X.mg X.base CX0 k f fd ps sp) (hr : Room k X.A) (hb : Binds X.K fd ps []) (he : PE X o ta) (hK : X.K = K := by rfl)
    (ht : eval (.Call (.Attribute o m apos) [] [] pos) X.env = (do
      let ov ← eval o X.env
      standAt apos.atName
      let (f, first) ← holding [ov] (getMethod ov m pl)
      callWith pos f first (backTo pos (starEach [] X.env)) (backToKw pos (keywordEach [] X.env))) := by rfl) :
    PE X (.Call (.Attribute o m apos) [] [] pos) (tMeth C m sp [] E0 ta tNil) := by
  subst hK
  exact pe_meth0 he c hm F hr hb .nil pass0 ht
theorem peMethS {pl : Sem Bool} (c : Cls K C) (hm : Meth K C m f) (F : FnOk X.prog X.w X.K X.mg X.base CX k f fd ps sp) (hr : Room k X.A) (hb : Binds X.K fd ps []) (hx : ∀ σ, PassesAt CX X σ (E σ)) (he : PE X o ta) (ha : PA X (e :: es) t) (hK : X.K = K := by rfl)
    (hst : starEach (e :: es) X.env = (false, eval e X.env) :: starEach es X.env := by rfl) (hpl : (backTo pos (starEach es X.env)).any (·.1) = false := by rfl)
    (ht : eval (.Call (.Attribute o m apos) (e :: es) [] pos) X.env = (do
      let ov ← eval o X.env
      standAt apos.atName
      let (f, first) ← holding [ov] (getMethod ov m pl)
      callWith pos f first (backTo pos (starEach (e :: es) X.env)) (backToKw pos (keywordEach [] X.env))) := by rfl) :
    PE X (.Call (.Attribute o m apos) (e :: es) [] pos) (tMethS C m sp E ta t) := by
  subst hK
  refine ⟨fun pins s σ H Q I h => ?_⟩
  refine PySem.W.methodCall_KW (pl := pl) (thn (he.run pins s σ H _ I h) fun u s1 ⟨x, H1, I1, rx, a, dx, fs, ex, ea, l, q⟩ => ?_) ht
  subst ex
  obtain rfl : u = Value.ref a := rx
  refine getmeth_ok I1 ea c hm l ?_
  refine PySem.W.callWith_K (first := [.ref a]) (h₀ := X.base) I.ok.mod.kin hm.kp (thn (ha.run pos pins s1 σ H1 _ I1 q) fun us s2 ⟨vs, H2, I2, r, q2⟩ => ⟨I2.kIn, ?_⟩) hst hpl
  exact run_fnS (us := .ref a :: us) (vs := .ref a :: vs) F hr hb (hx σ) I2 (.cons rfl r) q2
end
/-! ### within an expression: what a call may raise goes on -/
section
variable {K : PySem.W.Frag} {O : Own} {ds : List SD} {Q : SD → Own → Prop} {te : TE} {tl th : TO} {W : WX} {Qs : Addr → Option (Str × PyData) → Own → List SD → Prop}
theorem x_cb1 {r : List V → Hp → VK → Prop} (h : EvX K W Qs te O ds fun x O1 => CbW K r [x] O1 Q) : EvX K W Qs (tCB r (tCons te tNil)) O ds Q := fun Hk σ H p kw Q' k =>
  h Hk σ H p kw _ fun v x O1 Hk1 H1 e1 h1 s1 q1 => q1 Hk1 H1 h1 [v] (.cons s1 .nil) Q' (k.ext e1)
theorem x_sl {r : V → Option Int → Option Int → Hp → VK → Prop} (h : EvX K W Qs te O ds fun x O1 => IvW K tl O1 ds fun lo O2 => IvW K th O2 ds fun hi O3 => SlW K r x lo hi O3 Q) : EvX K W Qs (tSl r te tl th) O ds Q := fun Hk σ H p kw Q' k =>
  h Hk σ H p kw _ fun v x O1 Hk1 H1 e1 h1 s1 q1 => q1 Hk1 σ H1 (p.ext e1 h1) _ fun lo O2 Hk2 H2 e2 h2 q2 => q2 Hk2 σ H2 ((p.ext e1 h1).ext e2 h2) _ fun hi O3 Hk3 H3 e3 h3 q3 =>
    q3 Hk3 H3 h3 v (s1.mono (e2.trans e3)) Q' (k.ext (e1.trans (e2.trans e3)))
/-- tuple(range(a, b)) -/
theorem w_tupRg2 {ta tb : TE} (h : EvW K ta O ds fun r1 O1 => EvW K tb O1 ds fun r2 O2 => ∃ a b : Int, r1 = iV a ∧ r2 = iV b ∧ RgOk a b ∧ Q (.dat (tI (rgI a b))) O2) : EvW K (tTupRg (tRg2 ta tb)) O ds Q := fun Hk σ H p Q' k =>
  h Hk σ H p _ fun v r1 O1 Hk1 H1 e1 h1 s1 q1 => q1 Hk1 σ H1 (p.ext e1 h1) _ fun u r2 O2 Hk2 H2 e2 h2 s2 q2 => by
    obtain ⟨a, b, rfl, rfl, hr, q⟩ := q2
    cases (show Da Hk1 v (.int a) from s1)
    cases (show Da Hk2 u (.int b) from s2)
    refine ⟨a, b, rfl, rfl, hr, fun pn hf => ?_⟩
    have sm : Same Hk2 (upd Hk2 pn (.tup (rgV a b))) := same_new (h2.kn.free hf)
    have hd : ∀ H : Hp, DaAll H (rgV a b) ((rgI a b).map PyData.int) := fun H => by
      have := DaAll.of_ints (H := H) (rgI a b)
      unfold rgI at this ⊢
      rw [List.map_map] at this
      exact this
    exact k _ (.dat (tI (rgI a b))) O2 _ _ (e1.trans (e2.trans sm)) (h2.know hf) (.tup upd_same (hd _)) q
end
/-- a method's def -/
def DefM (K : PySem.W.Frag) (C : Addr) (m qual : Str) (st : Stmt) : Prop := ∃ f fd, Fun K m qual st f fd ∧ Meth K C m f
/-- a method as it is called -/
def CalleeM (P : Program) (w : World) (K : PySem.W.Frag) (mg : Str → Option Value) (base : Heap) (C : Addr) (m : Str) (ps : List Str) (k : Nat) (pre : List SD → Own → (SD → Own → Prop) → Prop) : Prop :=
  ∃ f fd, FnOk P w K mg base CX0 k f fd ps (spW K pre) ∧ Meth K C m f ∧ Binds K fd ps []
def CalleeMX (P : Program) (w : World) (K : PySem.W.Frag) (mg : Str → Option Value) (base : Heap) (C : Addr) (m : Str) (ps : List Str) (k : Nat) (pre : List SD → Own → (SD → Own → Prop) → (Addr → Option (Str × PyData) → Own → Prop) → Prop) : Prop :=
  ∃ f fd, FnOk P w K mg base (L2.CX P w) k f fd ps (spX K pre) ∧ Meth K C m f ∧ Binds K fd ps []
/-- __init__, and the class by its name -/
def DefI (K : PySem.W.Frag) (mg : Str → Option Value) (x : Str) (C : Addr) (qual : Str) (st : Stmt) : Prop := ∃ f fd, Fun K "__init__" qual st f fd ∧ Mk K C f ∧ mg x = some (.ref C)
def CalleeI (P : Program) (w : World) (K : PySem.W.Frag) (mg : Str → Option Value) (base : Heap) (x : Str) (C : Addr) (ps : List Str) (k : Nat) (pre : List SD → Own → (SD → Own → Prop) → Prop) : Prop :=
  ∃ f fd, FnOk P w K mg base CX0 k f fd ps (spW K pre) ∧ Mk K C f ∧ mg x = some (.ref C) ∧ Binds K fd ps []
/-! ### [x for a, b in zip(t, u)], tuples -/
section
variable {K : PySem.W.Frag} {O O' : Own} {ds : List SD} {Q : SD → Own → Prop} {Hk : Hp} {σ : L2.St} {H H' : Hp}
theorem lc_body {tt : TT} {te : TE} {O2 : Own} {acc ds' : List SD} {I' : List SD → Own → Prop} {Dl : Addr} {P' : Hp → Prop} {σ' : L2.St} (h : LcTurn K tt te O2 ds' acc I') (hl : acc.length < sizeLine)
    (p1 : Pt K Hk ((Dl, OD.lst acc) :: O2) ds' σ' H) (k : ∀ acc2 O3 Hk2 H2, Same Hk Hk2 → Hold K Hk2 ((Dl, OD.lst acc2) :: O3) H2 → I' acc2 O3 → P' H2) :
    tt σ' H fun b H3 => if b = true then te σ' H3 fun y H4 => ∃ acc, H4 Dl = some (.lst acc) ∧ acc.length < sizeLine ∧ P' (upd H4 Dl (.lst (acc ++ [y]))) else P' H3 := by
  refine h Dl Hk _ H p1 _ fun b O3 Hk3 H3 e3 h3 q3 => ?_
  cases b with
  | true =>
    refine iteT (q3.1 rfl Hk3 _ H3 (p1.ext e3 h3) _ fun y r O4 Hk4 H4 e4 h4 s4 q4 => ?_)
    obtain ⟨O5, hp, q5⟩ := q4
    have h5 := h4.perm hp
    obtain ⟨⟨vs, g1, g2⟩, _⟩ := h5.ow _ List.mem_cons_self
    exact ⟨vs, g1, by rw [g2.length]; exact hl, k _ O5 Hk4 _ (e3.trans e4) (h5.write (g2.append (.cons s4 .nil))) q5⟩
  | false =>
    obtain ⟨O5, hp, q5⟩ := q3.2 rfl
    exact iteF (k _ O5 Hk3 _ e3 (h3.perm hp) q5)
theorem wipe_two {j1 j2 : Nat} (hj : j1 ≠ j2) (v u : Option V) : ((wipe σ [j1, j2]).set j1 v).set j2 u = (σ.set j1 v).set j2 u := by
  show (((σ.set j2 none).set j1 none).set j1 v).set j2 u = (σ.set j1 v).set j2 u
  rw [List.set_set, List.set_comm _ _ hj, List.set_set, List.set_comm _ _ hj.symm]
theorem wipe_two2 {j1 j2 : Nat} (hj : j1 ≠ j2) (v u : Option V) : wipe ((σ.set j1 v).set j2 u) [j1, j2] = wipe σ [j1, j2] := by
  show ((((σ.set j1 v).set j2 u).set j2 none).set j1 none) = (σ.set j2 none).set j1 none
  rw [List.set_set, List.set_comm _ _ hj, List.set_set]
theorem w_lcZT {ta : TA} {j1 j2 : Nat} {tt : TT} {te : TE} (hj : j1 ≠ j2) (h : AvW K ta O ds fun rs O1 => ∃ es fs : List PyData, rs = [.dat (.tuple es), .dat (.tuple fs)] ∧ es.length ≤ 1000000 ∧ ∃ I : Nat → List SD → Own → Prop, I 0 [] O1 ∧
    (∀ (i : Nat) d e acc O2, es[i]? = some d → fs[i]? = some e → acc.length ≤ i → I i acc O2 → LcTurn K tt te O2 ((ds.set j1 (.dat d)).set j2 (.dat e)) acc (I (i + 1))) ∧ ∀ acc O2 Dl, I (min es.length fs.length) acc O2 → Q (.ad Dl) ((Dl, .lst acc) :: O2)) :
    EvW K (tLc (RZ.iZipA K ta) (gTup K 2 (gCons (gName j1) (gCons (gName j2) gNil))) tt te [j1, j2]) O ds Q := fun Hk σ H p Q' k =>
  h Hk σ H p _ fun vs rs O1 Hk1 H1 e1 h1 s1 q1 => by
    obtain ⟨es, fs, rfl, hn, I, h0, hs, hd⟩ := q1
    obtain ⟨v, u, rfl, hv, hu⟩ := all2 s1
    cases (show Da Hk1 v (.tuple es) from hv) with
    | @tup a xs _ g1 g2 =>
      cases (show Da Hk1 u (.tuple fs) from hu) with
      | @tup b ys _ k1 k2 =>
      refine ⟨a, b, xs, ys, rfl, .inr ⟨.inl (.inl (h1.kn _ _ g1)), .inl (.inl (h1.kn _ _ k1)), fun Dl hf => ⟨fun i m H => m = min xs.length ys.length - i ∧ i ≤ min xs.length ys.length ∧ ∃ acc O2 Hk2, Same Hk1 Hk2 ∧ acc.length ≤ i ∧ Hold K Hk2 ((Dl, OD.lst acc) :: O2) H ∧ I i acc O2, ⟨min xs.length ys.length, by simp, Nat.zero_le _, [], O1, Hk1, Same.refl _, Nat.le_refl _, h1.own hf .nil, h0⟩, ?_⟩⟩⟩
      rintro i m H' ⟨rfl, hi, acc, O2, Hk2, e, hl, hh, q⟩
      have sq : SqT K H' a xs := .inl (.inl (hh.kn _ _ (e _ _ g1)))
      have sk : SqT K H' b ys := .inl (.inl (hh.kn _ _ (e _ _ k1)))
      by_cases hlt : i < min xs.length ys.length
      · have hlx : i < xs.length := by omega
        have hly : i < ys.length := by omega
        have hx : xs[i]? = some xs[i] := List.getElem?_eq_getElem hlx
        have hy : ys[i]? = some ys[i] := List.getElem?_eq_getElem hly
        refine .inr ⟨⟨xs, ys, xs[i], ys[i], sq, sk, hx, hy⟩, fun H2 => ∃ acc3 O3 Hk3, Same Hk1 Hk3 ∧ acc3.length ≤ i + 1 ∧ Hold K Hk3 ((Dl, OD.lst acc3) :: O3) H2 ∧ I (i + 1) acc3 O3, fun H2 hN => ⟨min xs.length ys.length - (i + 1), by omega, rfl, hlt, hN⟩, fun x H2 y => ?_⟩
        obtain ⟨T, x', y', rfl, nT, rfl, fx, fy⟩ := y
        have ex : x' = xs[i] := by
          have := fx xs sq
          rw [hx] at this
          exact (Option.some.inj this).symm
        have ey : y' = ys[i] := by
          have := fy ys sk
          rw [hy] at this
          exact (Option.some.inj this).symm
        obtain ⟨d, hd1, hd2⟩ := g2.getV hx
        obtain ⟨d', hd3, hd4⟩ := k2.getV hy
        have smT : Same Hk2 (upd Hk2 T (.tup [x', y'])) := same_new (hh.kn.free nT)
        have hh3 := hh.know (o := .tup [x', y']) nT
        refine ⟨T, [x', y'], rfl, .inl (.inl upd_same), rfl, x', [y'], rfl, y', [], rfl, rfl, ?_⟩
        have hdx : SDok K (upd Hk2 T (.tup [x', y'])) x' (.dat d) := by
          have := Da.mono (e.trans smT) hd2
          rw [← ex] at this
          exact this
        have hdy : SDok K (upd Hk2 T (.tup [x', y'])) y' (.dat d') := by
          have := Da.mono (e.trans smT) hd4
          rw [← ey] at this
          exact this
        have e4 := e.trans smT
        have hlt2 := (List.getElem?_eq_some_iff.mp hd1).1
        have hz : acc.length < sizeLine := Nat.lt_of_lt_of_le (show acc.length < 1000001 by omega) (by decide)
        have ht := hs i d d' acc O2 hd1 hd3 hl q
        rw [wipe_two hj]
        refine ⟨wipe_two2 hj _ _, ?_⟩
        have p1 := (((p.ext e1 h1).ext e4 (hh3.sub (List.sublist_cons_self ..))).ext (Same.refl _) hh3)
        refine lc_body (I' := fun acc2 O3 => acc2.length ≤ i + 1 ∧ I (i + 1) acc2 O3) ?_ hz ((p1.set (j := j1) hdx).set (j := j2) hdy) fun acc2 O3 Hk3 H3 e3 h3 q3 => ⟨acc2, O3, Hk3, e4.trans e3, q3.1, h3, q3.2⟩
        intro Dl2 Hk3 σ3 H3 p3 Q3 k3
        refine ht Dl2 Hk3 σ3 H3 p3 Q3 fun b O3 Hk4 H4 e4 h4 q4 => k3 b O3 Hk4 H4 e4 h4 ⟨fun hb => w_mono (q4.1 hb) fun r O4 ⟨O5, hp, q5⟩ => ⟨O5, hp, by rw [List.length_append]; simp; omega, q5⟩, fun hb => ?_⟩
        obtain ⟨O5, hp, q5⟩ := q4.2 hb
        exact ⟨O5, hp, by omega, q5⟩
      · have ei : i = min xs.length ys.length := by omega
        refine .inl ⟨⟨xs, ys, sq, sk, by omega⟩, ?_⟩
        rw [ei, g2.length, k2.length] at q
        exact k _ (.ad Dl) _ Hk2 _ (e1.trans e) hh rfl (hd acc O2 Dl q)
end
/-! ### l.index(True), a list of truth values -/
section
variable {K : PySem.W.Frag} {O : Own} {Q : SD → Own → Prop}
theorem peIdx {X : Cx} (K : PySem.W.Frag) {e : Expr} {to : TE} {ta : TA} (hs : PE X e (tBM X.K "list" (rIndex X.K) to ta)) (h : X.K = K := by rfl) : PE X e (tBM K "list" (rIndex K) to ta) := h ▸ hs
theorem m_idxB {bs : List Bool} {j : Nat} (hj : bs[j]? = some true) (hno : ∀ m, m < j → bs[m]? = some false) (q : Q (iV j) O) : MbW K (rIndex K) (.dat (.list (bs.map .bool))) [bV true] O Q := fun Hk H h u us hu hus Q' k => by
  obtain ⟨v, rfl, hv⟩ := all1 hus
  cases (show Da Hk v (.bool true) from hv)
  cases (show Da Hk u (.list (bs.map .bool)) from hu) with
  | @lst a xs _ g1 g2 =>
    have e : ∀ {m : Nat} {z : V}, xs[m]? = some z → ∃ b, bs[m]? = some b ∧ z = .bl b := fun {m z} hz => by
      obtain ⟨d, h1, h2⟩ := g2.getV hz
      rw [List.getElem?_map] at h1
      cases hb : bs[m]? with
      | none => rw [hb] at h1; cases h1
      | some b =>
        rw [hb] at h1
        cases h1
        cases h2
        exact ⟨b, rfl, rfl⟩
    have hl : xs.length = bs.length := by rw [g2.length, List.length_map]
    have hjl := (List.getElem?_eq_some_iff.mp hj).1
    have hx : xs[j]? = some xs[j] := List.getElem?_eq_getElem (by omega)
    obtain ⟨b, hb1, hb2⟩ := e hx
    rw [hj] at hb1
    cases hb1
    refine ⟨a, xs, .bl true, j, .bl true, rfl, rfl, .inl (.inl (h.kn _ _ g1)), rfl, List.all_eq_true.mpr fun z hz => ?_, hx.trans (congrArg some hb2), rfl, fun m z hm hz => ?_, k _ (iV j) O Hk H (Same.refl _) h (.int _) q⟩
    · obtain ⟨i, hi⟩ := List.mem_iff_getElem?.mp hz
      obtain ⟨b, _, rfl⟩ := e hi
      rfl
    · obtain ⟨b, hb, rfl⟩ := e hz
      rw [hno m hm] at hb
      cases hb
      rfl
end
theorem ty_lstD {K : PySem.W.Frag} {O : Own} {es : List PyData} : TyW K "list" (.dat (.list es)) O := fun Hk H h u hu => by
  cases (show Da Hk u (.list es) from hu) with
  | @lst a xs _ g1 g2 => exact .inl ⟨rfl, _, .inl (.inl (h.kn _ _ g1))⟩
/-! ### x not in [None, 'a', ..] -/
section
variable {K : PySem.W.Frag} {O : Own} {Q : SD → Own → Prop}
theorem kNotIn {X : Cx} (K : PySem.W.Frag) (h : X.K = K := by rfl) : OpR X (compareOp .NotIn) (rIn K true) := h ▸ op_notIn_seq
def flS : PyData → Bool
  | .none => true
  | .str _ => true
  | _ => false
def flV : PyData → V
  | .str s => .str s
  | _ => .non
theorem flS_v {H : Hp} {v : V} {d : PyData} (h : Da H v d) (hf : flS d = true) : v = flV d ∧ flatV v = true := by
  cases h <;> first | exact ⟨rfl, rfl⟩ | cases hf
theorem flV_eq {d e : PyData} (hd : flS d = true) (he : flS e = true) : eqV (flV d) (flV e) = true ↔ d = e := by
  cases d <;> cases e <;> simp_all [flS, flV, eqV]
theorem o_notInS {d : PyData} {ds : List PyData} (hd : flS d = true) (hs : ∀ e ∈ ds, flS e = true) (q : ∀ b : Bool, (b = true ↔ d ∉ ds) → Q (bV b) O) : OpW K (rIn K true) (.dat d) (.dat (.list ds)) O Q := fun Hk H h u v hu hv Q' k => by
  obtain ⟨rfl, hf⟩ := flS_v (show Da Hk u d from hu) hd
  cases (show Da Hk v (.list ds) from hv) with
  | @lst a xs _ g1 g2 =>
    have hx : xs = ds.map flV := by
      refine List.ext_getElem? fun i => ?_
      rw [List.getElem?_map]
      cases hi : xs[i]? with
      | none =>
        have := List.getElem?_eq_none_iff.mp hi
        rw [List.getElem?_eq_none (by rw [← g2.length]; exact this)]
        rfl
      | some z =>
        obtain ⟨e, h1, h2⟩ := g2.getV hi
        rw [h1, (flS_v h2 (hs e (List.mem_of_getElem? h1))).1]
        rfl
    refine ⟨a, xs, rfl, .inl (.inl (.inl (h.kn _ _ g1))), hf, List.all_eq_true.mpr fun z hz => ?_, k.now h (r := bV _) (.bl _) (q _ ?_)⟩
    · rw [hx] at hz
      obtain ⟨e, he, rfl⟩ := List.mem_map.mp hz
      have := hs e he
      cases e <;> first | rfl | cases this
    · rw [hx]
      show (!(ds.map flV).any fun y => eqV y (flV d)) = true ↔ _
      rw [Bool.not_eq_true']
      constructor
      · intro g hm
        exact List.any_eq_false.mp g (flV d) (List.mem_map.mpr ⟨d, hm, rfl⟩) ((flV_eq hd hd).mpr rfl)
      · intro g
        refine List.any_eq_false.mpr fun z hz => ?_
        obtain ⟨e, he, rfl⟩ := List.mem_map.mp hz
        intro hz2
        exact g ((flV_eq (hs e he) hd).mp hz2 ▸ he)
end
end Wk
namespace Wk
open PySem PySem.Spec PyProof.Rows L2
section
variable {K : PySem.W.Frag} {O : Own} {Q : SD → Own → Prop} {ds : List SD} {W : WX} {Qs : Addr → Option (Str × PyData) → Own → List SD → Prop} {ta tb : TE} {r : R2}
theorem x_op (h : EvX K W Qs ta O ds fun r1 O1 => EvW K tb O1 ds fun r2 O2 => OpW K r r1 r2 O2 Q) : EvX K W Qs (tOp r ta tb) O ds Q := fun Hk σ H p kw Q' k =>
  h Hk σ H p kw _ fun v r1 O1 Hk1 H1 e1 h1 s1 q1 => q1 Hk1 σ H1 (p.ext e1 h1) _ fun u r2 O2 Hk2 H2 e2 h2 s2 q2 => q2 Hk2 H2 h2 v u (s1.mono e2) s2 Q' (k.ext (e1.trans e2))
theorem kIn {X : Cx} (K : PySem.W.Frag) (h : X.K = K := by rfl) : OpR X (compareOp .In) (rIn K false) := h ▸ op_in_seq
theorem ints_of {H : Hp} {xs : List V} {ns : List Int} (h : DaAll H xs (ns.map PyData.int)) : xs = ns.map V.int := h.ints
theorem eqV_int {a b : Int} : eqV (.int a) (.int b) = true ↔ a = b := by simp [eqV]
theorem o_inI {x : Int} {ns : List Int} (q : ∀ b : Bool, (b = true ↔ x ∈ ns) → Q (bV b) O) : OpW K (rIn K false) (iV x) (.dat (lI ns)) O Q := fun Hk H h u v hu hv Q' k => by
  cases (show Da Hk u (.int x) from hu)
  cases (show Da Hk v (lI ns) from hv) with
  | @lst a xs _ g1 g2 =>
    have hx := ints_of g2
    subst hx
    refine ⟨a, _, rfl, .inl (.inl (.inl (h.kn _ _ g1))), rfl, List.all_eq_true.mpr fun z hz => ?_, k.now h (r := bV _) (.bl _) (q _ ?_)⟩
    · obtain ⟨e, _, rfl⟩ := List.mem_map.mp hz
      rfl
    · show ((ns.map V.int).any fun y => eqV y (.int x)) = true ↔ _
      rw [List.any_eq_true]
      constructor
      · rintro ⟨y, hy, e⟩
        obtain ⟨z, hz, rfl⟩ := List.mem_map.mp hy
        exact eqV_int.mp e ▸ hz
      · exact fun hm => ⟨.int x, List.mem_map.mpr ⟨x, hm, rfl⟩, eqV_int.mpr rfl⟩
theorem m_idxI {ns : List Int} {x : Int} (hx : x ∈ ns) (q : Q (iV (ns.idxOf x : Nat)) O) : MbW K (rIndex K) (.dat (lI ns)) [iV x] O Q := fun Hk H h u us hu hus Q' k => by
  obtain ⟨v, rfl, hv⟩ := all1 hus
  cases (show Da Hk v (.int x) from hv)
  cases (show Da Hk u (lI ns) from hu) with
  | @lst a xs _ g1 g2 =>
    have hxs := ints_of g2
    subst hxs
    have hl : ns.idxOf x < ns.length := List.idxOf_lt_length_iff.mpr hx
    have hat : ns[ns.idxOf x]? = some x := by
      rw [List.getElem?_eq_getElem hl, List.getElem_idxOf]
    refine ⟨a, _, .int x, ns.idxOf x, .int x, rfl, rfl, .inl (.inl (h.kn _ _ g1)), rfl, List.all_eq_true.mpr fun z hz => ?_, by rw [List.getElem?_map, hat]; rfl, eqV_int.mpr rfl, fun m z hm hz => ?_, k _ (iV _) O Hk H (Same.refl _) h (.int _) q⟩
    · obtain ⟨e, _, rfl⟩ := List.mem_map.mp hz
      rfl
    · rw [List.getElem?_map] at hz
      cases hn : ns[m]? with
      | none => rw [hn] at hz; cases hz
      | some y =>
        rw [hn] at hz
        cases hz
        refine Bool.eq_false_iff.mpr fun e => ?_
        have hy : y = x := eqV_int.mp e
        subst hy
        obtain ⟨hml, he⟩ := List.getElem?_eq_some_iff.mp hn
        have := List.not_of_lt_findIdx (p := (· == y)) (xs := ns) (i := m) hm
        rw [he] at this
        simp at this
end
end Wk
namespace Wk
open PySem PySem.Spec PyProof.Rows L2
theorem an {a b : Addr} (h : ¬ @Eq Nat a b) : a ≠ b := h
/-- a walk over several tuples at once: its iterators lie at B, B + 1, .., its two tuples and itself behind them -/
structure ZH (h : Heap) (B n : Nat) (ts : List (Addr × Array Value)) (f0 f1 : Value) (kept : Array Value) (c : Nat → Nat) : Prop where
  z : h.get? (B + n + 2) = some { cls := .type "zip", data := .fields #[f0, f1, .bool false, .ref (B + n), .ref (B + n + 1)] }
  ti : h.get? (B + n) = some { cls := .type "tuple", data := .seq ((List.range n).map fun k => Value.ref (B + k)).toArray }
  to : h.get? (B + n + 1) = some { cls := .type "tuple", data := .seq kept }
  it : ∀ (k : Nat) (p : Addr × Array Value), ts[k]? = some p → h.IsTupleIter (B + k) p.1 (c k) ∧ h.IsTuple p.1 p.2 ∧ @LT.lt Nat _ p.1 B
/-- what lies outside is kept -/
def ZFr (B n : Nat) (h h' : Heap) : Prop := ∀ b o, (@LT.lt Nat _ b B ∨ @LE.le Nat _ (B + n + 3) b) → h.get? b = some o → h'.get? b = some o
theorem ZFr.refl (B n : Nat) (h : Heap) : ZFr B n h h := fun _ _ _ e => e
theorem ZFr.trans {B n : Nat} {h h' h'' : Heap} (a : ZFr B n h h') (b : ZFr B n h' h'') : ZFr B n h h'' := fun c o hc e => b c o hc (a c o hc e)
theorem ZFr.but {B n : Nat} {h h' : Heap} {a : Addr} (x : Heap.SameBut a h h') (h1 : @LE.le Nat _ B a) (h2 : @LT.lt Nat _ a (B + n + 3)) : ZFr B n h h' := fun b o hb e => (x.2 b (an (by omega))).trans e
section
variable {prog : Program} {w : World} {A : Around} {E : Value → Shared → Prop} {s : Shared} {B n i : Nat} {ts : List (Addr × Array Value)} {f0 f1 : Value} {kept : Array Value} {c : Nat → Nat}
theorem tit_but {h h' : Heap} {a t x : Addr} {j : Nat} (hs : Heap.SameBut x h h') (hx : a ≠ x) (H : h.IsTupleIter a t j) : h'.IsTupleIter a t j :=
  let ⟨o, ho, r⟩ := H; ⟨o, (hs.2 a hx).trans ho, r⟩
theorem tup_but {h h' : Heap} {a x : Addr} {its : Array Value} (hs : Heap.SameBut x h h') (hx : a ≠ x) (H : h.IsTuple a its) : h'.IsTuple a its :=
  let ⟨o, ho, r⟩ := H; ⟨o, (hs.2 a hx).trans ho, r⟩
/-- one iterator turns -/
theorem ZH.turn {h h' : Heap} {j : Nat} {p : Addr × Array Value} (H : ZH h B n ts f0 f1 kept c) (hl : ts.length = n) (hj : ts[j]? = some p) (hs : Heap.SameBut (B + j) h h') (hn : h'.IsTupleIter (B + j) p.1 (c j + 1)) {c' : Nat → Nat} (e1 : c' j = c j + 1) (e2 : ∀ k, k ≠ j → c' k = c k) : ZH h' B n ts f0 f1 kept c' := by
  have hjn : j < n := by rw [← hl]; exact (List.getElem?_eq_some_iff.mp hj).1
  refine ⟨(hs.2 _ (an (by omega))).trans H.z, (hs.2 _ (an (by omega))).trans H.ti, (hs.2 _ (an (by omega))).trans H.to, fun k q hq => ?_⟩
  obtain ⟨a1, a2, a3⟩ := H.it k q hq
  by_cases e : k = j
  · subst e
    rw [hj] at hq
    cases hq
    rw [e1]
    exact ⟨hn, tup_but hs (an (by omega)) a2, a3⟩
  · rw [e2 k e]
    exact ⟨tit_but hs (an (by omega)) a1, tup_but hs (an (by omega)) a2, a3⟩
/-- the walk's own record is written -/
theorem ZH.wrote {h h' : Heap} (H : ZH h B n ts f0 f1 kept c) (hl : ts.length = n) (hs : Heap.SameBut (B + n + 2) h h') {g0 g1 : Value} (hz : h'.get? (B + n + 2) = some { cls := .type "zip", data := .fields #[g0, g1, .bool false, .ref (B + n), .ref (B + n + 1)] }) : ZH h' B n ts g0 g1 kept c :=
  ⟨hz, (hs.2 _ (an (by omega))).trans H.ti, (hs.2 _ (an (by omega))).trans H.to, fun k q hq => by
    have hk : k < n := by rw [← hl]; exact (List.getElem?_eq_some_iff.mp hq).1
    obtain ⟨a1, a2, a3⟩ := H.it k q hq
    exact ⟨tit_but hs (an (by omega)) a1, tup_but hs (an (by omega)) a2, a3⟩⟩
/-- its kept tuple is written -/
theorem ZH.keep {h h' : Heap} (H : ZH h B n ts f0 f1 kept c) (hl : ts.length = n) (hs : Heap.SameBut (B + n + 1) h h') {kept' : Array Value} (ht : h'.get? (B + n + 1) = some { cls := .type "tuple", data := .seq kept' }) : ZH h' B n ts f0 f1 kept' c :=
  ⟨(hs.2 _ (an (by omega))).trans H.z, (hs.2 _ (an (by omega))).trans H.ti, ht, fun k q hq => by
    have hk : k < n := by rw [← hl]; exact (List.getElem?_eq_some_iff.mp hq).1
    obtain ⟨a1, a2, a3⟩ := H.it k q hq
    exact ⟨tit_but hs (an (by omega)) a1, tup_but hs (an (by omega)) a2, a3⟩⟩
/-- a new object is put behind all -/
theorem ZH.push {h : Heap} {o : Obj} (H : ZH h B n ts f0 f1 kept c) : ZH (h.push o) B n ts f0 f1 kept c :=
  ⟨Heap.get?_push_of_some _ H.z, Heap.get?_push_of_some _ H.ti, Heap.get?_push_of_some _ H.to, fun k q hq => by
    obtain ⟨⟨o1, b1, b2⟩, ⟨o2, d1, d2⟩, a3⟩ := H.it k q hq
    exact ⟨⟨o1, Heap.get?_push_of_some _ b1, b2⟩, ⟨o2, Heap.get?_push_of_some _ d1, d2⟩, a3⟩⟩
theorem ZH.cong {h : Heap} (H : ZH h B n ts f0 f1 kept c) (hl : ts.length = n) {c' : Nat → Nat} (e : ∀ k, k < n → c' k = c k) : ZH h B n ts f0 f1 kept c' :=
  ⟨H.z, H.ti, H.to, fun k q hq => by rw [e k (by rw [← hl]; exact (List.getElem?_eq_some_iff.mp hq).1)]; exact H.it k q hq⟩
/-- the column with number i -/
abbrev zcol (ts : List (Addr × Array Value)) (i : Nat) : List Value := ts.map fun p => p.2.getD i .none
abbrev zits (B n : Nat) : List Value := (List.range n).map fun k => Value.ref (B + k)
theorem zits_drop {B n j : Nat} {x : Value} {rest : List Value} (h : x :: rest = (zits B n).drop j) : j < n ∧ x = .ref (B + j) ∧ rest = (zits B n).drop (j + 1) := by
  have hj : j < n := by
    rcases Nat.lt_or_ge j n with z | z
    · exact z
    · rw [List.drop_eq_nil_of_le (by rw [List.length_map, List.length_range]; exact z)] at h
      cases h
  have hl : j < (zits B n).length := by rw [List.length_map, List.length_range]; exact hj
  rw [List.drop_eq_getElem_cons hl] at h
  injection h with h1 h2
  refine ⟨hj, ?_, h2⟩
  rw [h1, List.getElem_map, List.getElem_range]
theorem zidx_drop {B n j : Nat} {x : Value × Nat} {rest : List (Value × Nat)} (h : x :: rest = (zits B n).zipIdx.drop j) : j < n ∧ x = (.ref (B + j), j) ∧ rest = (zits B n).zipIdx.drop (j + 1) := by
  have hlen : (zits B n).zipIdx.length = n := by rw [List.length_zipIdx, List.length_map, List.length_range]
  have hj : j < n := by
    rcases Nat.lt_or_ge j n with z | z
    · exact z
    · rw [List.drop_eq_nil_of_le (by omega)] at h
      cases h
  have hl : j < (zits B n).zipIdx.length := by omega
  rw [List.drop_eq_getElem_cons hl] at h
  injection h with h1 h2
  refine ⟨hj, ?_, h2⟩
  rw [h1, List.getElem_zipIdx, List.getElem_map, List.getElem_range]
  simp
theorem its_array {B n : Nat} : ((zits B n).toArray).toList = zits B n := by simp
theorem wp_alive {M : Model} {A : Around} {E : Value → Shared → Prop} {s : Shared} {a : Addr} {Q : Option Obj → Shared → Prop} (h : Q (s.heap.get? a) s) : wpAny M A (loadIfAlive a) Q E s := fun Γ p hΓ => by
  unfold loadIfAlive
  rw [Sem.wp_loadIfAlive]
  exact h
theorem wp_arr {M : Model} {A : Around} {E : Value → Shared → Prop} {s : Shared} {α β : Type} (f : α → β → Sem (ForInStep β)) (J : List α → β → Shared → Prop) (Q : β → Shared → Prop)
    (one : ∀ x rest b s, J (x :: rest) b s → wpAny M A (f x b) (fun r s' => match r with | .yield b' => J rest b' s' | .done b' => Q b' s') E s)
    (last : ∀ b s, J [] b s → Q b s) (xs : Array α) (b : β) (h : J xs.toList b s) : wpAny M A (forIn xs b f) Q E s := by
  rw [(Array.forIn_toList (xs := xs) (b := b) (f := f)).symm]
  exact wpAny_forIn_list f J Q one last xs.toList b h
theorem zcol_at {ts : List (Addr × Array Value)} {i j : Nat} {p : Addr × Array Value} (h : ts[j]? = some p) : (zcol ts i)[j]? = some (p.2.getD i .none) := by rw [List.getElem?_map, h]; rfl
theorem zcol_take {ts : List (Addr × Array Value)} {i j : Nat} {p : Addr × Array Value} (h : ts[j]? = some p) : ((zcol ts i).take (j + 1)).toArray = ((zcol ts i).take j).toArray.push (p.2.getD i .none) := by
  rw [List.take_add_one, zcol_at h, ← List.toArray_appendList]
  rfl
theorem arr_at {its : Array Value} {i : Nat} (h : i < its.size) : its[i]? = some (its.getD i .none) := by
  simp [Array.getD, h]
/-- the tuple handed out last is still there: it is not free -/
theorem zip_busy {Q : Bool → Shared → Prop} (H : ZH s.heap B n ts f0 f1 kept fun _ => i) (hl : ts.length = n) {T : Nat} (hf : f0 = rawInt T) (hT : ∃ o, s.heap.get? T = some o)
    (hq : ∀ h' f1', ZH h' B n ts f0 f1' kept (fun _ => i) → h'.objs.size = s.heap.objs.size → ZFr B n s.heap h' → Q false { s with heap := h' }) : wpAny (model prog w) A (Builtin.SmallTypes.ownedTupleIsFree (.ref (B + n + 2))) Q E s := by
  obtain ⟨oT, hoT⟩ := hT
  unfold Builtin.SmallTypes.ownedTupleIsFree
  refine wpAny_bind (wpAny_field H.z rfl (x := f0) rfl ?_)
  subst hf
  show wpAny _ _ (loadIfAlive T >>= _) _ _ _
  refine wpAny_bind (wp_alive ?_)
  rw [hoT]
  show wpAny _ _ (field (.ref (B + n + 2)) 1 >>= _) _ _ _
  refine wpAny_bind (wpAny_field H.z rfl (x := f1) rfl ?_)
  show wpAny _ _ (if (f1 != Value.bool true) = true then _ else _) _ _ _
  by_cases hf1 : (f1 != Value.bool true) = true
  · rw [if_pos hf1]
    exact wpAny_bind (wpAny_setField_rec H.z (by simp) fun h2 hz2 hs2 => wpAny_pure (hq h2 (.bool true) (H.wrote hl hs2 hz2) hs2.1 (ZFr.but hs2 (by omega) (by omega))))
  · rw [if_neg hf1]
    exact wpAny_pure (hq s.heap f1 H rfl (ZFr.refl _ _ _))
/-- the later turns: a new list of the items -/
theorem zip_later {Q : Value → Shared → Prop} (H : ZH s.heap B n ts f0 f1 kept fun _ => i) (hl : ts.length = n) (h1 : 1 ≤ n) (hn : n ≤ 1000) {T : Nat} (hf : f0 = rawInt T) (hT : ∃ o, s.heap.get? T = some o) (hlt : ∀ p ∈ ts, i < p.2.size)
    (hQ : ∀ h' f1', ZH h' B n ts f0 f1' kept (fun _ => i + 1) → h'.get? s.heap.objs.size = some { cls := .type "tuple", data := .seq (zcol ts i).toArray } → h'.objs.size = s.heap.objs.size + 1 → ZFr B n s.heap h' → Q (.ref s.heap.objs.size) { s with heap := h' }) :
    wpAny (model prog w) A (Builtin.«zip.__next__» ⟨[.ref (B + n + 2)], []⟩) (fun fin s' => ∃ v, fin = .done (.ret v) ∧ Q v s') E s := by
  obtain ⟨hp, g, d, tk0, os⟩ := s
  obtain ⟨oT, hoT⟩ := hT
  show wpAny _ _ (field (.ref (B + n + 2)) 2 >>= _) _ _ _
  refine wpAny_bind (wpAny_field H.z rfl (x := Value.bool false) rfl ?_)
  show wpAny _ _ (field (.ref (B + n + 2)) 3 >>= _) _ _ _
  refine wpAny_bind (wpAny_field H.z rfl (x := Value.ref (B + n)) rfl ?_)
  refine wpAny_bind (wpAny_seqItems H.ti rfl ?_)
  have hne : (zits B n).toArray.isEmpty = false := by
    obtain ⟨m, rfl⟩ : ∃ m, n = m + 1 := ⟨n - 1, by omega⟩
    simp
  show wpAny _ _ (if (zits B n).toArray.isEmpty = true then _ else _) _ _ _
  rw [hne, if_neg (by decide)]
  show wpAny _ _ (Builtin.SmallTypes.ownedTupleIsFree (.ref (B + n + 2)) >>= _) _ _ _
  refine wpAny_bind (zip_busy H hl hf ⟨oT, hoT⟩ fun h' f1' H' sz' fr' => ?_)
  show wpAny _ _ (forIn (zits B n).toArray (none, #[]) _ >>= _) _ _ _
  refine wpAny_bind (wp_arr _ (fun rest b s' => ∃ (j : Nat) (h2 : Heap), j ≤ n ∧ rest = (zits B n).drop j ∧ b = (none, ((zcol ts i).take j).toArray) ∧ s' = ⟨h2, g, d, tk0, os⟩ ∧ ZH h2 B n ts f0 f1' kept (fun k => if k < j then i + 1 else i) ∧ h2.objs.size = hp.objs.size ∧ ZFr B n hp h2) _ ?_ ?_ _ _ ⟨0, h', Nat.zero_le _, by rw [its_array]; rfl, rfl, rfl, H', sz', fr'⟩)
  · rintro x rest b s' ⟨j, h2, hjn, hrest, rfl, rfl, H2, sz2, fr2⟩
    obtain ⟨hj, rfl, hrest2⟩ := zits_drop hrest
    obtain ⟨p, hp1⟩ : ∃ p, ts[j]? = some p := ⟨ts[j], List.getElem?_eq_getElem (by omega)⟩
    obtain ⟨a1, a2, a3⟩ := H2.it j p hp1
    rw [if_neg (Nat.lt_irrefl j)] at a1
    refine wpAny_bind (wpAny_holding ?_)
    show wpAny _ _ (Builtin.SmallTypes.nextOf (.ref (B + j)) >>= _) _ _ _
    refine wpAny_bind (wpAny_nextOf_tuple_item a1 a2 (arr_at (hlt p (List.mem_of_getElem? hp1))) fun h3 hit hs => wpAny_pure ?_)
    refine wpAny_pure ⟨j + 1, h3, hj, hrest2, by rw [zcol_take hp1], rfl, H2.turn hl hp1 hs (by rw [if_neg (Nat.lt_irrefl j)]; exact hit) (by rw [if_pos (Nat.lt_succ_self j), if_neg (Nat.lt_irrefl j)]) (fun k hk => ?_), hs.1.trans sz2, fr2.trans (ZFr.but hs (by omega) (by omega))⟩
    by_cases hkj : k < j
    · rw [if_pos (by omega), if_pos hkj]
    · rw [if_neg (by omega), if_neg hkj]
  · rintro b s' ⟨j, h2, hjn, hrest, rfl, rfl, H2, sz2, fr2⟩
    have hj : j = n := by
      rcases Nat.lt_or_ge j n with z | z
      · have := congrArg List.length hrest
        rw [List.length_drop, List.length_map, List.length_range] at this
        simp at this
        omega
      · omega
    subst hj
    have e1 : (zcol ts i).take j = zcol ts i := List.take_of_length_le (by rw [List.length_map]; omega)
    rw [e1]
    show wpAny _ _ (newTuple (zcol ts i).toArray.toList >>= _) _ _ _
    refine wpAny_bind (wpAny_newTuple ?_ (by simp only [List.length_map]; rw [hl]; exact Nat.le_trans hn (by decide)))
    refine wpAny_pure ⟨_, rfl, ?_⟩
    show Q (.ref h2.objs.size) ⟨h2.push { cls := .type "tuple", data := .seq (zcol ts i).toArray.toList.toArray }, g, d, tk0, os⟩
    have e9 : (zcol ts i).toArray.toList.toArray = (zcol ts i).toArray := by simp
    rw [e9, sz2]
    refine hQ _ f1' (H2.push.cong hl fun k hk => (if_pos hk).symm) ?_ ?_ (fr2.trans fun b o _ e => Heap.get?_push_of_some _ e)
    · have : (h2.push { cls := .type "tuple", data := .seq (zcol ts i).toArray }).get? h2.objs.size = some { cls := .type "tuple", data := .seq (zcol ts i).toArray } := Heap.get?_push_size _ rfl
      rw [sz2] at this
      exact this
    · rw [Heap.size_push, sz2]
/-- the first turn: its own tuple is filled, a copy handed out -/
theorem zip_first {Q : Value → Shared → Prop} (H : ZH s.heap B n ts .none (.bool false) kept fun _ => i) (hk : kept.size = n) (hl : ts.length = n) (h1 : 1 ≤ n) (hn : n ≤ 1000) (hlt : ∀ p ∈ ts, i < p.2.size)
    (hQ : ∀ h' kept', ZH h' B n ts (rawInt s.heap.objs.size) (.bool false) kept' (fun _ => i + 1) → h'.get? s.heap.objs.size = some { cls := .type "tuple", data := .seq (zcol ts i).toArray } → h'.objs.size = s.heap.objs.size + 1 → ZFr B n s.heap h' → Q (.ref s.heap.objs.size) { s with heap := h' }) :
    wpAny (model prog w) A (Builtin.«zip.__next__» ⟨[.ref (B + n + 2)], []⟩) (fun fin s' => ∃ v, fin = .done (.ret v) ∧ Q v s') E s := by
  obtain ⟨hp, g, d, tk0, os⟩ := s
  show wpAny _ _ (field (.ref (B + n + 2)) 2 >>= _) _ _ _
  refine wpAny_bind (wpAny_field H.z rfl (x := Value.bool false) rfl ?_)
  show wpAny _ _ (field (.ref (B + n + 2)) 3 >>= _) _ _ _
  refine wpAny_bind (wpAny_field H.z rfl (x := Value.ref (B + n)) rfl ?_)
  refine wpAny_bind (wpAny_seqItems H.ti rfl ?_)
  have hne : (zits B n).toArray.isEmpty = false := by
    obtain ⟨m, rfl⟩ : ∃ m, n = m + 1 := ⟨n - 1, by omega⟩
    simp
  show wpAny _ _ (if (zits B n).toArray.isEmpty = true then _ else _) _ _ _
  rw [hne, if_neg (by decide)]
  show wpAny _ _ (Builtin.SmallTypes.ownedTupleIsFree (.ref (B + n + 2)) >>= _) _ _ _
  refine wpAny_bind ?_
  unfold Builtin.SmallTypes.ownedTupleIsFree
  refine wpAny_bind (wpAny_field H.z rfl (x := Value.none) rfl (wpAny_pure ?_))
  show wpAny _ _ (rule "zip.__next__.owned-tuple-again" >>= _) _ _ _
  refine wpAny_bind (wpAny_rule ?_)
  show wpAny _ _ (field (.ref (B + n + 2)) 4 >>= _) _ _ _
  refine wpAny_bind (wpAny_field H.z rfl (x := Value.ref (B + n + 1)) rfl ?_)
  refine wpAny_bind (wpAny_setField_rec H.z (by simp) fun h0 hz0 hs0 => ?_)
  have H0 : ZH h0 B n ts .ellipsis (.bool false) kept fun _ => i := H.wrote hl hs0 hz0
  have sz0 : h0.objs.size = hp.objs.size := hs0.1
  have fr0 : ZFr B n hp h0 := ZFr.but hs0 (by omega) (by omega)
  show wpAny _ _ (forIn (zits B n).toArray.toList.zipIdx (none, ()) _ >>= _) _ _ ⟨h0, g, d, tk0, os⟩
  rw [its_array]
  refine wpAny_bind (wpAny_forIn_list _ (fun rest b s' => ∃ (j : Nat) (h2 : Heap) (kp : Array Value), j ≤ n ∧ rest = (zits B n).zipIdx.drop j ∧ b = (none, ()) ∧ s' = ⟨h2, g, d, tk0, os⟩ ∧ ZH h2 B n ts .ellipsis (.bool false) kp (fun k => if k < j then i + 1 else i) ∧ kp.size = n ∧ (∀ k, k < j → kp[k]? = (zcol ts i)[k]?) ∧ h2.objs.size = hp.objs.size ∧ ZFr B n hp h2) _ ?_ ?_ _ _ ⟨0, h0, kept, Nat.zero_le _, rfl, rfl, rfl, H0, hk, fun k hk => absurd hk (Nat.not_lt_zero k), sz0, fr0⟩)
  · rintro x rest b s' ⟨j, h2, kp, hjn, hrest, rfl, rfl, H2, kz, kc, sz2, fr2⟩
    obtain ⟨hj, rfl, hrest2⟩ := zidx_drop hrest
    obtain ⟨p, hp1⟩ : ∃ p, ts[j]? = some p := ⟨ts[j], List.getElem?_eq_getElem (by omega)⟩
    obtain ⟨a1, a2, a3⟩ := H2.it j p hp1
    rw [if_neg (Nat.lt_irrefl j)] at a1
    refine wpAny_bind (wpAny_onRaise ?_)
    show wpAny _ _ (Builtin.SmallTypes.nextOf (.ref (B + j)) >>= _) _ _ _
    refine wpAny_bind (wpAny_nextOf_tuple_item a1 a2 (arr_at (hlt p (List.mem_of_getElem? hp1))) fun h3 hit hs => wpAny_pure ?_)
    have H3 : ZH h3 B n ts .ellipsis (.bool false) kp (fun k => if k < j + 1 then i + 1 else i) := H2.turn hl hp1 hs (by rw [if_neg (Nat.lt_irrefl j)]; exact hit) (by rw [if_pos (Nat.lt_succ_self j), if_neg (Nat.lt_irrefl j)]) fun k hk => by
      by_cases hkj : k < j
      · rw [if_pos (by omega), if_pos hkj]
      · rw [if_neg (by omega), if_neg hkj]
    have sz3 : h3.objs.size = hp.objs.size := hs.1.trans sz2
    have fr3 : ZFr B n hp h3 := fr2.trans (ZFr.but hs (by omega) (by omega))
    show wpAny _ _ (seqItems? (.ref (B + n + 1)) >>= _) _ _ ⟨h3, g, d, tk0, os⟩
    refine wpAny_bind (wpAny_seqItems (s := ⟨h3, g, d, tk0, os⟩) H3.to rfl ?_)
    refine wpAny_bind (wpAny_updateSeq (s := ⟨h3, g, d, tk0, os⟩) H3.to rfl ?_ (by rw [kz]; exact Nat.le_trans hn (by decide)) (by rw [Array.size_setIfInBounds, kz]; exact Nat.le_trans hn (by decide)))
    refine wpAny_bind (wpAny_letGo (wpAny_pure ?_))
    have hs4 : Heap.SameBut (B + n + 1) h3 (h3.update (B + n + 1) (Obj.mapSeq (·.setIfInBounds j (p.2.getD i .none)))) := Heap.SameBut.update ..
    have hg4 : (h3.update (B + n + 1) (Obj.mapSeq (·.setIfInBounds j (p.2.getD i .none)))).get? (B + n + 1) = some { cls := .type "tuple", data := .seq (kp.setIfInBounds j (p.2.getD i .none)) } := by
      rw [Heap.get?_update_self _ H3.to rfl]
      simp [Obj.mapSeq]
    refine ⟨j + 1, _, kp.setIfInBounds j (p.2.getD i .none), hj, hrest2, rfl, rfl, H3.keep hl hs4 hg4, by rw [Array.size_setIfInBounds, kz], fun k hk => ?_, hs4.1.trans sz3, fr3.trans (ZFr.but hs4 (by omega) (by omega))⟩
    by_cases e : k = j
    · subst e
      rw [zcol_at hp1]
      simp [kz, hj]
    · rw [Array.getElem?_setIfInBounds_ne (Ne.symm e)]
      exact kc k (by omega)
  · rintro b s' ⟨j, h2, kp, hjn, hrest, rfl, rfl, H2, kz, kc, sz2, fr2⟩
    have hj : j = n := by
      rcases Nat.lt_or_ge j n with z | z
      · have := congrArg List.length hrest
        rw [List.length_drop, List.length_zipIdx, List.length_map, List.length_range] at this
        simp at this
        omega
      · omega
    subst hj
    have ek : kp = (zcol ts i).toArray := by
      refine Array.ext_getElem? fun k => ?_
      by_cases hk2 : k < j
      · rw [kc k hk2, List.getElem?_toArray]
      · rw [Array.getElem?_eq_none (by omega), List.getElem?_toArray, List.getElem?_eq_none (by rw [List.length_map]; omega)]
    subst ek
    show wpAny _ _ (seqItems? (.ref (B + j + 1)) >>= _) _ _ ⟨h2, g, d, tk0, os⟩
    refine wpAny_bind (wpAny_seqItems (s := ⟨h2, g, d, tk0, os⟩) H2.to rfl ?_)
    show wpAny _ _ (newTuple (zcol ts i).toArray.toList >>= _) _ _ _
    refine wpAny_bind (wpAny_newTuple ?_ (by simp only [List.length_map]; rw [hl]; exact Nat.le_trans hn (by decide)))
    have e9 : (zcol ts i).toArray.toList.toArray = (zcol ts i).toArray := by simp
    rw [e9]
    have Hp : ZH (h2.push { cls := .type "tuple", data := .seq (zcol ts i).toArray }) B j ts .ellipsis (.bool false) (zcol ts i).toArray (fun _ => i + 1) := H2.push.cong hl fun k hk => (if_pos hk).symm
    have gp : (h2.push { cls := .type "tuple", data := .seq (zcol ts i).toArray }).get? h2.objs.size = some { cls := .type "tuple", data := .seq (zcol ts i).toArray } := Heap.get?_push_size _ rfl
    rw [sz2] at gp
    have szp : (h2.push { cls := .type "tuple", data := .seq (zcol ts i).toArray }).objs.size = hp.objs.size + 1 := by rw [Heap.size_push, sz2]
    have frp : ZFr B j hp (h2.push { cls := .type "tuple", data := .seq (zcol ts i).toArray }) := fr2.trans fun b o _ e => Heap.get?_push_of_some _ e
    have bz : @LT.lt Nat _ (B + j + 2) hp.objs.size := by
      have := Heap.lt_size H2.z
      rw [sz2] at this
      exact this
    have nz : ¬ @Eq Nat hp.objs.size (B + j + 2) := Nat.ne_of_gt bz
    show wpAny _ _ (Builtin.SmallTypes.ownedTupleHandOut (.ref (B + j + 2)) (.ref h2.objs.size) >>= _) _ _ ⟨h2.push { cls := .type "tuple", data := .seq (zcol ts i).toArray }, g, d, tk0, os⟩
    rw [sz2]
    refine wpAny_bind ?_
    unfold Builtin.SmallTypes.ownedTupleHandOut
    refine wpAny_bind (wpAny_setField_rec Hp.z (by simp) fun h7 hz7 hs7 => ?_)
    have H7 : ZH h7 B j ts (rawInt hp.objs.size) (.bool false) (zcol ts i).toArray (fun _ => i + 1) := Hp.wrote hl hs7 hz7
    refine wpAny_setField_rec H7.z (by simp) fun h8 hz8 hs8 => ?_
    have H8 : ZH h8 B j ts (rawInt hp.objs.size) (.bool false) (zcol ts i).toArray (fun _ => i + 1) := H7.wrote hl hs8 hz8
    refine wpAny_pure ⟨_, rfl, hQ h8 _ H8 ((hs8.2 _ (an nz)).trans ((hs7.2 _ (an nz)).trans gp)) (hs8.1.trans (hs7.1.trans szp)) (frp.trans ((ZFr.but hs7 (by omega) (by omega)).trans (ZFr.but hs8 (by omega) (by omega))))⟩
/-- behind the last column -/
theorem zip_over {Q : Fin → Shared → Prop} (hh : A.handled = none) (H : ZH s.heap B n ts f0 f1 kept fun _ => i) (hl : ts.length = n) (h1 : 1 ≤ n) {T : Nat} (hf : f0 = rawInt T) (hT : ∃ o, s.heap.get? T = some o) (hend : ∀ p ∈ ts, i = p.2.size)
    (hE : ∀ h' e, (∀ b o, (@LT.lt Nat _ b B ∨ @LE.le Nat _ (B + n + 3) b) → s.heap.get? b = some o → h'.get? b = some o) → (∃ o, h'.get? e = some o ∧ o.cls = .type "StopIteration") → E (.ref e) { s with heap := h' }) :
    wpAny (model prog w) A (Builtin.«zip.__next__» ⟨[.ref (B + n + 2)], []⟩) Q E s := by
  obtain ⟨hp, g, d, tk0, os⟩ := s
  obtain ⟨oT, hoT⟩ := hT
  show wpAny _ _ (field (.ref (B + n + 2)) 2 >>= _) _ _ _
  refine wpAny_bind (wpAny_field H.z rfl (x := Value.bool false) rfl ?_)
  show wpAny _ _ (field (.ref (B + n + 2)) 3 >>= _) _ _ _
  refine wpAny_bind (wpAny_field H.z rfl (x := Value.ref (B + n)) rfl ?_)
  refine wpAny_bind (wpAny_seqItems H.ti rfl ?_)
  have hne : (zits B n).toArray.isEmpty = false := by
    obtain ⟨m, rfl⟩ : ∃ m, n = m + 1 := ⟨n - 1, by omega⟩
    simp
  show wpAny _ _ (if (zits B n).toArray.isEmpty = true then _ else _) _ _ _
  rw [hne, if_neg (by decide)]
  show wpAny _ _ (Builtin.SmallTypes.ownedTupleIsFree (.ref (B + n + 2)) >>= _) _ _ _
  refine wpAny_bind (zip_busy H hl hf ⟨oT, hoT⟩ fun h' f1' H' sz' fr' => ?_)
  show wpAny _ _ (forIn (zits B n).toArray (none, #[]) _ >>= _) _ _ _
  refine wpAny_bind (wp_arr _ (fun rest b s' => (rest = zits B n ∧ b = (none, #[]) ∧ s' = ⟨h', g, d, tk0, os⟩)) _ ?_ ?_ _ _ ⟨its_array, rfl, rfl⟩)
  · rintro x rest b s' ⟨hrest, rfl, rfl⟩
    obtain ⟨hj, rfl, hrest2⟩ := zits_drop (j := 0) hrest
    obtain ⟨p, hp1⟩ : ∃ p, ts[0]? = some p := ⟨ts[0], List.getElem?_eq_getElem (by omega)⟩
    obtain ⟨a1, a2, a3⟩ := H'.it 0 p hp1
    refine wpAny_bind (wpAny_holding ?_)
    show wpAny _ _ (Builtin.SmallTypes.nextOf (.ref (B + 0)) >>= _) _ _ _
    refine wpAny_bind (wpAny_nextOf_tuple_end hh a1 a2 (Array.getElem?_eq_none (Nat.le_of_eq (hend p (List.mem_of_getElem? hp1)).symm)) fun h3 e hx he => ?_)
    exact hE h3 e (fun b o hb q => hx b o (an (by omega)) (fr' b o hb q)) he
  · rintro b s' ⟨hrest, rfl, rfl⟩
    have := congrArg List.length hrest
    rw [List.length_map, List.length_range] at this
    simp at this
    omega
end
/-! ### all turns -/
theorem ZH.other {h h' : Heap} {B n : Nat} {ts : List (Addr × Array Value)} {f0 f1 : Value} {kept : Array Value} {c : Nat → Nat} (H : ZH h B n ts f0 f1 kept c) (hl : ts.length = n) {x : Addr} (hx : @LE.le Nat _ (B + n + 3) x) (hs : ∀ b o, b ≠ x → h.get? b = some o → h'.get? b = some o) : ZH h' B n ts f0 f1 kept c :=
  ⟨hs _ _ (an (by omega)) H.z, hs _ _ (an (by omega)) H.ti, hs _ _ (an (by omega)) H.to, fun k q hq => by
    have hk : k < n := by rw [← hl]; exact (List.getElem?_eq_some_iff.mp hq).1
    obtain ⟨⟨o1, b1, b2⟩, ⟨o2, d1, d2⟩, a3⟩ := H.it k q hq
    exact ⟨⟨o1, hs _ _ (an (by omega)) b1, b2⟩, ⟨o2, hs _ _ (an (by omega)) d1, d2⟩, a3⟩⟩
theorem zip_nolen : typeLookup (.type "zip") "__len__" = pure none := by
  rw [typeLookup_type, builtinLookup_eq_fast]
  kernel_rfl
theorem zip_nohint : typeLookup (.type "zip") "__length_hint__" = pure none := by
  rw [typeLookup_type, builtinLookup_eq_fast]
  kernel_rfl
/-- where the walk stands behind i turns: b0 is where the first column was laid, S the list that takes them -/
structure ZL (h0 h : Heap) (B n b0 S m : Nat) (ts : List (Addr × Array Value)) (i : Nat) : Prop where
  st : (i = 0 ∧ ∃ kept, kept.size = n ∧ ZH h B n ts .none (.bool false) kept fun _ => i) ∨ (∃ f1 kept, 1 ≤ i ∧ ZH h B n ts (rawInt ((b0 : Nat) : Int)) f1 kept fun _ => i)
  ls : ∃ c, h.get? S = some { cls := .type "list", dict := none, data := .seq ((List.range i).map fun j => Value.ref (b0 + j)).toArray c, slots := #[] }
  cs : ∀ j : Nat, j < i → h.get? (b0 + j) = some { cls := .type "tuple", data := .seq (zcol ts j).toArray }
  sz : h.objs.size = b0 + i
  old : ∀ b o, @LT.lt Nat _ b B → h0.get? b = some o → h.get? b = some o
section
variable {prog : Program} {w : World} {A : Around} {R : Result → Shared → Prop} {B n b0 S m : Nat} {ts : List (Addr × Array Value)} {h0 : Heap}
theorem zip_next {E : Value → Shared → Prop} {s : Shared} {Q : Option Value → Shared → Prop} {z : Addr} (hT : s.TypeIs (.ref z) "zip") (h : wpAny (model prog w) A.in1 (Builtin.«zip.__next__» ⟨[.ref z], []⟩) (fun fin s' => ∃ v, fin = .done (.ret v) ∧ Q (some v) s') (fun e s' => wpAny (model prog w) A (isInstance e (.type "StopIteration") >>= fun b => if b = true then pure none else throw e) Q E s') s) : wpAny (model prog w) A (pyNext (.ref z)) Q E s := by
  unfold pyNext
  have e1 := wpAny_call_entry (A := A) (E := fun e s' => wpAny (model prog w) A (isInstance e (.type "StopIteration") >>= fun b => if b = true then pure none else throw e) Q E s') (Q := fun v s' => Q (some v) s') PySem.F.slot_zip_next hT PySem.F.entry_zip_next h (PySem.F.args_zip_next_1 _)
  refine wpAny_bind (wpAny_attempt (wpAny_callSpecial?_slot (name := Str.ofString "__next__") hT PySem.F.slot_zip_next ?_))
  exact wpAny_mono e1 (fun v s' hq => wpAny_pure hq) fun e s' hq => hq
/-- one more column -/
theorem zip_turn {E : Value → Shared → Prop} {s : Shared} {Q : Option Value → Shared → Prop} {i : Nat} (hl : ts.length = n) (h1 : 1 ≤ n) (hn : n ≤ 1000) (hts : ∀ p ∈ ts, p.2.size = m) (hi : i < m) (H : ZL h0 s.heap B n b0 S m ts i)
    (hQ : ∀ h', ((i + 1 = 0 ∧ ∃ kept, kept.size = n ∧ ZH h' B n ts .none (.bool false) kept fun _ => i + 1) ∨ (∃ f1 kept, 1 ≤ i + 1 ∧ ZH h' B n ts (rawInt ((b0 : Nat) : Int)) f1 kept fun _ => i + 1)) →
      h'.get? (b0 + i) = some { cls := .type "tuple", data := .seq (zcol ts i).toArray } → h'.objs.size = b0 + i + 1 → ZFr B n s.heap h' → Q (some (.ref (b0 + i))) { s with heap := h' }) : wpAny (model prog w) A (pyNext (.ref (B + n + 2))) Q E s := by
  have hlt : ∀ p ∈ ts, i < p.2.size := fun p hp => by rw [hts p hp]; exact hi
  have hsz := H.sz
  rcases H.st with ⟨rfl, kept, hk, Z⟩ | ⟨f1, kept, hi1, Z⟩
  · refine zip_next ⟨_, Z.z, rfl⟩ (zip_first Z hk hl h1 hn hlt fun h' kp H' g' z' fr => ?_)
    rw [hsz] at H' g' z' ⊢
    exact hQ h' (.inr ⟨_, kp, by omega, H'⟩) g' z' fr
  · have hlast : ∃ o, s.heap.get? b0 = some o := ⟨_, H.cs 0 (by omega)⟩
    refine zip_next ⟨_, Z.z, rfl⟩ (zip_later Z hl h1 hn rfl hlast hlt fun h' f1' H' g' z' fr => ?_)
    rw [hsz] at g' z' ⊢
    exact hQ h' (.inr ⟨f1', kept, by omega, H'⟩) g' z' fr
theorem zip_loop (hh : A.handled = none) (hl : ts.length = n) (h1 : 1 ≤ n) (hn : n ≤ 1000) (hS : @LE.le Nat _ (B + n + 3) S) (hSb : @LT.lt Nat _ S b0) (hm1 : 1 ≤ m) (hm : m ≤ 1000) (hts : ∀ p ∈ ts, p.2.size = m) (res : Value) : ∀ (k i : Nat) (s : Shared), m - i = k → i ≤ m → ZL h0 s.heap B n b0 S m ts i →
    (∀ h', (∃ c, h'.get? S = some { cls := .type "list", dict := none, data := .seq ((List.range m).map fun j => Value.ref (b0 + j)).toArray c, slots := #[] }) → (∀ j : Nat, j < m → h'.get? (b0 + j) = some { cls := .type "tuple", data := .seq (zcol ts j).toArray }) → (∀ b o, @LT.lt Nat _ b B → h0.get? b = some o → h'.get? b = some o) → R (.ok (.ret res)) { s with heap := h' }) →
    codeAny (model prog w) A (.builtin "list.extend.loop" ⟨[.ref S, .ref (B + n + 2), res], []⟩) R s := by
  intro k
  induction k with
  | zero =>
    intro i s hk hi H hR
    obtain rfl : i = m := by omega
    refine codeAny_builtin PySem.F.entry_extend_loop ?_
    rw [Around.under_plainId PySem.F.plain_extend_loop]
    show wpAny _ A.in1 (pyNext (.ref (B + n + 2)) >>= _) _ _ s
    refine wpAny_bind ?_
    rcases H.st with ⟨e, _⟩ | ⟨f1, kept, hi1, Z⟩
    · omega
    have hlast : ∃ o, s.heap.get? b0 = some o := ⟨_, H.cs 0 (by omega)⟩
    refine zip_next ⟨_, Z.z, rfl⟩ (zip_over hh Z hl h1 rfl hlast (fun p hp => (hts p hp).symm) fun h' e fr he => ?_)
    obtain ⟨o, ho, hc⟩ := he
    refine wpAny_bind (wpAny_isInstance (T := "StopIteration") (b := true) ⟨o, ho, hc⟩ isSubtype_stop (wpAny_pure ?_))
    obtain ⟨c, hc2⟩ := H.ls
    exact wpAny_pure (hR h' ⟨c, fr _ _ (.inr hS) hc2⟩ (fun j hj => fr _ _ (.inr (by omega)) (H.cs j hj)) fun b o hb e => fr b o (.inl hb) (H.old b o hb e))
  | succ k ih =>
    intro i s hk hi H hR
    refine codeAny_builtin PySem.F.entry_extend_loop ?_
    rw [Around.under_plainId PySem.F.plain_extend_loop]
    show wpAny _ A.in1 (pyNext (.ref (B + n + 2)) >>= _) _ _ s
    refine wpAny_bind (zip_turn hl h1 hn hts (by omega) H fun h' st' g' z' fr => ?_)
    obtain ⟨c, hc2⟩ := H.ls
    have hSf := fr _ _ (.inr hS) hc2
    show wpAny _ A.in1 (updateSeq S (·.push (.ref (b0 + i))) >>= _) _ _ _
    have hlen : ((List.range i).map fun j => Value.ref (b0 + j)).toArray.size = i := by simp
    refine wpAny_bind (wpAny_updateSeq (s := { s with heap := h' }) hSf rfl ?_ (by rw [hlen]; exact Nat.le_trans (Nat.le_trans hi hm) (by decide)) (by rw [Array.size_push, hlen]; exact Nat.le_trans (Nat.succ_le_succ (Nat.le_trans hi hm)) (by decide)))
    have hx := Heap.get?_update_self (Obj.mapSeq (·.push (Value.ref (b0 + i)))) hSf rfl
    have hk2 : ∀ b o, b ≠ S → h'.get? b = some o → (h'.update S (Obj.mapSeq (·.push (Value.ref (b0 + i))))).get? b = some o := fun b o hb e => (Heap.get?_update_other _ _ (Ne.symm hb)).trans e
    refine wpAny_pure ⟨plainId_quiet PySem.F.plain_extend_loop _, ih (i + 1) _ (by omega) (by omega) ⟨?_, ?_, fun j hj => ?_, ?_, fun b o hb e => ?_⟩ fun h2 q1 q2 q3 => hR h2 q1 q2 q3⟩
    · rcases st' with ⟨e, _⟩ | ⟨f1, kp, q1, q2⟩
      · omega
      · exact .inr ⟨f1, kp, q1, q2.other hl hS hk2⟩
    · have e : ((List.range (i + 1)).map fun j => Value.ref (b0 + j)).toArray = ((List.range i).map fun j => Value.ref (b0 + j)).toArray.push (Value.ref (b0 + i)) := by
        rw [List.range_succ, List.map_append]
        simp
      rw [e]
      exact ⟨_, hx⟩
    · have ne : (b0 + j : Nat) ≠ S := by omega
      rcases Nat.lt_or_ge j i with z | z
      · exact hk2 _ _ ne (fr _ _ (.inr (by omega)) (H.cs j z))
      · have : j = i := by omega
        subst this
        exact hk2 _ _ ne g'
    · exact (Heap.SameBut.update (h := h') ..).1.trans z'
    · exact hk2 _ _ (an (by omega)) (fr b o (.inl hb) (H.old b o hb e))
end
theorem zip_tc : ∀ us : List Value, us.length ≤ 8 → checkTypeCall "zip" ⟨us, []⟩ = pure ()
  | [], _ => by kernel_rfl
  | [_], _ => by kernel_rfl
  | [_, _], _ => by kernel_rfl
  | [_, _, _], _ => by kernel_rfl
  | [_, _, _, _], _ => by kernel_rfl
  | [_, _, _, _, _], _ => by kernel_rfl
  | [_, _, _, _, _, _], _ => by kernel_rfl
  | [_, _, _, _, _, _, _], _ => by kernel_rfl
  | [_, _, _, _, _, _, _, _], _ => by kernel_rfl
  | _ :: _ :: _ :: _ :: _ :: _ :: _ :: _ :: _ :: _, h => absurd h (by simp only [List.length_cons]; omega)
theorem zip_nc : ∀ us : List Value, us.length ≤ 8 → checkBuiltinCall "zip.__new__" ⟨.type "zip" :: us, []⟩ = pure ()
  | [], _ => by kernel_rfl
  | [_], _ => by kernel_rfl
  | [_, _], _ => by kernel_rfl
  | [_, _, _], _ => by kernel_rfl
  | [_, _, _, _], _ => by kernel_rfl
  | [_, _, _, _, _], _ => by kernel_rfl
  | [_, _, _, _, _, _], _ => by kernel_rfl
  | [_, _, _, _, _, _, _], _ => by kernel_rfl
  | [_, _, _, _, _, _, _, _], _ => by kernel_rfl
  | _ :: _ :: _ :: _ :: _ :: _ :: _ :: _ :: _ :: _, h => absurd h (by simp only [List.length_cons]; omega)
theorem zip_ic (o : Value) : ∀ us : List Value, us.length ≤ 8 → argsOk "object.__init__" ⟨o :: us, []⟩
  | [], _ => by unfold argsOk; kernel_rfl
  | [_], _ => by unfold argsOk; kernel_rfl
  | [_, _], _ => by unfold argsOk; kernel_rfl
  | [_, _, _], _ => by unfold argsOk; kernel_rfl
  | [_, _, _, _], _ => by unfold argsOk; kernel_rfl
  | [_, _, _, _, _], _ => by unfold argsOk; kernel_rfl
  | [_, _, _, _, _, _], _ => by unfold argsOk; kernel_rfl
  | [_, _, _, _, _, _, _], _ => by unfold argsOk; kernel_rfl
  | [_, _, _, _, _, _, _, _], _ => by unfold argsOk; kernel_rfl
  | _ :: _ :: _ :: _ :: _ :: _ :: _ :: _ :: _ :: _, h => absurd h (by simp only [List.length_cons]; omega)
section
variable {prog : Program} {w : World} {A : Around} {E : Value → Shared → Prop} {s : Shared} {B n m : Nat} {ts : List (Addr × Array Value)}
/-- the iterators of all rows -/
theorem zip_iters {Q : List Value → Shared → Prop} (hts : ∀ p ∈ ts, s.heap.IsTuple p.1 p.2)
    (hQ : ∀ h', h'.objs.size = s.heap.objs.size + ts.length → (∀ b o, s.heap.get? b = some o → h'.get? b = some o) → (∀ (k : Nat) (p : Addr × Array Value), ts[k]? = some p → h'.get? (s.heap.objs.size + k) = some { cls := .type "tuple_iterator", data := .fields #[.ref p.1, .int 0 0] }) → Q (zits s.heap.objs.size ts.length) { s with heap := h' }) :
    wpAny (model prog w) A (Builtin.SmallTypes.iterAll (ts.map fun p => Value.ref p.1)) Q E s := by
  unfold Builtin.SmallTypes.iterAll
  refine wpAny_bind (wpAny_forIn_list _ (fun rest (b : Array Value) s' => ∃ (j : Nat) (h' : Heap), j ≤ ts.length ∧ rest = (ts.map fun p => Value.ref p.1).drop j ∧ b = (zits s.heap.objs.size j).toArray ∧ s' = { s with heap := h' } ∧ h'.objs.size = s.heap.objs.size + j ∧ (∀ b o, s.heap.get? b = some o → h'.get? b = some o) ∧ (∀ (k : Nat) (p : Addr × Array Value), k < j → ts[k]? = some p → h'.get? (s.heap.objs.size + k) = some { cls := .type "tuple_iterator", data := .fields #[.ref p.1, .int 0 0] })) _ ?_ ?_ _ _ ⟨0, s.heap, Nat.zero_le _, rfl, rfl, rfl, rfl, fun _ _ e => e, fun k p hk => absurd hk (Nat.not_lt_zero k)⟩)
  · rintro x rest b s' ⟨j, h', hj, hrest, rfl, rfl, sz, old, its⟩
    have hjl : j < ts.length := by
      rcases Nat.lt_or_ge j ts.length with z | z
      · exact z
      · rw [List.drop_eq_nil_of_le (by rw [List.length_map]; exact z)] at hrest
        cases hrest
    have hl : j < (ts.map fun p => Value.ref p.1).length := by rw [List.length_map]; exact hjl
    rw [List.drop_eq_getElem_cons hl] at hrest
    injection hrest with e1 e2
    rw [List.getElem_map] at e1
    subst e1 e2
    have hm := hts ts[j] (List.getElem_mem hjl)
    obtain ⟨o, ho, r⟩ := hm
    refine wpAny_bind (wpAny_holding (wpAny_pyIter_tuple (s := { s with heap := h' }) ⟨o, old _ _ ho, r⟩ ?_))
    refine wpAny_pure ⟨j + 1, _, hjl, rfl, ?_, rfl, ?_, fun b o e => Heap.get?_push_of_some _ (old b o e), fun k p hk hp => ?_⟩
    · show (zits s.heap.objs.size j).toArray.push (.ref h'.objs.size) = (zits s.heap.objs.size (j + 1)).toArray
      rw [sz]
      unfold zits
      rw [List.range_succ, List.map_append]
      simp
    · show (h'.push _).objs.size = _
      rw [Heap.size_push, sz]
      omega
    · rcases Nat.lt_or_ge k j with z | z
      · exact Heap.get?_push_of_some _ (its k p z hp)
      · have e : k = j := by omega
        subst e
        have e2 : ts[k] = p := by
          have := List.getElem?_eq_getElem hjl
          rw [hp] at this
          exact (Option.some.inj this).symm
        have g : (h'.push { cls := .type "tuple_iterator", data := .fields #[.ref ts[k].1, .int 0 0] }).get? h'.objs.size = some { cls := .type "tuple_iterator", data := .fields #[.ref ts[k].1, .int 0 0] } := Heap.get?_push_size _ rfl
        rw [sz, e2] at g
        rw [e2]
        exact g
  · rintro b s' ⟨j, h', hj, hrest, rfl, rfl, sz, old, its⟩
    have hjl : j = ts.length := by
      have := congrArg List.length hrest
      rw [List.length_drop, List.length_map] at this
      simp at this
      omega
    subst hjl
    refine wpAny_pure ?_
    rw [its_array]
    exact hQ h' sz old fun k p hp => its k p (List.getElem?_eq_some_iff.mp hp).1 hp
theorem zip_new {Q : Value → Shared → Prop} (hl : ts.length = n) (hn : n ≤ 8) (hts : ∀ p ∈ ts, s.heap.IsTuple p.1 p.2 ∧ @LT.lt Nat _ p.1 s.heap.objs.size)
    (hQ : ∀ h', ZH h' s.heap.objs.size n ts .none (.bool false) ((List.range n).map fun _ => Value.none).toArray (fun _ => 0) → h'.objs.size = s.heap.objs.size + n + 3 → (∀ b o, s.heap.get? b = some o → h'.get? b = some o) → Q (.ref (s.heap.objs.size + n + 2)) { s with heap := h' }) :
    wpAny (model prog w) A (Builtin.«zip.__new__» ⟨.type "zip" :: ts.map fun p => Value.ref p.1, []⟩) (fun fin s' => ∃ v, fin = .done (.ret v) ∧ Q v s') E s := by
  obtain ⟨hp, g, d, tk, os⟩ := s
  show wpAny _ _ (Builtin.SmallTypes.newClass "zip" _ >>= _) _ _ _
  refine wpAny_bind ?_
  unfold Builtin.SmallTypes.newClass
  have hsub := sub_zip
  show wpAny _ _ (isType (.type "zip") >>= _) _ _ _
  refine wpAny_bind ?_
  show wpAny _ _ (pure true) _ _ _
  refine wpAny_pure ?_
  show wpAny _ _ (isSubtype (.type "zip") (.type "zip") >>= _) _ _ _
  rw [hsub]
  refine wpAny_bind (wpAny_pure (wpAny_pure ?_))
  show wpAny _ _ (Builtin.SmallTypes.iterAll (ts.map fun p => Value.ref p.1) >>= _) _ _ _
  refine wpAny_bind (zip_iters (fun p hp => (hts p hp).1) fun h' sz old its => ?_)
  show wpAny _ _ (newTuple (zits hp.objs.size ts.length) >>= _) _ _ ⟨h', g, d, tk, os⟩
  rw [hl] at sz ⊢
  have sz : h'.objs.size = hp.objs.size + n := sz
  have ln : (zits hp.objs.size n).length = n := by rw [List.length_map, List.length_range]
  refine wpAny_bind (wpAny_newTuple ?_ (by rw [ln]; exact Nat.le_trans hn (by decide)))
  show wpAny _ _ (newTuple ((zits hp.objs.size n).map fun _ => Value.none) >>= _) _ _ ⟨h'.push { cls := .type "tuple", data := .seq (zits hp.objs.size n).toArray }, g, d, tk, os⟩
  refine wpAny_bind (wpAny_newTuple ?_ (by rw [List.length_map, ln]; exact Nat.le_trans hn (by decide)))
  rw [List.map_map]
  generalize e1 : h'.push { cls := .type "tuple", data := .seq (zits hp.objs.size n).toArray } = h1
  have g1 : h1.get? h'.objs.size = some { cls := .type "tuple", data := .seq (zits hp.objs.size n).toArray } := by rw [← e1]; exact Heap.get?_push_size _ rfl
  have k1 : ∀ b o, h'.get? b = some o → h1.get? b = some o := fun b o e => by rw [← e1]; exact Heap.get?_push_of_some _ e
  have s1 : h1.objs.size = hp.objs.size + n + 1 := by rw [← e1, Heap.size_push, sz]
  have en : (List.map ((fun _ => Value.none) ∘ fun k : Nat => Value.ref (hp.objs.size + k)) (List.range n)).toArray = ((List.range n).map fun _ => Value.none).toArray := rfl
  rw [en]
  show wpAny _ _ (newObj (.type "zip") (.fields #[.none, .bool false, .bool false, .ref h'.objs.size, .ref h1.objs.size]) >>= fun v => ret v) _ _ ⟨h1.push { cls := .type "tuple", data := .seq ((List.range n).map fun _ => Value.none).toArray }, g, d, tk, os⟩
  generalize e2 : h1.push { cls := .type "tuple", data := .seq ((List.range n).map fun _ => Value.none).toArray } = h2
  have g2 : h2.get? h1.objs.size = some { cls := .type "tuple", data := .seq ((List.range n).map fun _ => Value.none).toArray } := by rw [← e2]; exact Heap.get?_push_size _ rfl
  have k2 : ∀ b o, h1.get? b = some o → h2.get? b = some o := fun b o e => by rw [← e2]; exact Heap.get?_push_of_some _ e
  have s2 : h2.objs.size = hp.objs.size + n + 2 := by rw [← e2, Heap.size_push, s1]
  refine wpAny_bind (wpAny_newObj_type (wpAny_pure ⟨_, rfl, ?_⟩))
  show Q (.ref h2.objs.size) ⟨h2.push { cls := .type "zip", data := .fields #[.none, .bool false, .bool false, .ref h'.objs.size, .ref h1.objs.size] }, g, d, tk, os⟩
  generalize e3 : h2.push { cls := .type "zip", data := .fields #[.none, .bool false, .bool false, .ref h'.objs.size, .ref h1.objs.size] } = h3
  have g3 : h3.get? h2.objs.size = some { cls := .type "zip", data := .fields #[.none, .bool false, .bool false, .ref h'.objs.size, .ref h1.objs.size] } := by rw [← e3]; exact Heap.get?_push_size _ rfl
  have k3 : ∀ b o, h2.get? b = some o → h3.get? b = some o := fun b o e => by rw [← e3]; exact Heap.get?_push_of_some _ e
  have s3 : h3.objs.size = hp.objs.size + n + 3 := by rw [← e3, Heap.size_push, s2]
  rw [s2, s1, sz] at g3
  rw [s1] at g2
  rw [sz] at g1
  rw [s2]
  refine hQ h3 ⟨g3, k3 _ _ (k2 _ _ g1), k3 _ _ g2, fun k p hp' => ?_⟩ s3 fun b o e => k3 _ _ (k2 _ _ (k1 _ _ (old b o e)))
  obtain ⟨⟨o, ho, r⟩, hlt⟩ := hts p (List.mem_of_getElem? hp')
  exact ⟨⟨_, k3 _ _ (k2 _ _ (k1 _ _ (its k p hp'))), rfl, rfl⟩, ⟨o, k3 _ _ (k2 _ _ (k1 _ _ (old _ _ ho))), r⟩, hlt⟩
end
section
variable {prog : Program} {w : World} {A : Around} {E : Value → Shared → Prop} {s : Shared} {B n m : Nat} {ts : List (Addr × Array Value)}
theorem zip_call {Q : Value → Shared → Prop} (hl : ts.length = n) (hn : n ≤ 8) (hts : ∀ p ∈ ts, s.heap.IsTuple p.1 p.2 ∧ @LT.lt Nat _ p.1 s.heap.objs.size)
    (hQ : ∀ h', ZH h' s.heap.objs.size n ts .none (.bool false) ((List.range n).map fun _ => Value.none).toArray (fun _ => 0) → h'.objs.size = s.heap.objs.size + n + 3 → (∀ b o, s.heap.get? b = some o → h'.get? b = some o) → Q (.ref (s.heap.objs.size + n + 2)) { s with heap := h' }) :
    wpAny (model prog w) A (call (.type "zip") (ts.map fun p => Value.ref p.1)) Q E s := by
  have hlen : (ts.map fun p => Value.ref p.1).length ≤ 8 := by rw [List.length_map, hl]; exact hn
  refine callType_new F.called_zip (by decide) (zip_tc _ hlen) (zip_nc _ hlen) (fun obj => zip_ic obj _ hlen) F.entry_zip_new
    (S := fun A' R s' => s' = s ∧ ∀ h', ZH h' s.heap.objs.size n ts .none (.bool false) ((List.range n).map fun _ => Value.none).toArray (fun _ => 0) → h'.objs.size = s.heap.objs.size + n + 3 → (∀ b o, s.heap.get? b = some o → h'.get? b = some o) → R (.ok (.ret (.ref (s.heap.objs.size + n + 2)))) { s with heap := h' })
    (.of_wp fun prog w A' R s' h => ?_) ⟨rfl, fun h' z e k => ?_⟩
  · obtain ⟨rfl, h⟩ := h
    exact zip_new (Q := fun v s2 => R (.ok (.ret v)) s2) hl hn hts fun h' z e k => h h' z e k
  · exact ⟨⟨_, z.z, rfl⟩, hQ h' z e k⟩
theorem zip_collect {Q : List Value → Shared → Prop} {kept : Array Value} (hh : A.handled = none) (hl : ts.length = n) (h1 : 1 ≤ n) (hn : n ≤ 1000) (hm1 : 1 ≤ m) (hm : m ≤ 1000) (hts : ∀ p ∈ ts, p.2.size = m) (hk : kept.size = n) (hB : s.heap.objs.size = B + n + 3) (H : ZH s.heap B n ts .none (.bool false) kept fun _ => 0)
    (hQ : ∀ h' : Heap, (∀ j : Nat, j < m → h'.get? (s.heap.objs.size + 1 + j) = some { cls := .type "tuple", data := .seq (zcol ts j).toArray }) → (∀ b o, @LT.lt Nat _ b B → s.heap.get? b = some o → h'.get? b = some o) → Q ((List.range m).map fun j => Value.ref (s.heap.objs.size + 1 + j)) { s with heap := h' }) :
    wpAny (model prog w) A (collect (.ref (B + n + 2))) Q E s := by
  unfold collect
  refine wpAny_bind (wpAny_runValue (codeAny_builtin F.entry_proto_collect ?_))
  rw [Around.under_plainId F.plain_proto_collect _]
  show wpAny _ A.in1 (newList [] >>= fun l => again (.builtin "list.__iadd__" ⟨[l, .ref (B + n + 2)], []⟩)) _ _ s
  refine wpAny_bind (wpAny_newObj_type ?_)
  refine wpAny_pure ⟨plainId_quiet F.plain_list_iadd _, codeAny_builtin F.entry_list_iadd ?_⟩
  rw [Around.under_plainId F.plain_list_iadd _]
  have H1 : ZH (s.heap.push { cls := .type "list", data := .seq ([] : List Value).toArray }) B n ts .none (.bool false) kept fun _ => 0 := H.push
  have hT : ∀ s' : Shared, s'.heap = s.heap.push { cls := .type "list", data := .seq ([] : List Value).toArray } → s'.TypeIs (.ref (B + n + 2)) "zip" := fun s' e => ⟨_, by rw [e]; exact H1.z, rfl⟩
  show wpAny _ A.in1 (Builtin.List.listExtendWith (.ref s.heap.objs.size) (.ref (B + n + 2)) (.ref s.heap.objs.size)) _ _ _
  unfold Builtin.List.listExtendWith
  refine wpAny_bind (wpAny_typeOf (hT _ rfl) ?_)
  have h1' : Builtin.List.listSameRef (.ref s.heap.objs.size) (.ref (B + n + 2)) = false := by
    have : s.heap.objs.size ≠ B + n + 2 := by omega
    simp [Builtin.List.listSameRef, this]
  have h2 : (Value.type "zip" == Value.type "list") = false := by decide
  have h3 : (Value.type "zip" == Value.type "tuple") = false := by decide
  simp only [h1', h2, h3, Bool.or_false, Bool.false_eq_true, if_false]
  refine wpAny_bind (wpAny_pyIter_zip (show IsZip _ (B + n + 2) (B + n) (B + n + 1) .none from H1.z) ?_)
  refine wpAny_bind (wpAny_holding ?_)
  unfold Builtin.List.listLengthHint
  refine wpAny_bind (wpAny_specialOf (hT _ rfl) zip_nolen ?_)
  show wpAny _ A.in1 (specialOf (Value.ref (B + n + 2)) (Str.ofString "__length_hint__") >>= _) _ _ _
  refine wpAny_bind (wpAny_specialOf (hT _ rfl) zip_nohint ?_)
  refine wpAny_pure ?_
  show wpAny _ A.in1 (rule "list.extend.makes-room" >>= fun _ => Builtin.List.listTouch (.ref s.heap.objs.size) >>= fun _ =>
    again (.builtin "list.extend.loop" ⟨[.ref s.heap.objs.size, .ref (B + n + 2), .ref s.heap.objs.size], []⟩)) _ _ _
  refine wpAny_bind (wpAny_rule ?_)
  have hS₁ : (s.heap.push { cls := .type "list", data := .seq ([] : List Value).toArray }).get? s.heap.objs.size = some { cls := .type "list", data := .seq ([] : List Value).toArray } := Heap.get?_push_size _ rfl
  refine wpAny_bind ?_
  show wpAny _ A.in1 (updateSeq s.heap.objs.size (·.push .none) >>= fun _ => updateSeq s.heap.objs.size (·.pop)) _ _ _
  refine wpAny_bind (wpAny_updateSeq hS₁ rfl ?_)
  have hS₂ := Heap.get?_update_self (Obj.mapSeq (·.push Value.none)) hS₁ rfl
  refine wpAny_updateSeq hS₂ rfl ?_
  have hS₃ := Heap.get?_update_self (Obj.mapSeq (·.pop)) hS₂ rfl
  have oth : ∀ b o, b ≠ s.heap.objs.size → (s.heap.push { cls := .type "list", data := .seq ([] : List Value).toArray }).get? b = some o →
      (((s.heap.push { cls := .type "list", data := .seq ([] : List Value).toArray }).update s.heap.objs.size (Obj.mapSeq (·.push Value.none))).update s.heap.objs.size (Obj.mapSeq (·.pop))).get? b = some o :=
    fun b o hb e => (Heap.get?_update_other _ _ (Ne.symm hb)).trans ((Heap.get?_update_other _ _ (Ne.symm hb)).trans e)
  refine wpAny_pure ⟨plainId_quiet F.plain_extend_loop _, zip_loop (h0 := s.heap) (b0 := s.heap.objs.size + 1) hh hl h1 hn (by omega) (by omega) hm1 hm hts _ m 0 _ (by omega) (Nat.zero_le _) ⟨.inl ⟨rfl, kept, hk, H1.other hl (x := s.heap.objs.size) (by omega) oth⟩, ⟨_, hS₃⟩, fun j hj => absurd hj (Nat.not_lt_zero j), ?_, fun b o hb e => oth _ _ (an (by omega)) (Heap.get?_push_of_some _ e)⟩ fun h' hls hcs hold => ?_⟩
  · exact ((Heap.SameBut.update ..).1.trans (Heap.SameBut.update ..).1).trans (Heap.size_push _ _)
  · obtain ⟨c, hls⟩ := hls
    show wpAny _ A (load s.heap.objs.size >>= _) _ _ _
    refine wpAny_bind (wpAny_load hls ?_)
    refine wpAny_pure ?_
    have := hQ h' hcs hold
    simpa using this
theorem call_tuple_zip {Q : Value → Shared → Prop} {kept : Array Value} (hh : A.handled = none) (hl : ts.length = n) (h1 : 1 ≤ n) (hn : n ≤ 1000) (hm1 : 1 ≤ m) (hm : m ≤ 1000) (hts : ∀ p ∈ ts, p.2.size = m) (hk : kept.size = n) (hB : s.heap.objs.size = B + n + 3) (H : ZH s.heap B n ts .none (.bool false) kept fun _ => 0)
    (hQ : ∀ h' : Heap, (∀ j : Nat, j < m → h'.get? (s.heap.objs.size + 1 + j) = some { cls := .type "tuple", data := .seq (zcol ts j).toArray }) → (∀ b o, @LT.lt Nat _ b B → s.heap.get? b = some o → h'.get? b = some o) → Q (.ref h'.objs.size) { s with heap := h'.push { cls := .type "tuple", data := .seq ((List.range m).map fun j => Value.ref (s.heap.objs.size + 1 + j)).toArray } }) :
    wpAny (model prog w) A (call (.type "tuple") [.ref (B + n + 2)]) Q E s := by
  refine callType_codes (Q₁ := fun obj s₁ => s₁.TypeIs obj "tuple" ∧ Q obj s₁) F.called_tuple (F.typeCall_tuple_1 _) F.entry_object_init ?_ fun obj s₁ h₁ => ?_
  · refine codeAny_of_tree ?_
    show wpAny _ A.in1.in1 (do checkBuiltinCall "tuple.__new__" ⟨[.type "tuple", .ref (B + n + 2)], []⟩; again (.builtin "tuple.__new__" ⟨[.type "tuple", .ref (B + n + 2)], []⟩)) _ _ s
    refine wpAny_bind (wpAny_of_eq (F.newCall_tuple_1 _) (wpAny_pure ⟨plainId_quiet F.plain_tuple_new _, codeAny_builtin F.entry_tuple_new ?_⟩))
    rw [Around.under_plainId F.plain_tuple_new _]
    have hsub := sub_tuple_self
    have hinit := init_tuple_lookup
    have hmh := madeHere_tuple
    have hTI : s.TypeIs (.ref (B + n + 2)) "zip" := ⟨_, H.z, rfl⟩
    have hh1 : A.in1.in1.handled = none := hh
    wp_walk using wpAny_typeOf hTI, zip_collect (A := A.in1.in1) hh1 hl h1 hn hm1 hm hts hk hB H
    intro h' hc ho
    show wpAny _ _ (Builtin.Tuple.tupleExact ((List.range m).map fun j => Value.ref (s.heap.objs.size + 1 + j)).toArray >>= fun v => ret v) _ _ _
    unfold Builtin.Tuple.tupleExact
    refine wpAny_bind (wpAny_newObj_type ?_ (by show _ ≤ sizeLine; simp only [List.size_toArray, List.length_map, List.length_range]; exact Nat.le_trans hm (by decide)))
    refine wpAny_pure ?_
    exact ⟨⟨_, Heap.get?_push_size _ rfl, rfl⟩, hQ h' hc ho⟩
  · exact ⟨h₁.1, F.args_object_init_2 obj _, object_init_meets F.called_tuple.init.lookup F.called_tuple.made (by decide) prog w A.in1 _ s₁ ⟨h₁.1, rfl, h₁.2⟩⟩
end
theorem zip_star {M : Model} {A : Around} {E : Value → Shared → Prop} {s : Shared} {env : Env} {e : Expr} {p pos : Pos} {Q : Value → Shared → Prop}
    (h : wpAny M A (eval e env) (fun v s₁ => PySem.W.StarOf M A E v (fun vs s₂ => True ∧ wpAny M A (call (.type "zip") vs) Q E s₂) s₁) E s) (hst : starEach [.Starred e p] env = [(true, eval e env)] := by rfl) :
    wpAny M A (callWith pos (.type "zip") [] (backTo pos (starEach [.Starred e p] env)) []) Q E s := by
  rw [hst]
  exact PySem.W.ks_call (first := []) (P := fun _ => True) rfl (fun h _ => ⟨.machine, .inr (.inl rfl), PySem.W.Looks.of_pure rfl⟩) (PySem.W.ks_lone h)
/-- m new tuples side by side from b0 -/
def updC (H : Hp) (b0 : Addr) (f : Nat → List V) : Nat → Hp
  | 0 => H
  | j + 1 => upd (updC H b0 f j) (b0 + j : Nat) (.tup (f j))
theorem updC_off {H : Hp} {b0 : Addr} {f : Nat → List V} {b : Addr} : ∀ {m : Nat}, (∀ j : Nat, j < m → b ≠ (b0 + j : Nat)) → updC H b0 f m b = H b
  | 0, _ => rfl
  | m + 1, h => by
    show upd (updC H b0 f m) (b0 + m : Nat) _ b = H b
    rw [upd_ne (h m (Nat.lt_succ_self m))]
    exact updC_off fun j hj => h j (Nat.lt_succ_of_lt hj)
theorem updC_at {H : Hp} {b0 : Addr} {f : Nat → List V} : ∀ {m j : Nat}, j < m → updC H b0 f m (b0 + j : Nat) = some (.tup (f j))
  | m + 1, j, h => by
    show upd (updC H b0 f m) (b0 + m : Nat) _ (b0 + j : Nat) = _
    by_cases e : j = m
    · subst e
      exact upd_same
    · rw [upd_ne (an (by omega))]
      exact updC_at (by omega)
abbrev zV (ps : List (Addr × List V)) (j : Nat) : List V := ps.map fun p => p.2.getD j .non
abbrev zR (b0 : Addr) (m : Nat) : List V := (List.range m).map fun j => V.ref (b0 + j : Nat)
/-- tuple(zip( *rows)) -/
def tTupZip (K : PySem.W.Frag) (te : TE) : TE := fun σ H Q => te σ H fun x H1 => ∃ (a : Addr) (ps : List (Addr × List V)) (m : Nat), x = .ref a ∧ SqT K H1 a (ps.map fun p => V.ref p.1) ∧ (∀ p ∈ ps, SqT K H1 p.1 p.2 ∧ p.2.length = m) ∧ 1 ≤ ps.length ∧ ps.length ≤ 8 ∧ 1 ≤ m ∧ m ≤ 1000 ∧
  ∀ b0 t : Addr, (∀ j : Nat, j < m → H1 (b0 + j : Nat) = none) → H1 t = none → (∀ j : Nat, j < m → t ≠ (b0 + j : Nat)) → Q (.ref t) (upd (updC H1 b0 (zV ps) m) t (.tup (zR b0 m)))
theorem refs_of : ∀ {ps : List (Addr × List V)} {us : List Value}, Vals (ps.map fun p => V.ref p.1) us → us = ps.map fun p => Value.ref p.1
  | [], _, .nil => rfl
  | p :: ps, _, .cons r t => by
    cases (show _ = Value.ref p.1 from r)
    rw [refs_of t]
    rfl
theorem rows_of {h : Heap} : ∀ {ps : List (Addr × List V)}, (∀ p ∈ ps, ∃ its : List Value, Vals p.2 its ∧ IsTup h p.1 its.toArray) →
    ∃ ts : List (Addr × Array Value), Paired (fun (p : Addr × List V) (q : Addr × Array Value) => p.1 = q.1 ∧ Vals p.2 q.2.toList ∧ h.IsTuple q.1 q.2) ps ts
  | [], _ => ⟨[], .nil⟩
  | p :: ps, H => by
    obtain ⟨its, r, i⟩ := H p List.mem_cons_self
    obtain ⟨ts, hts⟩ := rows_of fun q hq => H q (List.mem_cons_of_mem _ hq)
    exact ⟨(p.1, its.toArray) :: ts, .cons ⟨rfl, r, i⟩ hts⟩
theorem vals_getD : ∀ {xs : List V} {us : List Value} (i : Nat), Vals xs us → RelV (xs.getD i .non) (us.getD i .none)
  | _, _, _, .nil => by simp; rfl
  | _, _, 0, .cons r _ => r
  | _, _, i + 1, .cons _ t => by simpa using vals_getD i t
theorem col_rel {h : Heap} {j : Nat} : ∀ {ps : List (Addr × List V)} {ts : List (Addr × Array Value)}, Paired (fun (p : Addr × List V) (q : Addr × Array Value) => p.1 = q.1 ∧ Vals p.2 q.2.toList ∧ h.IsTuple q.1 q.2) ps ts → Vals (zV ps j) (zcol ts j)
  | _, _, .nil => .nil
  | _, _, .cons ⟨_, r, _⟩ t => .cons (by have := vals_getD j r; simpa using this) (col_rel t)
theorem paired_all {h : Heap} {m : Nat} : ∀ {ps : List (Addr × List V)} {ts : List (Addr × Array Value)}, Paired (fun (p : Addr × List V) (q : Addr × Array Value) => p.1 = q.1 ∧ Vals p.2 q.2.toList ∧ h.IsTuple q.1 q.2) ps ts → (∀ p ∈ ps, p.2.length = m) →
    ts.length = ps.length ∧ (ps.map fun p => Value.ref p.1) = (ts.map fun p => Value.ref p.1) ∧ ∀ q ∈ ts, h.IsTuple q.1 q.2 ∧ q.2.size = m
  | _, _, .nil, _ => ⟨rfl, rfl, fun _ h => by cases h⟩
  | _, _, .cons (a := p) (b := q) ⟨e, r, i⟩ t, H => by
    obtain ⟨a, b, c⟩ := paired_all t fun p hp => H p (List.mem_cons_of_mem _ hp)
    refine ⟨by rw [List.length_cons, List.length_cons, a], by rw [List.map_cons, List.map_cons, b, e], fun x hx => ?_⟩
    rcases List.mem_cons.mp hx with rfl | hx
    · exact ⟨i, by rw [← Array.length_toList, ← r.length]; exact H p List.mem_cons_self⟩
    · exact c x hx
theorem zR_rel (b0 : Addr) : ∀ m : Nat, Vals (zR b0 m) ((List.range m).map fun j => Value.ref (b0 + j : Nat))
  | 0 => .nil
  | m + 1 => by
    unfold zR
    rw [List.range_succ, List.map_append, List.map_append]
    exact (zR_rel b0 m).append (.cons rfl .nil)
section
variable {X : Cx} {e : Expr} {te : TE} {p p2 p3 pos pos2 : Pos}
theorem pe_tupZip (hc : X.calm = true) (hg : Gl X "tuple") (hm : X.mg "tuple" = none) (hg2 : Gl X "zip") (hm2 : X.mg "zip" = none) (he : PE X e te)
    (hst : starEach [.Starred e p3] X.env = [(true, eval e X.env)] := by rfl)
    (hs2 : starEach [.Call (.Name "zip" p2) [.Starred e p3] [] pos2] X.env = (false, eval (.Call (.Name "zip" p2) [.Starred e p3] [] pos2) X.env) :: starEach [] X.env := by rfl) :
    PE X (.Call (.Name "tuple" p) [.Call (.Name "zip" p2) [.Starred e p3] [] pos2] [] pos) (tTupZip X.K te) := by
  refine ⟨fun pins s σ H Q I h => ?_⟩
  refine Call_ (ld_blt I hg hm boot_tuple (PyProof.Rows.callWith_type1 (args_cons (Call_ (ld_blt I hg2 hm2 PyProof.Rows.boot_zip (zip_star (thn (he.run pins s σ H _ I h) fun u s1 ⟨v, H1, I1, r1, q1⟩ => ?_) hst))) hs2) hs2 rfl))
  obtain ⟨a, ps, m, ev, hq, hrows, hn1, hn8, hm1, hmm, q⟩ := q1
  subst ev
  obtain rfl : u = Value.ref a := r1
  refine StX.star_any I1 (.inl hq) fun us s2 I2 rv => ⟨trivial, ?_⟩
  obtain rfl := refs_of rv
  obtain ⟨ts, hts⟩ := rows_of (h := s2.heap) (ps := ps) fun p hp => by
    obtain ⟨its, r, i, _⟩ := I2.tuple (hrows p hp).1
    exact ⟨its, r, i⟩
  obtain ⟨hl, er, hall⟩ := paired_all hts fun p hp => (hrows p hp).2
  rw [er]
  refine zip_call (n := ps.length) hl hn8 (fun q hq => ⟨(hall q hq).1, ?_⟩) fun h1 Z sz1 k1 => ?_
  · obtain ⟨o, ho, _⟩ := (hall q hq).1
    exact Heap.lt_size ho
  refine args_nil ?_
  refine call_tuple_zip (s := { s2 with heap := h1 }) (I.ok.hd hc) hl hn1 (by omega) hm1 hmm (fun q hq => (hall q hq).2) (by simp) sz1 Z fun h2 hcols hold => ?_
  have sz1 : h1.objs.size = s2.heap.objs.size + ps.length + 3 := sz1
  have hcols : ∀ j : Nat, j < m → h2.get? (h1.objs.size + 1 + j) = some { cls := .type "tuple", data := .seq (zcol ts j).toArray } := hcols
  show EP X pins σ Q (.ref h2.objs.size) { s2 with heap := h2.push { cls := .type "tuple", data := .seq ((List.range m).map fun j => Value.ref (h1.objs.size + 1 + j)).toArray } }
  generalize eb : h1.objs.size + 1 = b0 at hcols ⊢
  generalize ed : h2.push { cls := .type "tuple", data := .seq ((List.range m).map fun j => Value.ref (b0 + j)).toArray } = h3
  have gt : h3.get? h2.objs.size = some { cls := .type "tuple", data := .seq ((List.range m).map fun j => Value.ref (b0 + j)).toArray } := by rw [← ed]; exact Heap.get?_push_size _ rfl
  have k3 : ∀ b o, h2.get? b = some o → h3.get? b = some o := fun b o e => by rw [← ed]; exact Heap.get?_push_of_some _ e
  have kp : ∀ b o, s2.heap.get? b = some o → h3.get? b = some o := fun b o e => k3 _ _ (hold b o (Heap.lt_size e) (k1 b o e))
  have fr : ∀ j : Nat, j < m → H1 (b0 + j : Nat) = none := fun j hj => I2.hok.fresh (by omega)
  have lt2 : ∀ j : Nat, j < m → @LT.lt Nat _ (b0 + j) h2.objs.size := fun j hj => Heap.lt_size (hcols j hj)
  have big : @LE.le Nat _ s2.heap.objs.size h2.objs.size := by
    have := lt2 0 (by omega)
    omega
  have ft : H1 h2.objs.size = none := I2.hok.fresh big
  have tne : ∀ j : Nat, j < m → h2.objs.size ≠ (b0 + j : Nat) := fun j hj => by
    have := lt2 j hj
    omega
  have same : ∀ b : Addr, @LT.lt Nat _ b s2.heap.objs.size → upd (updC H1 b0 (zV ps) m) h2.objs.size (.tup (zR b0 m)) b = H1 b := fun b hb => by
    rw [upd_ne (an (by omega))]
    exact updC_off fun j hj => an (by omega)
  have lts : ∀ b u, H1 b = some u → @LT.lt Nat _ b s2.heap.objs.size := fun b u e => (I2.hok b u e).lt
  refine ⟨.ref h2.objs.size, _, I2.un (t' := s2.toks) ⟨fun b o e _ _ _ => kp b o e, fun b o e _ _ _ => ⟨o.slots, kp b o e⟩, fun b o e n _ => (same b (Heap.lt_size e)).trans n, fun b o e _ => ⟨o, kp b o e⟩, fun b xs e => (same b (lts _ _ e)).trans e, fun b o u e => (same b (lts _ _ e)).trans e, fun b xs e => ⟨#[], by rw [same b (lts _ _ e), e, Array.append_empty]⟩⟩ ?_, rfl, q b0 h2.objs.size fr ft tne⟩
  intro b u e
  by_cases ht : b = h2.objs.size
  · subst ht
    rw [upd_same] at e
    cases e
    exact ⟨by rw [List.length_map, List.length_range]; exact Nat.le_trans hmm (by decide), _, zR_rel b0 m, ⟨_, gt, rfl, _, rfl⟩⟩
  · rw [upd_ne ht] at e
    by_cases hj : ∃ j : Nat, j < m ∧ b = (b0 + j : Nat)
    · obtain ⟨j, hj, rfl⟩ := hj
      rw [updC_at hj] at e
      cases e
      exact ⟨by rw [List.length_map]; exact Nat.le_trans hn8 (by decide), _, col_rel hts, ⟨_, k3 _ _ (hcols j hj), rfl, _, rfl⟩⟩
    · have hoff : ∀ j : Nat, j < m → b ≠ (b0 + j : Nat) := fun j hj' e' => hj ⟨j, hj', e'⟩
      rw [updC_off hoff] at e
      exact (I2.hok b u e).stay (fun c v _ e' => kp c v e') (fun c e' => (same c (lts _ _ e')).trans e') fun c xs e' => (same c (lts _ _ e')).trans e'
end
section
variable {K : PySem.W.Frag} {O : Own} {ds : List SD} {Q : SD → Own → Prop} {te : TE}
theorem peTupZip {X : Cx} {e : Expr} {p p2 p3 pos pos2 : Pos} (K : PySem.W.Frag) (hc : X.calm = true) (hg : Gl X "tuple") (hm : X.mg "tuple" = none) (hg2 : Gl X "zip") (hm2 : X.mg "zip" = none) (he : PE X e te) (hK : X.K = K := by rfl)
    (hst : starEach [.Starred e p3] X.env = [(true, eval e X.env)] := by rfl)
    (hs2 : starEach [.Call (.Name "zip" p2) [.Starred e p3] [] pos2] X.env = (false, eval (.Call (.Name "zip" p2) [.Starred e p3] [] pos2) X.env) :: starEach [] X.env := by rfl) :
    PE X (.Call (.Name "tuple" p) [.Call (.Name "zip" p2) [.Starred e p3] [] pos2] [] pos) (tTupZip K te) := by
  subst hK
  exact pe_tupZip hc hg hm hg2 hm2 he hst hs2
theorem hold_cols {Hk H : Hp} {b0 : Addr} {f : Nat → List V} (h : Hold K Hk O H) : ∀ m : Nat, (∀ j : Nat, j < m → H (b0 + j : Nat) = none) → Hold K (updC Hk b0 f m) O (updC H b0 f m) ∧ Same Hk (updC Hk b0 f m)
  | 0, _ => ⟨h, fun _ _ e => e⟩
  | m + 1, hf => by
    obtain ⟨h1, h2⟩ := hold_cols (f := f) h m fun j hj => hf j (Nat.lt_succ_of_lt hj)
    have hn : updC H b0 f m (b0 + m : Nat) = none := (updC_off fun j hj => an (by omega)).trans (hf m (Nat.lt_succ_self m))
    exact ⟨h1.know hn, h2.trans (same_new (h1.kn.free hn))⟩
theorem rows_da {Hk : Hp} : ∀ {rows : List (List PyData)} {xs : List V}, DaAll Hk xs (rows.map PyData.tuple) → ∃ ps : List (Addr × List V), xs = ps.map (fun p => V.ref p.1) ∧ Paired (fun (p : Addr × List V) (r : List PyData) => Hk p.1 = some (.tup p.2) ∧ DaAll Hk p.2 r) ps rows
  | [], _, .nil => ⟨[], rfl, .nil⟩
  | r :: rows, _, .cons h t => by
    obtain ⟨ps, e, hp⟩ := rows_da t
    cases h with
    | @tup a xs _ g1 g2 => exact ⟨(a, xs) :: ps, by rw [e]; rfl, .cons ⟨g1, g2⟩ hp⟩
theorem da_getD {Hk : Hp} : ∀ {xs : List V} {ds : List PyData} (i : Nat), DaAll Hk xs ds → Da Hk (xs.getD i .non) (ds.getD i .none)
  | _, _, _, .nil => by simpa using Da.non
  | _, _, 0, .cons h _ => h
  | _, _, i + 1, .cons _ t => by simpa using da_getD i t
theorem col_da {Hk : Hp} {j : Nat} : ∀ {ps : List (Addr × List V)} {rows : List (List PyData)}, Paired (fun (p : Addr × List V) (r : List PyData) => Hk p.1 = some (.tup p.2) ∧ DaAll Hk p.2 r) ps rows → DaAll Hk (zV ps j) (rows.map fun r => r.getD j .none)
  | _, _, .nil => .nil
  | _, _, .cons ⟨_, r⟩ t => .cons (da_getD j r) (col_da t)
theorem paired_da {Hk : Hp} {m : Nat} : ∀ {ps : List (Addr × List V)} {rows : List (List PyData)}, Paired (fun (p : Addr × List V) (r : List PyData) => Hk p.1 = some (.tup p.2) ∧ DaAll Hk p.2 r) ps rows → (∀ r ∈ rows, r.length = m) → ps.length = rows.length ∧ ∀ p ∈ ps, Hk p.1 = some (.tup p.2) ∧ p.2.length = m
  | _, _, .nil, _ => ⟨rfl, fun _ h => by cases h⟩
  | _, _, .cons (b := r) ⟨g, d⟩ t, H => by
    obtain ⟨a, b⟩ := paired_da t fun r hr => H r (List.mem_cons_of_mem _ hr)
    refine ⟨by rw [List.length_cons, List.length_cons, a], fun x hx => ?_⟩
    rcases List.mem_cons.mp hx with rfl | hx
    · exact ⟨g, by rw [d.length]; exact H r List.mem_cons_self⟩
    · exact b x hx
theorem w_tupZip (h : EvW K te O ds fun r O1 => ∃ (rows : List (List PyData)) (m : Nat), r = .dat (.tuple (rows.map PyData.tuple)) ∧ (∀ x ∈ rows, x.length = m) ∧ 1 ≤ rows.length ∧ rows.length ≤ 8 ∧ 1 ≤ m ∧ m ≤ 1000 ∧
    Q (.dat (.tuple ((List.range m).map fun j => .tuple (rows.map fun x => x.getD j .none)))) O1) : EvW K (tTupZip K te) O ds Q := fun Hk σ H p Q' k =>
  h Hk σ H p _ fun v r O1 Hk1 H1 e1 h1 s1 q1 => by
    obtain ⟨rows, m, rfl, hrl, n1, n8, m1, mm, q⟩ := q1
    cases (show Da Hk1 v (.tuple (rows.map PyData.tuple)) from s1) with
    | @tup a xs _ g1 g2 =>
      obtain ⟨ps, rfl, hp⟩ := rows_da g2
      obtain ⟨hl, hall⟩ := paired_da hp hrl
      refine ⟨a, ps, m, rfl, .inl (.inl (h1.kn _ _ g1)), fun x hx => ⟨.inl (.inl (h1.kn _ _ (hall x hx).1)), (hall x hx).2⟩, by omega, by omega, m1, mm, fun b0 t hf ht hne => ?_⟩
      obtain ⟨hc, sc⟩ := hold_cols (f := zV ps) h1 m hf
      have hn : updC H1 b0 (zV ps) m t = none := (updC_off hne).trans ht
      have sm : Same (updC Hk1 b0 (zV ps) m) (upd (updC Hk1 b0 (zV ps) m) t (.tup (zR b0 m))) := same_new (hc.kn.free hn)
      refine k _ (.dat (.tuple ((List.range m).map fun j => .tuple (rows.map fun x => x.getD j .none)))) O1 _ _ (e1.trans (sc.trans sm)) (hc.know hn) (.tup upd_same ?_) q
      have cols : ∀ i : Nat, i ≤ m → DaAll (upd (updC Hk1 b0 (zV ps) m) t (.tup (zR b0 m))) (zR b0 i) ((List.range i).map fun j => .tuple (rows.map fun x => x.getD j .none)) := by
        intro i
        induction i with
        | zero => exact fun _ => .nil
        | succ i ih =>
          intro hi
          unfold zR
          rw [List.range_succ, List.map_append, List.map_append]
          refine (ih (by omega)).append (.cons (.tup (sm _ _ (updC_at (by omega))) ?_) .nil)
          exact DaAll.mono (sc.trans sm) (col_da hp)
      exact cols m (Nat.le_refl m)
end
end Wk
namespace Wk
open PySem PySem.Spec PyProof.Rows L2
/-- an iterator that yields known data and changes nothing -/
def ItW (K : PySem.W.Frag) (wi : TI) (O : Own) (ds : List SD) (R : List PyData → Own → Prop) : Prop := ∀ Hk σ H, Pt K Hk O ds σ H → ∀ Q' : It → Hp → Prop,
  (∀ (J : It) es O2 Hk2 H2, Same Hk Hk2 → Hold K Hk2 O2 H2 → (∀ Hk3 O3 H3 (i : Nat), Same Hk2 Hk3 → Hold K Hk3 O3 H3 → (∀ d, es[i]? = some d → J.go i H3 ∧ ∀ x H', J.yld i H3 x H' → H' = H3 ∧ Da Hk3 x d) ∧ (es.length ≤ i → J.stop i H3)) → R es O2 → Q' J H2) → wi σ H Q'
/-- a target takes a known datum; vs are the names that are not known before -/
def TgW (K : PySem.W.Frag) (g : TG) (vs : List Nat) (d : PyData) (ds ds2 : List SD) : Prop := ∀ Hk O σ H v, Pt K Hk O ds σ H → Da Hk v d → ∀ Q : L2.St → Hp → Prop, (∀ σ2, wipe σ2 vs = wipe σ vs → Pt K Hk O ds2 σ2 H → Q σ2 H) → g v (wipe σ vs) H Q
def wipeD (ds : List SD) : List Nat → List SD
  | [] => ds
  | j :: vs => (wipeD ds vs).set j .non
section
variable {K : PySem.W.Frag} {O : Own} {ds : List SD} {R : List PyData → Own → Prop}
theorem it_lst {tl : TE} (h : EvW K tl O ds fun r O1 => ∃ es : List PyData, r = .dat (.list es) ∧ R es O1) : ItW K (iList K tl) O ds R := fun Hk σ H p Q' k =>
  h Hk σ H p _ fun v r O1 Hk1 H1 e1 h1 s1 q1 => by
    obtain ⟨es, rfl, q⟩ := q1
    cases (show Da Hk1 v (.list es) from s1) with
    | @lst a xs _ g1 g2 =>
    refine ⟨a, rfl, ⟨xs, .inl (.inl (h1.kn _ _ g1))⟩, k _ es O1 Hk1 H1 e1 h1 (fun Hk3 O3 H3 i e3 h3 => ⟨fun d hd => ?_, fun hl => ?_⟩) q⟩
    · obtain ⟨x, g3, g4⟩ := g2.get hd
      have q3 : SqL K H3 a xs := .inl (.inl (h3.kn _ _ (e3 _ _ g1)))
      refine ⟨⟨xs, x, q3, g3⟩, fun y H' hy => ⟨hy.1, ?_⟩⟩
      have e := hy.2 xs q3
      rw [g3] at e
      cases e
      exact Da.mono e3 g4
    · exact ⟨xs, .inl (.inl (h3.kn _ _ (e3 _ _ g1))), by rw [g2.length]; exact hl⟩
theorem it_tup {tl : TE} (h : EvW K tl O ds fun r O1 => ∃ es : List PyData, r = .dat (.tuple es) ∧ R es O1) : ItW K (iTup K tl) O ds R := fun Hk σ H p Q' k =>
  h Hk σ H p _ fun v r O1 Hk1 H1 e1 h1 s1 q1 => by
    obtain ⟨es, rfl, q⟩ := q1
    cases (show Da Hk1 v (.tuple es) from s1) with
    | @tup a xs _ g1 g2 =>
    refine ⟨a, rfl, ⟨xs, .inl (.inl (h1.kn _ _ g1))⟩, k _ es O1 Hk1 H1 e1 h1 (fun Hk3 O3 H3 i e3 h3 => ⟨fun d hd => ?_, fun hl => ?_⟩) q⟩
    · obtain ⟨x, g3, g4⟩ := g2.get hd
      have q3 : SqT K H3 a xs := .inl (.inl (h3.kn _ _ (e3 _ _ g1)))
      refine ⟨⟨xs, x, q3, g3⟩, fun y H' hy => ⟨hy.1, ?_⟩⟩
      have e := hy.2 xs q3
      rw [g3] at e
      cases e
      exact Da.mono e3 g4
    · exact ⟨xs, .inl (.inl (h3.kn _ _ (e3 _ _ g1))), by rw [g2.length]; exact hl⟩
theorem rg_get {lo : Int} {n i : Nat} {d : PyData} (h : ((List.range n).map fun j => PyData.int (lo + (j : Nat)))[i]? = some d) : i < n ∧ d = .int (lo + (i : Nat)) := by
  have hi := (List.getElem?_eq_some_iff.mp h).1
  rw [List.length_map, List.length_range] at hi
  rw [List.getElem?_map, List.getElem?_range hi] at h
  exact ⟨hi, (Option.some.inj h).symm⟩
theorem it_rng1 {ta : TA} (h : AvW K ta O ds fun rs O1 => ∃ n : Int, rs = [iV n] ∧ -(2 ^ 62) ≤ n ∧ n < 2 ^ 62 ∧ R ((List.range n.toNat).map fun j => PyData.int (0 + (j : Nat))) O1) : ItW K (iRng1 ta) O ds R := fun Hk σ H p Q' k =>
  h Hk σ H p _ fun vs rs O1 Hk1 H1 e1 h1 s1 q1 => by
    obtain ⟨n, rfl, n1, n2, q⟩ := q1
    obtain ⟨v, rfl, hv⟩ := all1 s1
    cases (show Da Hk1 v (.int n) from hv)
    refine ⟨n, rfl, n1, n2, k _ _ O1 Hk1 H1 e1 h1 (fun Hk3 O3 H3 i e3 h3 => ⟨fun d hd => ?_, fun hl => ?_⟩) q⟩
    · obtain ⟨hi, rfl⟩ := rg_get hd
      refine ⟨hi, fun y H' hy => ⟨hy.1, ?_⟩⟩
      rw [hy.2]
      exact .int _
    · rw [List.length_map, List.length_range] at hl
      exact hl
theorem it_rng2 {ta : TA} (h : AvW K ta O ds fun rs O1 => ∃ lo n : Int, rs = [iV lo, iV n] ∧ (-(2 ^ 62) ≤ lo ∧ lo < 2 ^ 62 ∧ -(2 ^ 62) ≤ n ∧ n < 2 ^ 62) ∧ R ((List.range (n - lo).toNat).map fun j => PyData.int (lo + (j : Nat))) O1) : ItW K (iRng2 ta) O ds R := fun Hk σ H p Q' k =>
  h Hk σ H p _ fun vs rs O1 Hk1 H1 e1 h1 s1 q1 => by
    obtain ⟨lo, n, rfl, hn, q⟩ := q1
    obtain ⟨v, v2, rfl, hv, hv2⟩ := all2 s1
    cases (show Da Hk1 v (.int lo) from hv)
    cases (show Da Hk1 v2 (.int n) from hv2)
    refine ⟨lo, n, rfl, hn, k _ _ O1 Hk1 H1 e1 h1 (fun Hk3 O3 H3 i e3 h3 => ⟨fun d hd => ?_, fun hl => ?_⟩) q⟩
    · obtain ⟨hi, rfl⟩ := rg_get hd
      refine ⟨hi, fun y H' hy => ⟨hy.1, ?_⟩⟩
      rw [hy.2]
      exact .int _
    · rw [List.length_map, List.length_range] at hl
      exact hl
/-! targets -/
theorem Pt.drop {Hk H : Hp} {σ : L2.St} {j : Nat} {x : Option V} (p : Pt K Hk O ds σ H) : Pt K Hk O (ds.set j .non) (σ.set j x) H :=
  ⟨p.hold, by rw [List.length_set, List.length_set, p.len], fun i q hq => by
    by_cases hi : j = i
    · subst hi
      rw [List.getElem?_set] at hq
      split at hq
      · split at hq
        · cases hq
          exact .inl rfl
        · cases hq
      · contradiction
    · rw [List.getElem?_set_ne hi] at hq
      rw [List.getElem?_set_ne hi]
      exact p.env i q hq⟩
theorem Pt.wiped {Hk H : Hp} {ds : List SD} {σ : L2.St} (p : Pt K Hk O ds σ H) : ∀ vs : List Nat, Pt K Hk O (wipeD ds vs) (wipe σ vs) H
  | [] => p
  | j :: vs => (p.wiped vs).drop
theorem wipe_set_or {σ : L2.St} {x : Option V} {j : Nat} : ∀ vs : List Nat, (j ∈ vs → wipe (σ.set j x) vs = wipe σ vs) ∧ (j ∉ vs → wipe (σ.set j x) vs = (wipe σ vs).set j x)
  | [] => ⟨fun h => by (exact absurd h List.not_mem_nil), fun _ => rfl⟩
  | i :: vs => by
    have ih := wipe_set_or (σ := σ) (x := x) (j := j) vs
    constructor
    · intro h
      show (wipe (σ.set j x) vs).set i none = (wipe σ vs).set i none
      by_cases hj : j ∈ vs
      · rw [ih.1 hj]
      · have e : j = i := (List.mem_cons.mp h).resolve_right hj
        subst e
        rw [ih.2 hj, List.set_set]
    · intro h
      have h1 : j ≠ i := fun e => h (by rw [e]; exact List.mem_cons_self)
      show (wipe (σ.set j x) vs).set i none = ((wipe σ vs).set i none).set j x
      rw [ih.2 fun z => h (List.mem_cons_of_mem _ z), List.set_comm _ _ h1]
theorem wipe_idem (σ : L2.St) : ∀ vs us : List Nat, (∀ j ∈ us, j ∈ vs) → wipe (wipe σ us) vs = wipe σ vs
  | _, [], _ => rfl
  | vs, j :: us, h => by
    show wipe ((wipe σ us).set j none) vs = _
    rw [(wipe_set_or vs).1 (h j List.mem_cons_self)]
    exact wipe_idem σ vs us fun k hk => h k (List.mem_cons_of_mem _ hk)
theorem tg_name {vs : List Nat} {j : Nat} {d : PyData} (hj : j ∈ vs) : TgW K (gName j) vs d ds ((wipeD ds vs).set j (.dat d)) := fun Hk O σ H v p hd Q k => by
  refine k _ ?_ ((p.wiped vs).set (r := .dat d) hd)
  rw [(wipe_set_or vs).1 hj]
  exact wipe_idem σ vs vs fun _ z => z
end
/-- one turn of the first clause: the second source's own loop -/
def Lc2Turn (K : PySem.W.Frag) (wi1 : TI) (g1 : TG) (tt1 : TT) (te : TE) (vs1 : List Nat) (O2 : Own) (ds : List SD) (acc : List SD) (I' : List SD → Own → Prop) : Prop :=
  ∀ Dl : Addr, ItW K wi1 ((Dl, OD.lst acc) :: O2) ds fun es O3 => ∃ O4, O3.Perm ((Dl, OD.lst acc) :: O4) ∧ ∃ I1 : Nat → List SD → Own → Prop, I1 0 acc O4 ∧ (∀ j acc O5, I1 j acc O5 → acc.length < sizeLine) ∧
    (∀ (j : Nat) d acc O5, es[j]? = some d → I1 j acc O5 → ∃ ds2, TgW K g1 vs1 d ds ds2 ∧ LcTurn K tt1 te O5 ds2 acc (I1 (j + 1))) ∧ ∀ acc O5, I1 es.length acc O5 → I' acc O5
section
variable {K : PySem.W.Frag} {O : Own} {ds : List SD} {Q : SD → Own → Prop}
theorem w_lcc {wi wi1 : TI} {g g1 : TG} {tt1 : TT} {te : TE} {vs vs1 : List Nat} (h : ItW K wi O ds fun es O1 => ∃ I : Nat → List SD → Own → Prop, I 0 [] O1 ∧
    (∀ (i : Nat) d acc O2, es[i]? = some d → I i acc O2 → ∃ ds2, TgW K g vs d ds ds2 ∧ Lc2Turn K wi1 g1 tt1 te vs1 O2 ds2 acc (I (i + 1))) ∧ ∀ acc O2 Dl, I es.length acc O2 → Q (.ad Dl) ((Dl, .lst acc) :: O2)) :
    EvW K (tLc2 wi g tYes wi1 g1 tt1 te vs vs1) O ds Q := fun Hk σ H p Q' k =>
  h Hk σ H p _ fun J es O1 Hk1 H1 e1 h1 walk q1 => by
    obtain ⟨I, h0, hs, hd⟩ := q1
    intro Dl hf
    refine ⟨fun i m H => m = es.length - i ∧ i ≤ es.length ∧ ∃ acc O2 Hk2, Same Hk1 Hk2 ∧ Hold K Hk2 ((Dl, OD.lst acc) :: O2) H ∧ I i acc O2, ⟨es.length, by omega, Nat.zero_le _, [], O1, Hk1, Same.refl _, h1.own hf .nil, h0⟩, ?_⟩
    rintro i m H2 ⟨rfl, hi, acc, O2, Hk2, e2, hh, q⟩
    have W := walk Hk2 _ H2 i e2 hh
    by_cases hlt : i < es.length
    · obtain ⟨w1, w2⟩ := W.1 es[i] (List.getElem?_eq_getElem hlt)
      refine .inr ⟨w1, fun H' => ∃ acc O2 Hk2, Same Hk1 Hk2 ∧ Hold K Hk2 ((Dl, OD.lst acc) :: O2) H' ∧ I (i + 1) acc O2, fun H' n => ⟨es.length - (i + 1), by omega, rfl, hlt, n⟩, fun x H' hy => ?_⟩
      obtain ⟨rfl, hx⟩ := w2 x H' hy
      obtain ⟨ds2, tg, turn⟩ := hs i _ acc O2 (List.getElem?_eq_getElem hlt) q
      refine tg Hk2 _ σ H' x ((p.ext e1 h1).ext e2 hh) hx _ fun σ2 ew p2 => ⟨ew, ?_⟩
      unfold tYes
      dsimp only
      rw [if_pos rfl]
      refine turn Dl Hk2 σ2 H' p2 _ fun J1 es1 O3 Hk3 H3 e3 h3 walk1 q3 => ?_
      obtain ⟨O4, hp, I1, i0, isz, is, id⟩ := q3
      have p3 := p2.ext e3 h3
      refine ⟨fun j k H => k = es1.length - j ∧ j ≤ es1.length ∧ ∃ acc O5 Hk4, Same Hk3 Hk4 ∧ Hold K Hk4 ((Dl, OD.lst acc) :: O5) H ∧ I1 j acc O5, ⟨es1.length, by omega, Nat.zero_le _, acc, O4, Hk3, Same.refl _, h3.perm hp, i0⟩, ?_⟩
      rintro j k5 H5 ⟨rfl, hj, acc5, O5, Hk5, e5, h5, q5⟩
      have W1 := walk1 Hk5 _ H5 j e5 h5
      by_cases hlt1 : j < es1.length
      · obtain ⟨w3, w4⟩ := W1.1 es1[j] (List.getElem?_eq_getElem hlt1)
        refine .inr ⟨w3, fun H' => ∃ acc O5 Hk4, Same Hk3 Hk4 ∧ Hold K Hk4 ((Dl, OD.lst acc) :: O5) H' ∧ I1 (j + 1) acc O5, fun H' n => ⟨es1.length - (j + 1), by omega, rfl, hlt1, n⟩, fun x1 H6 hy1 => ?_⟩
        obtain ⟨rfl, hx1⟩ := w4 x1 H6 hy1
        obtain ⟨ds3, tg1, turn1⟩ := is j _ acc5 O5 (List.getElem?_eq_getElem hlt1) q5
        refine tg1 Hk5 _ σ2 H6 x1 (p3.ext e5 h5) hx1 _ fun σ3 ew1 p6 => ⟨ew1, ?_⟩
        refine turn1 Dl Hk5 σ3 H6 p6 _ fun b O7 Hk7 H7 e7 h7 q7 => ?_
        cases b with
        | true =>
          refine iteT (q7.1 rfl Hk7 σ3 H7 (p6.ext e7 h7) _ fun y r O8 Hk8 H8 e8 h8 s8 q8 => ?_)
          obtain ⟨O9, hp9, q9⟩ := q8
          have h9 := h8.perm hp9
          obtain ⟨⟨us, g3, g4⟩, _⟩ := h9.ow _ List.mem_cons_self
          exact ⟨us, g3, by rw [g4.length]; exact isz j acc5 O5 q5, acc5 ++ [r], O9, Hk8, e5.trans (e7.trans e8), h9.write (g4.append (.cons s8 .nil)), q9⟩
        | false =>
          obtain ⟨O9, hp9, q9⟩ := q7.2 rfl
          exact iteF ⟨acc5, O9, Hk7, e5.trans e7, h7.perm hp9, q9⟩
      · have ej : j = es1.length := by omega
        subst ej
        exact .inl ⟨W1.2 (Nat.le_refl _), acc5, O5, Hk5, e2.trans (e3.trans e5), h5, id acc5 O5 q5⟩
    · have ei : i = es.length := by omega
      subst ei
      exact .inl ⟨W.2 (Nat.le_refl _), k _ (.ad Dl) _ Hk2 H2 (e1.trans e2) hh rfl (hd acc O2 Dl q)⟩
/-! starred arguments -/
theorem w_star {te : TE} {t : TA} {Qa : List SD → Own → Prop} (h : EvW K te O ds fun r O1 => ∃ es : List PyData, r = .dat (.tuple es) ∧ AvW K t O1 ds fun rs O2 => Qa (es.map SD.dat ++ rs) O2) : AvW K (StX.tStar K te t) O ds Qa := fun Hk σ H p Q' k =>
  h Hk σ H p _ fun v r O1 Hk1 H1 e1 h1 s1 q1 => by
    obtain ⟨es, rfl, q⟩ := q1
    cases (show Da Hk1 v (.tuple es) from s1) with
    | @tup a xs _ g1 g2 =>
      refine ⟨a, xs, rfl, .inl (.inl (.inl (h1.kn _ _ g1))), ?_⟩
      refine q Hk1 σ H1 (p.ext e1 h1) _ fun vs rs O2 Hk2 H2 e2 h2 s2 q2 => k _ _ O2 Hk2 H2 (e1.trans e2) h2 ?_ q2
      exact (SDall.of_dats (DaAll.mono e2 g2)).append s2
end
/-! ### < on data that are alike -/
def rLtD (K : PySem.W.Frag) : R2 := fun x y H Q => ∃ d e, Dp K H x d ∧ Dp K H y e ∧ PySem.W.alike d e = true ∧ d ≠ .none ∧ d.depth ≤ 64 ∧ Q (.bl (PySem.W.dataLt d e)) H
theorem kLtD {X : Cx} (K : PySem.W.Frag) (hu : X.A.units + 64 < cLine) (hK : X.K = K := by rfl) : OpR X (compareOp .Lt) (rLtD K) := by
  subst hK
  intro pins s σ H x y v u Q I rx ry h
  obtain ⟨d, e, hd, he, ha, hn, hdp, q⟩ := h
  obtain ⟨as, r1⟩ := Dp.reads I d x v hd rx
  obtain ⟨bs, r2⟩ := Dp.reads I e y u he ry
  exact PySem.W.rcLt_alike d e X.A s v u as bs r1 r2 ha hn (Nat.lt_of_le_of_lt (Nat.add_le_add_left (Nat.le_trans (Nat.min_le_left _ _) hdp) _) hu) _ _ _ _ ⟨.bl _, H, I, rfl, q⟩
theorem o_ltD {K : PySem.W.Frag} {O : Own} {Q : SD → Own → Prop} {d e : PyData} (h1 : PySem.W.alike d e = true) (h2 : d ≠ .none) (h3 : d.depth ≤ 64) (q : Q (bV (PySem.W.dataLt d e)) O) : OpW K (rLtD K) (.dat d) (.dat e) O Q := fun Hk H h u v hu hv Q' k =>
  ⟨d, e, (Da.mono h.kn (show Da Hk u d from hu)).dp, (Da.mono h.kn (show Da Hk v e from hv)).dp, h1, h2, h3, k.now h (r := bV _) (.bl _) q⟩
/-! ### a tuple's truth -/
def tTruT (K : PySem.W.Frag) (te : TE) : TT := fun σ H Q => te σ H fun x H' => ∃ k, TruV K x H' k ∧ Q k H'
theorem ptTru {X : Cx} {a : Expr} {ta : TE} (K : PySem.W.Frag) (ha : PE X a ta) (hK : X.K = K := by rfl) (he : ∀ whole, isTrue a X.env whole = (do let v ← whole; standAt a.pos; holding [v] (truthy v)) := by intro _; rfl) : PT X a (tTruT K ta) := by
  subst hK
  exact pt_truth ha he
theorem t_truT {K : PySem.W.Frag} {O : Own} {ds : List SD} {te : TE} {Q : Bool → Own → Prop} (h : EvW K te O ds fun r O1 => ∃ es : List PyData, r = .dat (.tuple es) ∧ Q (!es.isEmpty) O1) : TvW K (tTruT K te) O ds Q := fun Hk σ H p Q' k =>
  h Hk σ H p _ fun v r O1 Hk1 H1 e1 h1 s1 q1 => by
    obtain ⟨es, rfl, q⟩ := q1
    cases (show Da Hk1 v (.tuple es) from s1) with
    | @tup a xs _ g1 g2 =>
      have e : xs.isEmpty = es.isEmpty := by
        have := g2.length
        cases xs <;> cases es <;> simp_all
      exact ⟨!es.isEmpty, .inr (.inl ⟨xs, .inl (.inl (h1.kn _ _ g1)), by rw [e]⟩), k _ O1 Hk1 H1 e1 h1 q⟩
end Wk
namespace Wk
open PySem PySem.Spec PyProof.Rows L2
/-- the pairs of the locked dict, each a new tuple -/
def Itit (d : Addr) (o : Obj) (kvs : List (List Key × V)) : It :=
  ⟨fun i H => H d = some (.frz o (.dT kvs)) ∧ i < kvs.length, fun i H x H' => ∃ T q k v, kvs[i]? = some (k, v) ∧ x = .ref T ∧ H T = none ∧ H q = some (.tup (k.map kV)) ∧ H' = upd H T (.tup [.ref q, v]), fun i H => H d = some (.frz o (.dT kvs)) ∧ kvs.length ≤ i⟩
section
variable {X : Cx} {pins : List (Addr × Obj)} {s : Shared} {σ : L2.St} {H : Hp} {d : Addr} {o : Obj}
theorem frz_raw {kvs : List (List Key × V)} (I : Inv X pins σ H s) (h : H d = some (.frz o (.dT kvs))) :
    (d == sysModules) = false ∧ s.heap.get? d = some o ∧ o.ExactDict ∧ ∃ (es : Array DictEntry) (ep : Nat), o.data = .dict es ep ∧ es.size = kvs.length ∧ kvs.length ≤ sizeLine ∧
      ∀ (i : Nat) (k : List Key) (v : V), kvs[i]? = some (k, v) → ∃ (en : DictEntry) (q : Addr), es[i]? = some en ∧ en.key = .ref q ∧ H q = some (.tup (k.map kV)) ∧ RelV v en.val := by
  obtain ⟨hd, z, hs, xs, pr, o', es, ep, ho, hx, hdt, he, _⟩ := I.hok d _ h
  rw [hd] at ho
  cases ho
  refine ⟨hs, hd, hx, es, ep, hdt, ?_, z, fun i k v e => ?_⟩
  · have l1 : es.size = xs.length := by rw [← Array.length_toList, he, List.length_map]
    have l2 : kvs.length = xs.length := Paired.length pr
    omega
  · obtain ⟨b, hb, e1, e2, e3⟩ := paired_get pr e
    have q : es[i]? = some (entryOfKey (tupleKind (mixKind X.prog X.w)) b) := by rw [← Array.getElem?_toList, he, List.getElem?_map, hb]; rfl
    exact ⟨_, b.2.1, q, rfl, e2, e3⟩
end
section
variable {P : Program} {w : World} {K : PySem.W.Frag} {d : Addr} {o : Obj} {es : Array DictEntry} {ep : Nat}
theorem turn_itemsT {kvs : List (List Key × V)} {elts : List Expr} {kk : Nat} {tpos : Pos} (it : Addr) (hod : o.data = .dict es ep) :
    Turn P w K (.Tuple elts kk tpos) (Itit d o kvs) [it] it (fun i h => ∃ ok ov, IsItemIter h it d i kvs.length ep ok ov) where
  mem := by simp
  obj := fun i h st b hb => by
    have e : b = it := by simpa using hb
    subst e
    obtain ⟨ok, ov, e⟩ := st
    exact ⟨_, e, fun v z => nomatch z⟩
  keep := fun i h h' st k => let ⟨ok, ov, e⟩ := st; ⟨ok, ov, k it (by simp) _ e⟩
  item := by
    intro X hP hw hK hc i pins s σ H E I hf st hg
    subst hP hw hK
    obtain ⟨hd, hi⟩ := hg
    obtain ⟨hs, hgd, hx, es', ep', hdt, hsz, hz, ent⟩ := frz_raw I hd
    obtain ⟨rfl, rfl⟩ := dict_ep hod hdt
    obtain ⟨⟨k, v⟩, hkv⟩ : ∃ p, kvs[i]? = some p := ⟨kvs[i], List.getElem?_eq_getElem hi⟩
    obtain ⟨en, q, hen, hkey, hq, hval⟩ := ent i k v hkv
    obtain ⟨ok, ov, he⟩ := st
    rw [← hsz] at he
    have hi2 : i < es'.size := by omega
    obtain rfl : es'[i] = en := (Array.getElem?_eq_some_iff.mp hen).2
    have hlt : it < s.heap.objs.size := Heap.lt_size he
    refine DT.nextI he ⟨o, hgd, hx, hdt⟩ hi2 fun h' ho hT hz' hk => ?_
    refine ⟨_, rfl, wpAny_letOwnedTupleGo_items (s := { s with heap := h' }) ho fun h'' he' sb => ?_⟩
    have hT2 : h''.get? s.heap.objs.size = some { cls := .type "tuple", data := .seq #[es'[i].key, es'[i].val] } := (sb.2 _ (Nat.ne_of_gt hlt)).trans hT
    have new : ObjOk X.prog X.w (upd H s.heap.objs.size (.tup [.ref q, v])) h'' s.heap.objs.size (.tup [.ref q, v]) :=
      ⟨by show 2 ≤ sizeLine; decide, [es'[i].key, es'[i].val], .cons (show es'[i].key = .ref q from hkey) (.cons hval .nil), ⟨_, hT2, rfl, _, rfl⟩⟩
    have I1 : Inv X pins σ (upd H s.heap.objs.size (.tup [.ref q, v])) { s with heap := h'' } :=
      I.turnedNew (t' := s.toks) (ch := [it]) (fun b ob hb e => (sb.2 b (by simpa using hb)).trans (hk b ob (by simpa using hb) e)) hf (Nat.le_refl _) new
    refine ⟨.ref s.heap.objs.size, _, I1, rfl, ⟨_, q, k, v, hkv, rfl, I.hok.fresh (Nat.le_refl _), hq, rfl⟩, ⟨es'[i].key, es'[i].val, ?_⟩, fun b hb => ?_⟩
    · rw [← hsz]; exact he'
    · have e : b = it := by simpa using hb
      rw [e, upd_ne (Nat.ne_of_lt hlt)]
      exact (hf it (by simp)).1
  done := by
    intro X hP hw hK hc i pins s σ H E I hf st hg
    subst hP hw hK
    obtain ⟨hd, hi⟩ := hg
    obtain ⟨f0, f1, f2, f3, f4, f5⟩ := hf it (by simp)
    obtain ⟨hs, hgd, hx, es', ep', hdt, hsz, hz, ent⟩ := frz_raw I hd
    obtain ⟨rfl, rfl⟩ := dict_ep hod hdt
    obtain ⟨ok, ov, he⟩ := st
    rw [← hsz] at he
    exact DT.endI (I.ok.hd hc) he ⟨o, hgd, hx, hdt⟩ (by omega) fun h' eb => ⟨rfl, I.turned (t' := s.toks) (fun b ob hb e => eb b ob hb e) f0 f1 f3 f4 f5⟩
  self := fun A i s Q E st h => let ⟨_, _, e⟩ := st; PySem.W.kcp_self e h
end
def iItemsT (td : TE) : TI := fun σ H R => td σ H fun x H1 => ∃ d o kvs, x = .ref d ∧ H1 d = some (.frz o (.dT kvs)) ∧ R (Itit d o kvs) H1
section
variable {X : Cx} {e : Expr} {td : TE} {apos cpos : Pos}
theorem pi_itemsT {elts : List Expr} {kk : Nat} {tpos : Pos} (he : PE X e td) (hbase : attributeBase e "items" X.env (eval e X.env) = eval e X.env := by rfl) (hline : (apos.endLine == cpos.line) = true := by rfl) :
    PI X (.Tuple elts kk tpos) (.Call (.Attribute e "items" apos) [] [] cpos) (iItemsT td) := by
  refine ⟨fun pins s σ H R I h => ?_⟩
  refine wpAny_Call_method (T := "dict") (id := "dict.items") hbase rfl hline F.plainAttrs_dict F.slot_dict_items F.type_dict_items (thn (he.run pins s σ H _ I h) fun u s1 ⟨x, H1, I1, rx, d, o, kvs, ex, hd, q⟩ => ?_)
  subst ex
  obtain rfl : u = Value.ref d := rx
  obtain ⟨hs, hgd, hx, es, ep, hdt, hsz, hz, ent⟩ := frz_raw I1 hd
  have raw : DT.Raw s1.heap d es ep := ⟨o, hgd, hx, hdt⟩
  refine ⟨raw.typeIs, ?_, ?_⟩
  · intro a e
    injection e with e
    subst e
    exact ⟨o, hgd, hx.2.1⟩
  have I2 : Inv X pins σ H1 { s1 with heap := s1.heap.push { cls := .type "dict_items", data := .fields #[.ref d] } } := I1.kept (t' := s1.toks) fun b ob q => Heap.get?_push_of_some _ q
  have fin : wpAny (model X.prog X.w) X.A (pyIter (.ref s1.heap.objs.size)) (PIE X pins σ (.Tuple elts kk tpos) R) X.xe { s1 with heap := s1.heap.push { cls := .type "dict_items", data := .fields #[.ref d] } } := by
    refine DT.iterI (d := d) ⟨_, Heap.get?_push_size _ rfl, rfl, rfl⟩ (raw.push _) (pi_one (tk := s1.toks) I2 _ (turn_itemsT _ hdt) ⟨.none, .none, ?_⟩ q)
    rw [← hsz]
    exact Heap.get?_push_size _ rfl
  show wpAny _ _ (callWith cpos (.builtin "dict.items") [.ref d] [] []) _ X.xe s1
  exact method_meetsIn F.slot_dict_items F.entry_dict_items rfl (PySem.evalArgs_none ⟨rfl, raw.typeIs, F.args_dict_items_1 _, _, DT.meetsItems (es := es) (ep := ep) hs, raw, fin⟩)
end
/-! ### {k: v}, k a tuple -/
def tDisp1T (tk tv : TE) : TE := fun σ H Q => ∀ p, H p = none → tk σ (upd H p (.dT [])) fun y H1 => tv σ H1 fun z H2 => ∃ b k, y = .ref b ∧ H2 p = some (.dT []) ∧ H2 b = some (.tup (k.map kV)) ∧ Q (.ref p) (upd H2 p (.dT [(k, z)]))
theorem d_setT1 {X : Cx} {pins : List (Addr × Obj)} {σ : L2.St} {H : Hp} {s : Shared} {A : Around} {E : Value → Shared → Prop} {a b : Addr} {k : List Key} {v : V} {r : Value} {Q : Unit → Shared → Prop} (hu : A.units + 1 < cLine) (I : Inv X pins σ H s) (e : H a = some (.dT [])) (eb : H b = some (.tup (k.map kV))) (rv : RelV v r)
    (h : ∀ s', Inv X pins σ (upd H a (.dT [(k, v)])) s' → Q () s') : wpAny (model X.prog X.w) A (dictSet a (.ref b) r) Q E s := by
  obtain ⟨z, hd, xs, rel, dd⟩ := dt_of I.hok e
  have hz : xs.length ≤ sizeLine := by rw [← Paired.length rel]; exact z
  have hl : (putK ([] : List (List Key × V)) k v).length ≤ sizeLine := Nat.le_trans (length_putK [] k v) (by decide)
  refine wpAny_dictSet_heap (hsz := hz) (show A.units < cLine from Nat.lt_of_succ_lt hu) (key_of I.hok eb) dd fun h' dd' hs => h _ ?_
  obtain ⟨q, es, ep, hq, h2, h3, h4, _, h5⟩ := dd'
  refine d_write I (by rw [e]; exact True.intro) hs ⟨q, hq⟩ ⟨hl, hd, _, (rel.put k eb rv).keeps fun c ys ec => ?_, q, es, ep, hq, h2, h3, h4, h5⟩
  rw [upd_ne (ne_of ec e (fun z => nomatch z))]
  exact ec
theorem peDisp1T {X : Cx} {kx vx : Expr} {pos : Pos} {tk tv : TE} (hu : X.A.units + 1 < cLine) (hk : PE X kx tk) (hv : PE X vx tv) : PE X (.Dict [some kx] [vx] pos) (tDisp1T tk tv) := by
  refine ⟨fun pins s σ H Q I q => ?_⟩
  have hn := I.hok.fresh (Nat.le_refl s.heap.objs.size)
  have I1 : Inv X pins σ (upd H s.heap.objs.size (.dT [])) { s with heap := s.heap.push { cls := .type "dict", data := .dict #[] } } := I.laid (t' := s.toks) (fun _ _ q => Heap.get?_push_of_some _ q) (Nat.le_refl _) (dt_empty s.heap I.big)
  rw [arm_eval_Dict]
  refine wpAny_bind (wpAny_standAt ?_)
  have e : (evalEachOpt [some kx] X.env).zip ((evalEach [vx] X.env).map fun v => do let x ← v; standAt pos; pure x) = [((eval kx X.env), (do let x ← eval vx X.env; standAt pos; pure x))].map fun p => (some p.1, p.2) := rfl
  rw [e, dictDisplay_pairs _ (by simp) (by simp)]
  refine wpAny_bind ?_
  unfold subDict
  refine wpAny_bind (wpAny_alloc ?_)
  refine wpAny_bind (wpAny_holding ?_)
  rw [if_pos (by simp)]
  refine wpAny_bind (evalPairs_cons (thn (hk.run pins _ σ _ _ I1 (q _ hn)) fun u s2 ⟨y, H2, I2, ry, q2⟩ => wpAny_bind (thn (hv.run pins s2 σ H2 _ I2 q2) fun r s3 ⟨z, H3, I3, rz, q3⟩ => wpAny_bind (wpAny_standAt (wpAny_pure (evalPairs_nil ?_))))))
  obtain ⟨b, k, ey, hp, hb, q3⟩ := q3
  subst ey
  obtain rfl : u = Value.ref b := ry
  refine wpAny_holding (wpAny_bind ?_)
  rw [List.forIn_cons]
  refine wpAny_bind (wpAny_bind (d_setT1 hu I3 hp hb rz fun s' I' => wpAny_pure ?_))
  exact wpAny_pure (wpAny_pure (wpAny_pure (wpAny_pure ⟨.ref s.heap.objs.size, _, I', rfl, q3⟩)))
/-! ### dicts with tuples of ints as keys and known data as values; owned -/
abbrev T3 := List Int × V × PyData
abbrev t3F (t : T3) : List Key × V := (t.1.map Sum.inl, t.2.1)
abbrev dD (ts : List T3) : OD := .obj (.dT (ts.map t3F)) (ts.map fun t => t.2.1) (ts.map fun t => .dat t.2.2)
/-- what such a dict tells -/
abbrev t3D (ts : List T3) : List (List Int × PyData) := ts.map fun t => (t.1, t.2.2)
def putM (m : List (List Int × PyData)) (k : List Int) (d : PyData) : List (List Int × PyData) :=
  if m.any (fun p => decide (p.1 = k)) then m.map fun p => if p.1 = k then (p.1, d) else p else m ++ [(k, d)]
def putT (ts : List T3) (k : List Int) (v : V) (d : PyData) : List T3 :=
  if ts.any (fun p => decide (p.1 = k)) then ts.map fun p => if p.1 = k then (p.1, v, d) else p else ts ++ [(k, v, d)]
def getM : List (List Int × PyData) → List Int → Option PyData
  | [], _ => none
  | p :: m, k => if p.1 = k then some p.2 else getM m k
theorem t3D_put (ts : List T3) (k : List Int) (v : V) (d : PyData) : t3D (putT ts k v d) = putM (t3D ts) k d := by
  unfold putT putM
  have e : ((t3D ts).any fun p => decide (p.1 = k)) = ts.any fun p => decide (p.1 = k) := by
    rw [List.any_map]
    rfl
  rw [e]
  by_cases h : (ts.any fun p => decide (p.1 = k)) = true
  · rw [if_pos h, if_pos h]
    show List.map (fun t : T3 => (t.1, t.2.2)) (List.map _ ts) = List.map _ (List.map (fun t : T3 => (t.1, t.2.2)) ts)
    rw [List.map_map, List.map_map]
    congr 1
    funext p
    show ((if p.1 = k then (p.1, v, d) else p).1, (if p.1 = k then (p.1, v, d) else p).2.2) = if p.1 = k then (p.1, d) else (p.1, p.2.2)
    by_cases z : p.1 = k
    · rw [if_pos z, if_pos z]
    · rw [if_neg z, if_neg z]
  · rw [if_neg h, if_neg h]
    show List.map (fun t : T3 => (t.1, t.2.2)) (ts ++ _) = _
    rw [List.map_append]
    rfl
theorem putT_map (ts : List T3) (k : List Int) (v : V) (d : PyData) : putK (ts.map t3F) (k.map Sum.inl) v = (putT ts k v d).map t3F := by
  unfold putK putT
  have e : ((ts.map t3F).any fun kv => decide (kv.1 = k.map Sum.inl)) = ts.any fun p => decide (p.1 = k) := by
    rw [List.any_map]
    congr 1
    funext p
    show decide ((t3F p).1 = k.map Sum.inl) = decide (p.1 = k)
    by_cases h : p.1 = k
    · rw [decide_eq_true h, decide_eq_true (show p.1.map (Sum.inl : Int → Key) = k.map Sum.inl by rw [h])]
    · rw [decide_eq_false h, decide_eq_false fun z => h (inl_inj z)]
  rw [e]
  by_cases h : (ts.any fun p => decide (p.1 = k)) = true
  · rw [if_pos h, if_pos h, List.map_map, List.map_map]
    congr 1
    funext p
    show (if (t3F p).1 = k.map Sum.inl then ((t3F p).1, v) else t3F p) = t3F (if p.1 = k then (p.1, v, d) else p)
    by_cases z : p.1 = k
    · rw [if_pos z, if_pos (show (t3F p).1 = k.map Sum.inl by show p.1.map _ = _; rw [z])]
    · rw [if_neg z, if_neg fun q => z (inl_inj q)]
  · rw [if_neg h, if_neg h, List.map_append]
    rfl
theorem putT_len (ts : List T3) (k : List Int) (v : V) (d : PyData) : (putT ts k v d).length ≤ ts.length + 1 := by
  unfold putT
  split
  · rw [List.length_map]; omega
  · rw [List.length_append]; exact Nat.le_refl _
theorem putT_all {K : PySem.W.Frag} {Hk : Hp} {k : List Int} {v : V} {d : PyData} (hv : Da Hk v d) {ts : List T3} (h : SDall K Hk (ts.map fun t => t.2.1) (ts.map fun t => .dat t.2.2)) : SDall K Hk ((putT ts k v d).map fun t => t.2.1) ((putT ts k v d).map fun t => .dat t.2.2) := by
  unfold putT
  by_cases z : (ts.any fun p => decide (p.1 = k)) = true
  · rw [if_pos z]
    clear z
    induction ts with
    | nil => exact .nil
    | cons t ts ih =>
      cases h with
      | cons h1 h2 =>
        refine .cons ?_ (ih h2)
        show SDok K Hk (if t.1 = k then (t.1, v, d) else t).2.1 (.dat (if t.1 = k then (t.1, v, d) else t).2.2)
        by_cases y : t.1 = k
        · rw [if_pos y]
          exact hv
        · rw [if_neg y]
          exact h1
  · rw [if_neg z, List.map_append, List.map_append]
    exact h.append (.cons hv .nil)
theorem getT_some {K : PySem.W.Frag} {Hk : Hp} {k : List Int} {d : PyData} : ∀ {ts : List T3}, SDall K Hk (ts.map fun t => t.2.1) (ts.map fun t => .dat t.2.2) → getM (t3D ts) k = some d → ∃ v, valV (ts.map t3F) (k.map Sum.inl) = some v ∧ Da Hk v d
  | [], _, h => by cases h
  | t :: ts, .cons h1 h2, h => by
    by_cases z : t.1 = k
    · have h : (if t.1 = k then some t.2.2 else getM (t3D ts) k) = some d := h
      rw [if_pos z] at h
      cases h
      exact ⟨t.2.1, valV_pos (show (t3F t).1 = _ by show t.1.map _ = _; rw [z]), h1⟩
    · have h : (if t.1 = k then some t.2.2 else getM (t3D ts) k) = some d := h
      rw [if_neg z] at h
      obtain ⟨v, e1, e2⟩ := getT_some h2 h
      refine ⟨v, ?_, e2⟩
      show valV (t3F t :: ts.map t3F) _ = _
      rw [valV_neg (show ¬ (t3F t).1 = k.map Sum.inl from fun q => z (inl_inj q))]
      exact e1
theorem getT_none {k : List Int} : ∀ {ts : List T3}, (valV (ts.map t3F) (k.map Sum.inl)).isSome = (getM (t3D ts) k).isSome
  | [] => rfl
  | t :: ts => by
    show (valV (t3F t :: ts.map t3F) _).isSome = (if t.1 = k then some t.2.2 else getM (t3D ts) k).isSome
    by_cases z : t.1 = k
    · rw [if_pos z, valV_pos (show (t3F t).1 = k.map Sum.inl by show t.1.map _ = _; rw [z])]
      rfl
    · rw [if_neg z, valV_neg (show ¬ (t3F t).1 = k.map Sum.inl from fun q => z (inl_inj q))]
      exact getT_none
section
variable {K : PySem.W.Frag} {Hk Hk' H H' : Hp} {O O' Oa : Own} {ds : List SD} {σ : L2.St} {Q : SD → Own → Prop} {Q' : VK} {x y : SD} {A : AE} {D : Ends} {t u : TS} {te td to ti tk tv : TE}
theorem keyAt {v : V} {ks : List Int} (h : Hold K Hk O H) (d : Da Hk v (tI ks)) : ∃ b, v = .ref b ∧ H b = some (.tup ((ks.map (Sum.inl : Int → Key)).map kV)) := by
  cases d with
  | @tup b xs _ b1 b2 =>
    refine ⟨b, rfl, ?_⟩
    rw [← b2.keys]
    exact h.kn _ _ b1
/-- {} -/
theorem w_dnewD (q : ∀ l, Q (.ad l) ((l, dD []) :: O)) : EvW K tDNewT O ds Q := fun Hk σ H p Q' k l hf =>
  k _ (.ad l) _ Hk _ (Same.refl _) (p.hold.ownG (x := dD []) hf ⟨upd_same, .nil⟩) rfl (q l)
/-- d[k] = e -/
theorem s_setM (h : EvW K te O ds fun r O1 => EvW K to O1 ds fun ro O2 => EvW K ti O2 ds fun ri O3 =>
    ∃ a ts ks d Oa, r = .dat d ∧ ro = .ad a ∧ ri = .dat (tI ks) ∧ O3.Perm ((a, dD ts) :: Oa) ∧ ts.length ≤ 1000000 ∧ ∀ ts2, t3D ts2 = putM (t3D ts) ks d → A.nx ((a, dD ts2) :: Oa) ds) : StW K (tAsg te (gSub to ti rSetD)) O ds A := fun Hk σ H D p l =>
  h Hk σ H p _ fun v r O1 Hk1 H1 e1 h1 s1 q1 => q1 Hk1 σ H1 (p.ext e1 h1) _ fun vo ro O2 Hk2 H2 e2 h2 s2 q2 => q2 Hk2 σ H2 ((p.ext e1 h1).ext e2 h2) _ fun vi ri O3 Hk3 H3 e3 h3 s3 q3 => by
    obtain ⟨a, ts, ks, d, Oa, rfl, rfl, rfl, hp, hl, q⟩ := q3
    cases (show vo = .ref a from s2)
    have h' := h3.perm hp
    obtain ⟨⟨g1, g2⟩, ka⟩ := h'.ow _ List.mem_cons_self
    obtain ⟨b, rfl, eb⟩ := keyAt h3 (show Da Hk3 vi (tI ks) from s3)
    refine ⟨a, _, rfl, DPut.t (v := v) g1 eb (by rw [List.length_map]; exact Nat.lt_of_le_of_lt hl (by decide)), ?_⟩
    rw [putT_map ts ks v d]
    refine l.nx _ ds Hk3 σ _ (e1.trans (e2.trans e3)) (p.ext (e1.trans (e2.trans e3)) (h'.writeG (y := dD (putT ts ks v d)) ⟨upd_same, putT_all (Da.mono (e2.trans e3) s1) g2⟩)) (q _ (t3D_put ts ks v d))
/-- d[k] -/
theorem w_dgetD (h : EvW K td O ds fun r O1 => EvW K ti O1 ds fun r2 O2 => ∃ a ts ks d, r = .ad a ∧ (a, dD ts) ∈ O2 ∧ r2 = .dat (tI ks) ∧ getM (t3D ts) ks = some d ∧ Q (.dat d) O2) : EvW K (tDGet td ti) O ds Q := fun Hk σ H p Q' k =>
  h Hk σ H p _ fun v r O1 Hk1 H1 e1 h1 s1 q1 => q1 Hk1 σ H1 (p.ext e1 h1) _ fun u r2 O2 Hk2 H2 e2 h2 s2 q2 => by
    obtain ⟨a, ts, ks, d, rfl, hm, rfl, hg, q⟩ := q2
    cases (show v = .ref a from s1)
    obtain ⟨⟨g1, g2⟩, ka⟩ := h2.ow _ hm
    obtain ⟨b, rfl, eb⟩ := keyAt h2 (show Da Hk2 u (tI ks) from s2)
    obtain ⟨z, hz, hd⟩ := getT_some g2 hg
    exact ⟨a, z, rfl, by rw [← hz]; exact DGet.t g1 eb, k z (.dat d) O2 Hk2 H2 (e1.trans e2) h2 hd q⟩
/-- k not in d -/
theorem w_dninD (h : EvW K ti O ds fun r2 O1 => EvW K td O1 ds fun r O2 => ∃ a ts ks, r = .ad a ∧ (a, dD ts) ∈ O2 ∧ r2 = .dat (tI ks) ∧ Q (bV (!(getM (t3D ts) ks).isSome)) O2) : EvW K (tDNotIn ti td) O ds Q := fun Hk σ H p Q' k =>
  h Hk σ H p _ fun u r2 O1 Hk1 H1 e1 h1 s1 q1 => q1 Hk1 σ H1 (p.ext e1 h1) _ fun v r O2 Hk2 H2 e2 h2 s2 q2 => by
    obtain ⟨a, ts, ks, rfl, hm, rfl, q⟩ := q2
    cases (show v = .ref a from s2)
    obtain ⟨⟨g1, g2⟩, ka⟩ := h2.ow _ hm
    obtain ⟨b, rfl, eb⟩ := keyAt h2 (Da.mono e2 (show Da Hk1 u (tI ks) from s1))
    refine ⟨a, _, rfl, DGet.t g1 eb, ?_⟩
    rw [getT_none]
    exact k _ (bV _) O2 Hk2 H2 (e1.trans e2) h2 (.bl _) q
/-- {k: v} -/
theorem w_disp1 (h : ∀ l, EvW K tk ((l, dD []) :: O) ds fun r O1 => EvW K tv O1 ds fun r2 O2 => ∃ ks d Oa, r = .dat (tI ks) ∧ r2 = .dat d ∧ O2.Perm ((l, dD []) :: Oa) ∧ ∀ v, Q (.ad l) ((l, dD [(ks, v, d)]) :: Oa)) : EvW K (tDisp1T tk tv) O ds Q := fun Hk σ H p Q' k l hf => by
  have h0 : Hold K Hk ((l, dD []) :: O) (upd H l (.dT [])) := p.hold.ownG (x := dD []) hf ⟨upd_same, .nil⟩
  refine h l Hk σ _ (p.ext (Same.refl _) h0) _ fun u r O1 Hk1 H1 e1 h1 s1 q1 => q1 Hk1 σ H1 ((p.ext (Same.refl _) h0).ext e1 h1) _ fun z r2 O2 Hk2 H2 e2 h2 s2 q2 => ?_
  obtain ⟨ks, d, Oa, rfl, rfl, hp, q⟩ := q2
  have h3 := h2.perm hp
  obtain ⟨⟨g1, _⟩, _⟩ := h3.ow _ List.mem_cons_self
  obtain ⟨b, rfl, eb⟩ := keyAt h2 (Da.mono e2 (show Da Hk1 u (tI ks) from s1))
  exact ⟨b, _, rfl, g1, eb, k _ (.ad l) _ Hk2 _ (e1.trans e2) (h3.writeG (y := dD [(ks, z, d)]) ⟨upd_same, .cons s2 .nil⟩) rfl (q z)⟩
end
/-! ### what is known, but for one locked dict -/
def NoD : HO → Prop
  | .frz _ (.dT _) => False
  | _ => True
def unk (H : Hp) (a : Addr) : Hp := fun b => if b = a then none else H b
def SameN (H H' : Hp) : Prop := ∀ b x, H b = some x → NoD x → H' b = some x
theorem SameN.unk {Hk : Hp} {a : Addr} {od : Obj} {kvs : List (List Key × V)} (h : Hk a = some (.frz od (.dT kvs))) : SameN Hk (unk Hk a) := fun b x e n => by
  unfold Wk.unk
  by_cases z : b = a
  · subst z
    rw [h] at e
    cases e
    exact n.elim
  · rw [if_neg z]
    exact e
mutual
theorem Da.nof {H H' : Hp} (e : SameN H H') : ∀ {v : V} {d : PyData}, Da H v d → Da H' v d
  | _, _, .non => .non
  | _, _, .bl b => .bl b
  | _, _, .int i => .int i
  | _, _, .str x => .str x
  | _, _, .lst h r => .lst (e _ _ h True.intro) (DaAll.nof e r)
  | _, _, .tup h r => .tup (e _ _ h True.intro) (DaAll.nof e r)
theorem DaAll.nof {H H' : Hp} (e : SameN H H') : ∀ {vs : List V} {ds : List PyData}, DaAll H vs ds → DaAll H' vs ds
  | _, _, .nil => .nil
  | _, _, .cons h r => .cons (Da.nof e h) (DaAll.nof e r)
end
theorem SqL.nof {K : PySem.W.Frag} {H H' : Hp} (e : SameN H H') {a : Addr} {xs : List V} : SqL K H a xs → SqL K H' a xs
  | .inl (.inl h) => .inl (.inl (e _ _ h True.intro))
  | .inl (.inr ⟨o, h⟩) => .inl (.inr ⟨o, e _ _ h True.intro⟩)
  | .inr h => .inr h
theorem XOok.nof {H H' : Hp} (e : SameN H H') {a C : Addr} : ∀ {fs : Option (Str × PyData)}, XOok H a C fs → XOok H' a C fs
  | none, h => e _ _ h True.intro
  | some (f, x), ⟨d, v, h2, h3, h4⟩ => ⟨d, v, e _ _ h2 True.intro, e _ _ h3 True.intro, Da.nof e h4⟩
theorem XDok.nof {H H' : Hp} (e : SameN H H') {cls : Value} {d : Option Addr} {C : Addr} : ∀ {fs : Option (Str × PyData)}, XDok H cls d C fs → XDok H' cls d C fs
  | none, h => h
  | some (f, x), ⟨h1, dd, v, h2, h3, h4⟩ => ⟨h1, dd, v, h2, e _ _ h3 True.intro, Da.nof e h4⟩
theorem SDok.nof {K : PySem.W.Frag} {H H' : Hp} (e : SameN H H') {v : V} : ∀ {r : SD}, SDok K H v r → SDok K H' v r
  | .non, _ => trivial
  | .dat _, h => Da.nof e h
  | .ad _, h => h
  | .scr _, ⟨a, h1, h2⟩ => ⟨a, h1, SqL.nof e h2⟩
  | .ty _, h => h
  | .dic _, ⟨a, vs, h1, h2, h3, h4⟩ => ⟨a, vs, h1, e _ _ h2 True.intro, h3, DaAll.nof e h4⟩
  | .exc .., ⟨h1, h2⟩ => ⟨h1, h2.nof e⟩
  | .xob .., ⟨a, h1, h2⟩ => ⟨a, h1, h2.nof e⟩
theorem SDall.nof {K : PySem.W.Frag} {H H' : Hp} (e : SameN H H') : ∀ {vs : List V} {rs : List SD}, SDall K H vs rs → SDall K H' vs rs
  | _, _, .nil => .nil
  | _, _, .cons h r => .cons (h.nof e) (SDall.nof e r)
theorem ODok.nof {K : PySem.W.Frag} {Hk Hk' H H' : Hp} {a : Addr} {x : OD} (e : SameN Hk Hk') (h : ODok K Hk H a x) (ha : H' a = H a) : ODok K Hk' H' a x := by
  cases x with
  | lst rs => obtain ⟨vs, h, q⟩ := h; exact ⟨vs, ha.trans h, q.nof e⟩
  | dK rs => obtain ⟨vs, h, k, q⟩ := h; exact ⟨vs, ha.trans h, k, q.nof e⟩
  | tup rs => obtain ⟨vs, h, q⟩ := h; exact ⟨vs, ha.trans h, q.nof e⟩
  | lstX vs rs => obtain ⟨h, q⟩ := h; exact ⟨ha.trans h, q.nof e⟩
  | obj o vs rs => obtain ⟨h, q⟩ := h; exact ⟨ha.trans h, q.nof e⟩
/-- what is owned is no tuple -/
def NoTup : OD → Prop
  | .tup _ => False
  | .obj (.dT _) _ _ => True
  | .obj _ _ _ => False
  | _ => True
section
variable {K : PySem.W.Frag} {Hk Hk' H H' : Hp} {O O' Oa : Own} {ds : List SD} {σ : L2.St} {A : AE} {D : Ends} {tb : TS}
theorem notup {a : Addr} {x : OD} {xs : List V} (h : ODok K Hk H a x) (n : NoTup x) (e : H a = some (.tup xs)) : False := by
  cases x with
  | lst rs => obtain ⟨vs, h, q⟩ := h; rw [h] at e; cases e
  | dK rs => obtain ⟨vs, h, k, q⟩ := h; rw [h] at e; cases e
  | tup rs => exact n
  | lstX vs rs => obtain ⟨h, q⟩ := h; rw [h] at e; cases e
  | obj o vs rs =>
    obtain ⟨h, q⟩ := h
    rw [h] at e
    cases e
    exact n
/-- an owned dict is locked: it is known, and no more owned -/
theorem Hold.lock {a : Addr} {x : OD} {od : Obj} {u : HO} (h : Hold K Hk ((a, x) :: Oa) H) : Hold K (upd Hk a (.frz od u)) Oa (upd H a (.frz od u)) := by
  have ka : Hk a = none := (h.ow (a, x) List.mem_cons_self).2
  have nd := h.nd
  rw [List.map_cons, List.nodup_cons] at nd
  refine ⟨fun b y e => ?_, fun q hq => ?_, nd.2⟩
  · by_cases z : b = a
    · subst z
      rw [upd_same] at e ⊢
      exact e
    · rw [upd_ne z] at e ⊢
      exact h.kn b y e
  · have ne : q.1 ≠ a := fun z => nd.1 (List.mem_map.mpr ⟨q, hq, z⟩)
    obtain ⟨h1, h2⟩ := h.ow q (List.mem_cons_of_mem _ hq)
    exact ⟨h1.mono (same_new ka) (upd_ne ne), by rw [upd_ne ne]; exact h2⟩
/-- and back -/
theorem Pt.unlock {a : Addr} {x : OD} {od : Obj} {kvs : List (List Key × V)} (p : Pt K Hk Oa ds σ H) (ha : Hk a = some (.frz od (.dT kvs))) (hx : ODok K (unk Hk a) (upd H a (.dT kvs)) a x) : Pt K (unk Hk a) ((a, x) :: Oa) ds σ (upd H a (.dT kvs)) := by
  have e := SameN.unk ha
  have off : ∀ q ∈ Oa, q.1 ≠ a := fun q hq z => by
    have := (p.hold.ow q hq).2
    rw [z, ha] at this
    cases this
  refine ⟨⟨fun b y e' => ?_, fun q hq => ?_, ?_⟩, p.len, fun i r hr => (p.env i r hr).imp id fun ⟨v, h1, h2⟩ => ⟨v, h1, h2.nof e⟩⟩
  · unfold unk at e'
    by_cases z : b = a
    · rw [if_pos z] at e'
      cases e'
    · rw [if_neg z] at e'
      rw [upd_ne z]
      exact p.hold.kn b y e'
  · rcases List.mem_cons.mp hq with rfl | hq
    · exact ⟨hx, by unfold unk; rw [if_pos rfl]⟩
    · obtain ⟨h1, h2⟩ := p.hold.ow q hq
      exact ⟨h1.nof e (upd_ne (off q hq)), by unfold unk; rw [if_neg (off q hq)]; exact h2⟩
  · rw [List.map_cons, List.nodup_cons]
    refine ⟨fun z => ?_, p.hold.nd⟩
    obtain ⟨q, hq, e'⟩ := List.mem_map.mp z
    exact off q hq e'
/-- a tuple that stands anyway is known -/
theorem Hold.tell_tup {q : Addr} {xs : List V} (h : Hold K Hk O H) (hq : H q = some (.tup xs)) (hn : ∀ p ∈ O, NoTup p.2) : ∃ Hk2, Same Hk Hk2 ∧ Hold K Hk2 O H ∧ Hk2 q = some (.tup xs) := by
  cases e : Hk q with
  | some x =>
    have := h.kn q x e
    rw [hq] at this
    cases this
    exact ⟨Hk, Same.refl _, h, e⟩
  | none =>
    refine ⟨upd Hk q (.tup xs), same_new e, ⟨fun b y e' => ?_, fun p hp => ?_, h.nd⟩, upd_same⟩
    · by_cases z : b = q
      · subst z
        rw [upd_same] at e'
        rw [← e']
        exact hq
      · rw [upd_ne z] at e'
        exact h.kn b y e'
    · obtain ⟨h1, h2⟩ := h.ow p hp
      have ne : p.1 ≠ q := fun z => notup h1 (hn p hp) (by rw [z]; exact hq)
      exact ⟨h1.mono (same_new e) rfl, by rw [upd_ne ne]; exact h2⟩
end
section
variable {K : PySem.W.Frag} {O Oa : Own} {ds : List SD} {A : AE} {tb : TS}
/-- for k, (x, y) in d.items(), the dict owned, each value a pair -/
theorem s_forIT {i j0 j1 j2 : Nat} {a : Addr} {ts : List T3} (hi : ds[i]? = some (.ad a)) (hp : O.Perm ((a, dD ts) :: Oa)) (hv : ∀ t ∈ ts, ∃ d1 d2, t.2.2 = .tuple [d1, d2]) (I : Nat → Own → List SD → Prop) (hI : ∀ n O2 ds2, I n O2 ds2 → ∀ p ∈ O2, NoTup p.2) (h0 : I 0 Oa ds)
    (hs : ∀ n k v d1 d2 O2 ds2, ts[n]? = some (k, v, .tuple [d1, d2]) → I n O2 ds2 → StW K tb O2 (((ds2.set j0 (.dat (tI k))).set j1 (.dat d1)).set j2 (.dat d2)) ⟨I (n + 1), fun _ _ => False, fun _ _ => False, I (n + 1), A.xt⟩)
    (hd : ∀ O2 ds2, I ts.length O2 ds2 → A.nx ((a, dD ts) :: O2) ds2) :
    StW K (tLock (tFor (iItemsT (tVar i)) (gTup K 2 (gCons (gName j0) (gCons (gTup K 2 (gCons (gName j1) (gCons (gName j2) gNil))) gNil))) tb)) O ds A := fun Hk σ H D p l => by
  rcases p.env i (.ad a) hi with z | ⟨va, hva, hsa⟩
  · cases z
  cases (show va = .ref a from hsa)
  have hh := p.hold.perm hp
  obtain ⟨⟨g1, g2⟩, ka⟩ := hh.ow _ List.mem_cons_self
  refine ⟨a, _, g1, True.intro, fun od => ?_⟩
  have h1 : Hold K (upd Hk a (.frz od (.dT (ts.map t3F)))) Oa (upd H a (.frz od (.dT (ts.map t3F)))) := hh.lock
  have sm : Same Hk (upd Hk a (.frz od (.dT (ts.map t3F)))) := same_new ka
  have lenk : (ts.map t3F).length = ts.length := List.length_map ..
  refine ⟨.ref a, hva, a, od, _, rfl, upd_same, fun n m σ' H' => m = ts.length - n ∧ n ≤ ts.length ∧ ∃ O2 ds2 Hk2, Same (upd Hk a (.frz od (.dT (ts.map t3F)))) Hk2 ∧ Pt K Hk2 O2 ds2 σ' H' ∧ I n O2 ds2, ⟨ts.length, by omega, Nat.zero_le _, Oa, ds, _, Same.refl _, p.ext sm h1, h0⟩, ?_⟩
  rintro n m σ' H' ⟨rfl, hn, O2, ds2, Hk2, e2, p2, q⟩
  have fa : Hk2 a = some (.frz od (.dT (ts.map t3F))) := e2 _ _ upd_same
  have fH : H' a = some (.frz od (.dT (ts.map t3F))) := p2.hold.kn _ _ fa
  by_cases hlt : n < ts.length
  · refine .inr ⟨⟨fH, by rw [lenk]; exact hlt⟩, fun σ2 H2 => ∃ O2 ds2 Hk2, Same (upd Hk a (.frz od (.dT (ts.map t3F)))) Hk2 ∧ Pt K Hk2 O2 ds2 σ2 H2 ∧ I (n + 1) O2 ds2, fun σ2 H2 hN => ⟨ts.length - (n + 1), by omega, rfl, hlt, hN⟩, fun x H2 y => ?_⟩
    obtain ⟨T, b, k', v', hk', rfl, nT, hb, rfl⟩ := y
    have ht : ts[n]? = some ts[n] := List.getElem?_eq_getElem hlt
    rw [List.getElem?_map, ht] at hk'
    obtain ⟨⟨d1, d2, ed⟩⟩ : Nonempty _ := ⟨hv _ (List.getElem_mem hlt)⟩
    generalize ts[n] = t at ht hk' ed
    obtain ⟨k, v, d⟩ := t
    have ed : d = .tuple [d1, d2] := ed
    subst ed
    cases hk'
    obtain ⟨Hk3, e3, h3, hb3⟩ := p2.hold.tell_tup hb (hI n O2 ds2 q)
    have sT : Same Hk3 (upd Hk3 T (.tup [.ref b, v])) := same_new (h3.kn.free nT)
    have p4 : Pt K (upd Hk3 T (.tup [.ref b, v])) O2 ds2 σ' (upd H' T (.tup [.ref b, v])) := p2.ext (e3.trans sT) (h3.know nT)
    have hgv : Da Hk v (.tuple [d1, d2]) := by
      have e : (ts.map fun t => SD.dat t.2.2)[n]? = some (.dat (.tuple [d1, d2])) := by rw [List.getElem?_map, ht]; rfl
      obtain ⟨v2, q1, q2⟩ := g2.get e
      rw [List.getElem?_map, ht] at q1
      cases q1
      exact q2
    have hgv4 := Da.mono (sm.trans (e2.trans (e3.trans sT))) hgv
    cases hgv4 with
    | @tup c xs _ c1 c2 =>
      cases c2 with
      | cons x1 c2 =>
        cases c2 with
        | cons x2 c2 =>
          cases c2
          have hkey : Da (upd Hk3 T (.tup [.ref b, .ref c])) (.ref b) (tI k) := by
            refine .tup (sT _ _ hb3) ?_
            rw [List.map_map]
            exact DaAll.of_ints k
          refine ⟨T, _, rfl, .inl (.inl upd_same), rfl, .ref b, _, rfl, .ref c, _, rfl, ⟨c, _, rfl, .inl (.inl (p4.hold.kn _ _ c1)), rfl, _, _, rfl, _, _, rfl, rfl, rfl, ?_⟩⟩
          exact hs n k (.ref c) d1 d2 O2 ds2 ht q _ _ _ _ (((p4.set (j := j0) (r := .dat (tI k)) hkey).set (j := j1) (r := .dat d1) x1).set (j := j2) (r := .dat d2) x2)
            ⟨fun O5 ds5 Hk5 σ5 H5 e5 p5 q5 => ⟨O5, ds5, Hk5, (e2.trans (e3.trans sT)).trans e5, p5, q5⟩, fun r O5 Hk5 H5 e5 _ _ _ q5 => q5.elim, fun O5 ds5 Hk5 σ5 H5 e5 p5 q5 => q5.elim, fun O5 ds5 Hk5 σ5 H5 e5 p5 q5 => ⟨O5, ds5, Hk5, (e2.trans (e3.trans sT)).trans e5, p5, q5⟩, l.xt.ext (sm.trans (e2.trans (e3.trans sT)))⟩
  · have en : n = ts.length := by omega
    subst en
    have su : Same Hk (unk Hk2 a) := fun b y e => by
      unfold unk
      have ne : b ≠ a := ne_of_none e ka
      rw [if_neg ne]
      exact e2 _ _ (sm _ _ e)
    exact .inl ⟨⟨fH, Nat.le_of_eq lenk⟩, fH, l.nx _ ds2 _ σ' _ su (p2.unlock fa (x := dD ts) ⟨upd_same, g2.mono su⟩) (hd O2 ds2 q)⟩
end
/-! ### min(d.values(), default=x), d of one pair -/
/-- the view d.values() at p -/
def valsO (p d : Addr) : HO := .ext fun h => h.IsValuesView p d
theorem valsO_ok {P : Program} {w : World} {H : Hp} {h : Heap} {p d : Addr} (e : h.get? p = some { cls := .type "dict_values", data := .fields #[.ref d] }) : ObjOk P w H h p (valsO p d) :=
  ⟨⟨_, e, rfl, rfl⟩, ⟨_, e⟩, fun h1 h2 x k => let ⟨o, ho, r⟩ := x; ⟨o, k o ho, r⟩⟩
theorem walks_vals {prog : Program} {w : World} {A : Around} {es : Array DictEntry} {ep : Nat} (hh : A.handled = none) (I d : Addr) (hne : d ≠ I) :
    Walks prog w A I [I, d] [I] es.size (fun i v => ∃ en : DictEntry, es[i]? = some en ∧ v = en.val) (fun i h => h.IsValIter I d i es.size ep ∧ h.DictRaw d es ep) where
  sub := fun b hb => by simp at hb; simp [hb]
  frame := fun _ _ _ st hk => ⟨st.1.at fun ob e => hk I (by simp) ob e, st.2.at fun ob e => hk d (by simp) ob e⟩
  item := fun i s Q E hi st hQ => by
    have hx : es[i]? = some es[i] := Array.getElem?_eq_getElem hi
    refine wpAny_pyNext_values_item_raw st.1 st.2 hi fun h' hit' sb => ?_
    exact hQ _ h' s.toks ⟨_, hx, rfl⟩ ⟨hit', st.2.at fun ob e => (sb.2 d hne).trans e⟩ fun b ob hb e => (sb.2 b (fun z => hb (by simp [z]))).trans e
  done := fun s Q E st hQ => wpAny_pyNext_values_end_raw hh st.1 st.2 (Nat.le_refl _) fun h' he' => hQ h' s.toks fun b ob hb e => he' b ob (fun z => hb (by simp [z])) e
  self := fun _ _ _ _ st hQ => wpAny_pyIter_valiter st.1 hQ
section
variable {X : Cx}
def rValsT : V → List V → Hp → VK → Prop := fun x xs H Q => ∃ (a : Addr) (kvs : List (List Key × V)), x = .ref a ∧ xs = [] ∧ H a = some (.dT kvs) ∧ ∀ p, H p = none → Q (.ref p) (upd H p (valsO p a))
theorem mt_valsT : MtR X "dict.values" rValsT := by
  intro pins s σ H x xs v us Q I rx rxs h
  obtain ⟨a, kvs, rfl, rfl, ha, q⟩ := h
  cases rx
  cases rxs
  obtain ⟨z, hd, xs', rel, o, es, ep, ho, hx, hdat, _⟩ := dt_of I.hok ha
  have raw : s.heap.DictRaw a es ep := ⟨o, ho, hx, hdat⟩
  refine call_meetsIn PySem.F.slot_dict_values raw.typeIs PySem.F.entry_dict_values (PySem.F.args_dict_values_1 _) (meets_dict_values_raw a hd) ⟨⟨es, ep, raw⟩, ?_⟩
  have hf : H s.heap.objs.size = none := I.hok.fresh (Nat.le_refl _)
  exact ⟨.ref s.heap.objs.size, upd H s.heap.objs.size (valsO s.heap.objs.size a), I.laid (t' := s.toks) (fun b u e => Heap.get?_push_of_some _ e) (Nat.le_refl _) (valsO_ok (Heap.get?_push_size _ rfl)), rfl, q _ hf⟩
def rMinV (K : PySem.W.Frag) : List V → List V → Hp → VK → Prop := fun vs zs H Q => ∃ (p a : Addr) (k : List Key) (z y : V) (d : PyData), vs = [.ref p] ∧ zs = [y] ∧ H p = some (valsO p a) ∧ H a = some (.dT [(k, z)]) ∧ Dp K H z d ∧ PySem.W.alike d d = true ∧ d ≠ .none ∧ d.depth ≤ 62 ∧ Q z H
theorem cr_minV (hc : X.calm = true) (hu : X.A.units + 64 < cLine) : CallRK X (.builtin "min") [Str.ofString "default"] (rMinV X.K) := by
  intro pins s σ H vs zs us ws Q I rv rz h
  obtain ⟨p, a, k, z, y, d, rfl, rfl, hp, ha, hd, al, hn, dp, q⟩ := h
  cases rv with
  | cons r1 rv =>
    cases rv
    cases rz with
    | cons r2 rz =>
      cases rz
      cases r1
      rename_i yv
      obtain ⟨zz, hs, xs', rel, o, es, ep, ho, hx, hdat, hes, _⟩ := dt_of I.hok ha
      obtain ⟨en, rfl, hen⟩ : ∃ en : DictEntry, es = #[en] ∧ RelV z en.val := by
        unfold KT at rel
        cases rel with
        | cons r rr =>
          cases rr
          refine ⟨_, Array.toList_inj.mp (hes.trans rfl), r.2.2⟩
      obtain ⟨as, rd⟩ := Dp.reads I d z _ hd hen
      have raw : s.heap.DictRaw a #[en] ep := ⟨o, ho, hx, hdat⟩
      have alt : a < s.heap.objs.size := Heap.lt_size ho
      have hview : s.heap.IsValuesView p a := (show _ ∧ _ from I.hok p _ hp).1
      have hP : ∀ (i : Nat) (v : Value), (∃ e : DictEntry, (#[en] : Array DictEntry)[i]? = some e ∧ v = e.val) → v = en.val := by
        rintro i v ⟨e, h1, rfl⟩
        have hi := (Array.getElem?_eq_some_iff.mp h1).1
        have : i = 0 := by simp at hi; exact hi
        subst this
        cases h1
        rfl
      show wpAny _ _ (call (.builtin "min") [.ref p] [(Str.ofString "default", yv)]) _ _ s
      refine call_min_walkD (wpAny_pyIter_values_raw hview raw ?_)
      refine ⟨s.heap.objs.size, [s.heap.objs.size, a], [s.heap.objs.size], fun a b => b = a, 1, _, _, s.heap, fun _ _ => PySem.W.dataLt d d, rfl, (walks_vals (es := #[en]) (ep := ep) (A := X.A.in1) (show X.A.in1.handled = none from I.ok.hd hc) _ a (Nat.ne_of_lt alt)).toS, ⟨⟨_, Heap.get?_push_size _ rfl, rfl, rfl⟩, raw.at fun _ e => Heap.get?_push_of_some _ e⟩, fun b hb => ?_, fun b ob e hb => ?_, fun b ob e => Heap.get?_push_of_some _ e, fun z => absurd z (by decide), fun _ => ⟨fun i j vi vj s' Q' E hk hi hj hq => ?_, fun v s' hv m => ?_⟩⟩
      · show b < (s.heap.push _).objs.size
        rw [Heap.size_push]
        rcases List.mem_cons.mp hb with rfl | hb
        · exact Nat.lt_succ_self _
        · rcases List.mem_cons.mp hb with rfl | hb
          · exact Nat.lt_succ_of_lt alt
          · cases hb
      · exact absurd (Heap.lt_size e) ((List.mem_singleton.mp hb) ▸ Nat.lt_irrefl _)
      · rw [hP i vi hi, hP j vj hj]
        exact PySem.W.rcLt_alike d d _ s' en.val en.val _ _ (Reads.keeps hk rd) (Reads.keeps hk rd) al hn (by
          have := Nat.min_le_left d.depth d.depth
          show X.A.units + 1 + min d.depth d.depth < cLine
          omega) X.prog X.w E Q' hq
      · rw [hP _ v hv]
        obtain ⟨h', tk, rfl, kp⟩ := PySem.W.moved_old rfl rfl m
        exact ⟨z, H, I.kept (t' := tk) kp, hen, q⟩
end
section
variable {K : PySem.W.Frag} {O : Own} {ds : List SD} {Q : SD → Own → Prop} {te td : TE}
abbrev vwO (p a : Addr) : OD := .obj (valsO p a) [] []
theorem m_vals {a : Addr} {ts : List T3} (hm : (a, dD ts) ∈ O) (q : ∀ p, Q (.ad p) ((p, vwO p a) :: O)) : MbW K rValsT (.ad a) [] O Q := fun Hk H h u us hu hus Q' k => by
  have e : u = .ref a := hu
  subst e
  cases hus
  obtain ⟨⟨g1, g2⟩, ka⟩ := h.ow _ hm
  exact ⟨a, _, rfl, rfl, g1, fun p hp => k _ (.ad p) _ Hk _ (Same.refl _) (h.ownG (x := vwO p a) hp ⟨upd_same, .nil⟩) rfl (q p)⟩
theorem w_minV (h : EvW K te O ds fun r O1 => EvW K td O1 ds fun r2 O2 => ∃ p a k v d, r = .ad p ∧ (p, vwO p a) ∈ O2 ∧ (a, dD [(k, v, d)]) ∈ O2 ∧ PySem.W.alike d d = true ∧ d ≠ .none ∧ d.depth ≤ 62 ∧ Q (.dat d) O2) : EvW K (tCKw (rMinV K) (tCons te tNil) (tCons td tNil)) O ds Q := fun Hk σ H pp Q' kk =>
  h Hk σ H pp _ fun v1 r O1 Hk1 H1 e1 h1 s1 q1 => q1 Hk1 σ H1 (pp.ext e1 h1) _ fun v2 r2 O2 Hk2 H2 e2 h2 s2 q2 => by
    obtain ⟨p, a, k, v, d, rfl, hp, ha, al, hn, dp, q⟩ := q2
    cases (show v1 = .ref p from s1)
    obtain ⟨⟨g1, _⟩, _⟩ := h2.ow _ hp
    obtain ⟨⟨g2, g3⟩, _⟩ := h2.ow _ ha
    cases g3 with
    | cons g4 _ =>
      exact ⟨p, a, _, v, v2, d, rfl, rfl, g1, g2, (Da.mono h2.kn (show Da Hk2 v d from g4)).dp, al, hn, dp, kk v (.dat d) O2 Hk2 H2 (e1.trans e2) h2 g4 q⟩
end
theorem kMinV {X : Cx} (K : PySem.W.Frag) (hc : X.calm = true) (hu : X.A.units + 64 < cLine) (hK : X.K = K := by rfl) : CallRK X (.builtin "min") [Str.ofString "default"] (rMinV K) := by
  subst hK
  exact cr_minV hc hu
theorem paStar {X : Cx} {e : Expr} {es : List Expr} {te : TE} {t : TA} {p : Pos} (K : PySem.W.Frag) (he : PE X e te) (hr : PA X es t) (hK : X.K = K := by rfl) (hs : starEach (.Starred e p :: es) X.env = (true, eval e X.env) :: starEach es X.env := by rfl) : PA X (.Starred e p :: es) (StX.tStar K te t) := by
  subst hK
  exact StX.pa_star he hr hs
theorem ty_dD {K : PySem.W.Frag} {O : Own} {a : Addr} {ts : List T3} (hm : (a, dD ts) ∈ O) : TyW K "dict" (.ad a) O := fun Hk H h u hu => by
  cases (show u = .ref a from hu)
  obtain ⟨⟨h1, h2⟩, _⟩ := h.ow _ hm
  exact .inr (.inr (.inl ⟨rfl, .inr ⟨_, h1⟩⟩))
theorem w_vals {K : PySem.W.Frag} {O : Own} {ds : List SD} {Q : SD → Own → Prop} {to : TE} (h : EvW K to O ds fun r O1 => ∃ a ts, r = .ad a ∧ (a, dD ts) ∈ O1 ∧ ∀ p, Q (.ad p) ((p, vwO p a) :: O1)) : EvW K (tBM0 K "dict" rValsT to) O ds Q := fun Hk σ H p Q' k =>
  h Hk σ H p _ fun v r O1 Hk1 H1 e1 h1 s1 q1 => by
    obtain ⟨a, ts, rfl, hm, q⟩ := q1
    exact ⟨ty_dD hm Hk1 H1 h1 v s1, m_vals hm q Hk1 H1 h1 v [] s1 .nil Q' (k.ext e1)⟩
end Wk
namespace Wk
open PySem PySem.Spec PyProof.Rows L2
/-! ### sorted of a tuple of ints -/
section
variable {P : Program} {w : World} {A : Around} {E : Value → Shared → Prop} {s : Shared}
theorem sorted_tup {a : Addr} {items : Array Value} {ns : List Int} {Q : Value → Shared → Prop} (ht : s.heap.IsTuple a items) (hi : IntsAre items.toList ns) (hz : items.size ≤ sizeLine)
    (q : ∀ (h' h1 : Heap) (l : Addr) (out : List Value) (ms : List Int) (c : Nat), (∀ b o, s.heap.get? b = some o → h'.get? b = some o) → h'.objs.size ≤ l → (∀ b o, h'.get? b = some o → h1.get? b = some o) → h1.get? l = some (seqObj "list" out.toArray c) → IntsAre out ms → ms.Perm ns → ms.Pairwise (· ≤ ·) → Q (.ref l) { s with heap := h1 }) :
    wpAny (model P w) A (call (.builtin "sorted") [.ref a]) Q E s := by
  obtain ⟨o, ho, hc, n, hd⟩ := ht
  refine Calls.call_function_entry kind_sorted plain_sorted entry_sorted (args_sorted1 _) ?_
  unfold Builtin.«sorted»
  have zl : items.toList.length ≤ sizeLine := by rw [Array.length_toList]; exact hz
  refine wpAny_bind (m := checkCount "sorted" 1 1 _) (wpAny_pure (wpAny_bind (wpAny_collect_seq a (.inr rfl) ho hc hd (fun h' keep => wpAny_bind (wpAny_newList ?_ zl)) hz)))
  have at1 : (h'.push (seqObj "list" items.toList.toArray 0)).get? h'.objs.size = some (seqObj "list" items.toList.toArray 0) := Heap.get?_push_size _ rfl
  refine wpAny_bind (wpAny_holding (wpAny_call_entry slot_list_sort ⟨_, at1, rfl⟩ entry_list_sort (SrtO.list_sort_ord SrtO.swo_int at1 zl (fun two => SrtO.ints_sortable hi two) fun out so st => ⟨_, rfl, ?_⟩) (args_list_sort _)))
  obtain ⟨k1, k2, k3⟩ := SrtO.ints_out hi so st
  obtain ⟨c, hat⟩ := sortedHeap_at (vs := items.toList) (out := out.toArray) at1
  refine wpAny_pure ⟨_, rfl, q h' _ h'.objs.size out _ c keep (Nat.le_refl _) (fun b u e => ?_) hat k1 k2 k3⟩
  have lt := Heap.lt_size e
  have e2 : (h'.push (seqObj "list" items.toList.toArray 0)).get? b = some u := Heap.get?_push_of_some _ e
  rw [← e2]
  exact sortedHeap_old (Nat.ne_of_lt lt) (Heap.lt_size e2)
end
def rSortTI (K : PySem.W.Frag) : List V → Hp → VK → Prop := fun vs H Q => ∃ (a : Addr) (ns : List Int), vs = [.ref a] ∧ SqT K H a (ns.map V.int) ∧ ∀ (ms : List Int) (p : Addr), ms.Perm ns → ms.Pairwise (· ≤ ·) → H p = none → Q (.ref p) (upd H p (.lst (ms.map V.int)))
section
variable {X : Cx}
theorem cr_sortTI : CallR X (.builtin "sorted") (rSortTI X.K) := by
  intro pins s σ H vs us Q I r h
  obtain ⟨a, ns, rfl, hs, q⟩ := h
  obtain ⟨its, rv, pt, hz⟩ := I.tuple hs
  have hl : ns.length = its.length := by rw [← rv.length, List.length_map]
  rw [Vals.ref1 r]
  refine sorted_tup (items := its.toArray) (ns := ns) pt (by simpa using rv.ints) (by rw [List.size_toArray]; rw [← rv.length]; exact hz) fun h' h1 l out ms c keep hle keep2 hat hI hp hsrt => ?_
  have hlen : (ms.map V.int).length ≤ sizeLine := by
    rw [List.length_map, hp.length_eq]
    rw [List.length_map] at hz
    exact hz
  have I1 : Inv X pins σ H { s with heap := h' } := I.kept (t' := s.toks) keep
  exact ⟨.ref l, upd H l (.lst (ms.map V.int)), I1.laid (t' := s.toks) keep2 hle ⟨hlen, out, c, vals_of_ints hI, hat⟩, rfl, q ms l hp hsrt (I1.hok.fresh hle)⟩
theorem kSortTI {K : PySem.W.Frag} (h : X.K = K := by rfl) : CallR X (.builtin "sorted") (rSortTI K) := h ▸ cr_sortTI
/-! ### set(t), sorted(set(t)), t a tuple of ints -/
def rSetTI (K : PySem.W.Frag) (w : World) : List V → Hp → VK → Prop := fun vs H Q => ∃ (a : Addr) (ns : List Int), vs = [.ref a] ∧ SqT K H a (ns.map V.int) ∧ ns.length ≤ 1000 ∧ ∀ p n, n ≤ ns.length → H p = none → Q (.ref p) (upd H p (SetO w p (fun j => decide (j ∈ ns)) n))
theorem cr_setTI (hc : X.calm = true) : CallR X (.type "set") (rSetTI X.K X.w) := by
  intro pins s σ H vs us Q I r h
  obtain ⟨a, ns, rfl, hs, hz, q⟩ := h
  obtain ⟨its, rv, pt, _⟩ := I.tuple hs
  rw [Vals.ref1 r]
  exact call_set_tupI (items := its.toArray) ns (I.ok.hd hc) pt (by simpa using rv.ints) (by unfold scanBound; omega) fun h' tk c R1 hcn keep =>
    ⟨.ref s.heap.objs.size, upd H s.heap.objs.size (SetO X.w s.heap.objs.size (fun j => decide (j ∈ ns)) c), I.laid (t' := tk) keep (Nat.le_refl _) (setO_new R1), rfl, q _ c hcn (I.hok.fresh (Nat.le_refl _))⟩
theorem kSetTI {K : PySem.W.Frag} {w : World} (hc : X.calm = true) (h : X.K = K := by rfl) (hw : X.w = w := by rfl) : CallR X (.type "set") (rSetTI K w) := by
  subst h hw
  exact cr_setTI hc
theorem kSortSet {w : World} (hc : X.calm = true) (hw : X.w = w := by rfl) : CallR X (.builtin "sorted") (rSortedSet w) := by
  subst hw
  exact cr_sortedSet hc
end
/-! ### dicts whose keys are tuples of ints, values ints: items, get -/
def getI : List (List Int × Int) → List Int → Option Int
  | [], _ => none
  | p :: m, k => if p.1 = k then some p.2 else getI m k
theorem getI_val : ∀ (kvs : List (List Int × Int)) (k : List Int), valV (kvs.map kvF) (k.map Sum.inl) = (getI kvs k).map V.int
  | [], _ => rfl
  | p :: kvs, k => by
    show valV (kvF p :: kvs.map kvF) _ = (if p.1 = k then some p.2 else getI kvs k).map V.int
    by_cases z : p.1 = k
    · rw [if_pos z, valV_pos (show (kvF p).1 = _ by show p.1.map _ = _; rw [z])]
      rfl
    · rw [if_neg z, valV_neg (show ¬ (kvF p).1 = k.map Sum.inl from fun q => z (inl_inj q))]
      exact getI_val kvs k
section
variable {K : PySem.W.Frag} {w : World} {Hk Hk' H H' : Hp} {O O' Oa : Own} {ds : List SD} {σ : L2.St} {Q : SD → Own → Prop} {Q' : VK} {x y : SD} {A : AE} {D : Ends} {t u : TS} {te td to ti tk tv tx : TE} {ta : TA}
theorem g_sortTI {ns : List Int} (q : ∀ ms : List Int, ms.Perm ns → ms.Pairwise (· ≤ ·) → Q (.dat (lI ms)) O) : CbW K (rSortTI K) [.dat (tI ns)] O Q := fun Hk H h us hus Q' k => by
  obtain ⟨u, rfl, hu⟩ := all1 hus
  cases (show Da Hk u (tI ns) from hu) with
  | @tup a xs _ h1 h2 =>
    have e := h2.ints
    subst e
    exact ⟨a, ns, rfl, .inl (.inl (h.kn _ _ h1)), fun ms p hp hs hf => k.newD h hf (DaAll.of_ints ms) (q ms hp hs)⟩
theorem g_setTI {ns : List Int} (hz : ns.length ≤ 1000) (q : ∀ p n, n ≤ ns.length → Q (.ad p) ((p, .obj (SetO w p (fun j => decide (j ∈ ns)) n) [] []) :: O)) : CbW K (rSetTI K w) [.dat (tI ns)] O Q := fun Hk H h us hus Q' k => by
  obtain ⟨u, rfl, hu⟩ := all1 hus
  cases (show Da Hk u (tI ns) from hu) with
  | @tup a xs _ h1 h2 =>
    have e := h2.ints
    subst e
    exact ⟨a, ns, rfl, .inl (.inl (h.kn _ _ h1)), hz, fun p n hn hf => k _ (.ad p) _ Hk _ (Same.refl _) (h.ownG (x := .obj (SetO w p (fun j => decide (j ∈ ns)) n) [] []) hf ⟨upd_same, .nil⟩) rfl (q p n hn)⟩
theorem g_sortSet {p : Addr} {S : Int → Bool} {n : Nat} (hm : (p, .obj (SetO w p S n) [] []) ∈ O) (hn : n < 64) (q : ∀ ms : List Int, ms.Pairwise (· < ·) → (∀ k : Int, k ∈ ms ↔ S k = true) → Q (.dat (lI ms)) O) : CbW K (rSortedSet w) [.ad p] O Q := fun Hk H h us hus Q' k => by
  obtain ⟨u, rfl, hu⟩ := all1 hus
  cases (show u = .ref p from hu)
  obtain ⟨⟨g1, _⟩, _⟩ := h.ow _ hm
  exact ⟨p, S, n, rfl, g1, hn, fun ms l hp hs _ hf => k.newD h hf (DaAll.of_ints ms) (q ms hp hs)⟩
/-- {t: i} -/
theorem w_disp1I (h : ∀ l, EvW K tk ((l, dtO []) :: O) ds fun r O1 => EvW K tv O1 ds fun r2 O2 => ∃ ks v Oa, r = .dat (tI ks) ∧ r2 = iV v ∧ O2.Perm ((l, dtO []) :: Oa) ∧ Q (.ad l) ((l, dtO [(ks, v)]) :: Oa)) : EvW K (tDisp1T tk tv) O ds Q := fun Hk σ H p Q' k l hf => by
  have h0 : Hold K Hk ((l, dtO []) :: O) (upd H l (.dT [])) := p.hold.ownG (x := dtO []) hf ⟨upd_same, .nil⟩
  refine h l Hk σ _ (p.ext (Same.refl _) h0) _ fun u r O1 Hk1 H1 e1 h1 s1 q1 => q1 Hk1 σ H1 ((p.ext (Same.refl _) h0).ext e1 h1) _ fun z r2 O2 Hk2 H2 e2 h2 s2 q2 => ?_
  obtain ⟨ks, v, Oa, rfl, rfl, hp, q⟩ := q2
  have h3 := h2.perm hp
  obtain ⟨⟨g1, _⟩, _⟩ := h3.ow _ List.mem_cons_self
  obtain ⟨b, rfl, eb⟩ := keyAt h2 (Da.mono e2 (show Da Hk1 u (tI ks) from s1))
  cases (show Da Hk2 z (.int v) from s2)
  exact ⟨b, _, rfl, g1, eb, k _ (.ad l) _ Hk2 _ (e1.trans e2) (h3.writeG (y := dtO [(ks, v)]) ⟨upd_same, .nil⟩) rfl q⟩
/-- d[k], k a tuple of ints -/
theorem w_dgetT (h : EvW K td O ds fun r O1 => EvW K ti O1 ds fun r2 O2 => ∃ a kvs ks v, r = .ad a ∧ (a, dtO kvs) ∈ O2 ∧ r2 = .dat (tI ks) ∧ getI kvs ks = some v ∧ Q (iV v) O2) : EvW K (tDGet td ti) O ds Q := fun Hk σ H p Q' k =>
  h Hk σ H p _ fun v r O1 Hk1 H1 e1 h1 s1 q1 => q1 Hk1 σ H1 (p.ext e1 h1) _ fun u r2 O2 Hk2 H2 e2 h2 s2 q2 => by
    obtain ⟨a, kvs, ks, z, rfl, hm, rfl, hg, q⟩ := q2
    cases (show v = .ref a from s1)
    obtain ⟨⟨g1, g2⟩, ka⟩ := h2.ow _ hm
    obtain ⟨b, rfl, eb⟩ := keyAt h2 (show Da Hk2 u (tI ks) from s2)
    have e := DGet.t g1 eb
    rw [getI_val, hg] at e
    exact ⟨a, .int z, rfl, e, k _ (iV z) O2 Hk2 H2 (e1.trans e2) h2 (.int z) q⟩
/-- d.get(k, x), k a tuple of ints, x an int -/
theorem w_dget2T (h : EvW K td O ds fun r O1 => ∃ a, r = .ad a ∧ (∃ kvs, (a, dtO kvs) ∈ O1) ∧ EvW K ti O1 ds fun r2 O2 => EvW K tx O2 ds fun r3 O3 => ∃ kvs ks v, (a, dtO kvs) ∈ O3 ∧ r2 = .dat (tI ks) ∧ r3 = iV v ∧ Q (iV ((getI kvs ks).getD v)) O3) : EvW K (tDGet2 td ti tx) O ds Q := fun Hk σ H p Q' k =>
  h Hk σ H p _ fun v r O1 Hk1 H1 e1 h1 s1 q1 => by
    obtain ⟨a, rfl, ⟨kvs0, hm0⟩, q1⟩ := q1
    cases (show v = .ref a from s1)
    obtain ⟨⟨g0, _⟩, _⟩ := h1.ow _ hm0
    refine ⟨a, rfl, .inr ⟨_, .inl g0⟩, ?_⟩
    refine q1 Hk1 σ H1 (p.ext e1 h1) _ fun u r2 O2 Hk2 H2 e2 h2 s2 q2 => q2 Hk2 σ H2 ((p.ext e1 h1).ext e2 h2) _ fun z r3 O3 Hk3 H3 e3 h3 s3 q3 => ?_
    obtain ⟨kvs, ks, v, hm, rfl, rfl, q⟩ := q3
    obtain ⟨⟨g1, _⟩, _⟩ := h3.ow _ hm
    obtain ⟨b, rfl, eb⟩ := keyAt h3 (Da.mono e3 (show Da Hk2 u (tI ks) from s2))
    cases (show Da Hk3 z (.int v) from s3)
    have e := DGet.t g1 eb
    rw [getI_val] at e
    refine ⟨_, e, ?_⟩
    have e2' : ((getI kvs ks).map V.int).getD (.int v) = .int ((getI kvs ks).getD v) := by cases getI kvs ks <;> rfl
    rw [e2']
    exact k _ (iV _) O3 Hk3 H3 (e1.trans (e2.trans e3)) h3 (.int _) q
/-! ### dicts with ints as keys -/
theorem w_dgetZ (h : EvW K td O ds fun r O1 => EvW K ti O1 ds fun r2 O2 => ∃ a kvs i d, r = .ad a ∧ r2 = iV i ∧ (a, OD.dK kvs) ∈ O2 ∧ valS kvs (.inl i) = some d ∧ Q d O2) : EvW K (tDGet td ti) O ds Q := fun Hk σ H p Q' k =>
  h Hk σ H p _ fun v r O1 Hk1 H1 e1 h1 s1 q1 => q1 Hk1 σ H1 (p.ext e1 h1) _ fun u r2 O2 Hk2 H2 e2 h2 s2 q2 => by
    obtain ⟨a, kvs, i, d, rfl, rfl, hm, hv, q⟩ := q2
    cases (show v = .ref a from s1)
    cases (show Da Hk2 u (.int i) from s2)
    obtain ⟨⟨vs, g1, g2, g3⟩, _⟩ := h2.ow _ hm
    obtain ⟨z, h3, h4⟩ := val_at g2 g3 hv
    have e := DGet.k (k := .inl i) g1
    rw [h3] at e
    exact ⟨a, z, rfl, e, k z d O2 Hk2 H2 (e1.trans e2) h2 h4 q⟩
theorem w_dicI (h : ∀ pn, EvW K tk ((pn, .dK []) :: O) ds fun r O1 => EvW K tv O1 ds fun r2 O2 => ∃ i Oa, r = iV i ∧ O2 = (pn, .dK []) :: Oa ∧ Q (.ad pn) ((pn, .dK [(.inl i, r2)]) :: Oa)) : EvW K (tDisp [(tk, tv)]) O ds Q := fun Hk σ H p Q' k pn hf => by
  have h0 := p.hold.ownG (p := pn) (o := .dK []) (x := .dK []) hf ⟨[], upd_same, rfl, .nil⟩
  have p0 : Pt K Hk ((pn, .dK []) :: O) ds σ (upd H pn (.dK [])) := ⟨h0, p.len, p.env⟩
  show tk σ (upd H pn (.dK [])) fun x H1 => tv σ H1 fun y H2 => _
  refine h pn Hk σ _ p0 _ fun v r O1 Hk1 H1 e1 h1 s1 q1 => q1 Hk1 σ H1 (p0.ext e1 h1) _ fun z r2 O2 Hk2 H2 e2 h2 s2 q2 => ?_
  obtain ⟨i, Oa, rfl, rfl, q⟩ := q2
  cases (show Da Hk1 v (.int i) from s1)
  obtain ⟨⟨vs, g1, g2, g3⟩, g4⟩ := h2.ow (pn, .dK []) List.mem_cons_self
  have e0 : vs = [] := by
    cases vs with
    | nil => rfl
    | cons a b => cases g2
  subst e0
  refine ⟨g1, [(.inl i, z)], rfl, Nat.le_of_ble_eq_true rfl, ?_⟩
  exact k _ (.ad pn) _ Hk2 _ (e1.trans e2) (h2.writeG (y := .dK [(.inl i, r2)]) ⟨[(.inl i, z)], upd_same, rfl, .cons s2 .nil⟩) rfl q
theorem put_new {k : Key} {v : V} : ∀ {vs : List (Key × V)}, (∀ p ∈ vs, p.1 ≠ k) → putK vs k v = vs ++ [(k, v)] := fun {vs} h => by
  unfold putK
  rw [if_neg]
  intro z
  obtain ⟨p, hp, e⟩ := List.any_eq_true.mp z
  exact h p hp (of_decide_eq_true e)
/-- d[i] = e, i not there -/
theorem s_setDN (h : EvW K te O ds fun r O1 => EvW K to O1 ds fun ro O2 => EvW K ti O2 ds fun ri O3 =>
    ∃ a kvs i Oa, ro = .ad a ∧ ri = iV i ∧ O3.Perm ((a, .dK kvs) :: Oa) ∧ kvs.length ≤ 1000 ∧ (∀ p ∈ kvs, p.1 ≠ .inl i) ∧ A.nx ((a, .dK (kvs ++ [(.inl i, r)])) :: Oa) ds) : StW K (tAsg te (gSub to ti rSetD)) O ds A := fun Hk σ H D p l =>
  h Hk σ H p _ fun v r O1 Hk1 H1 e1 h1 s1 q1 => q1 Hk1 σ H1 (p.ext e1 h1) _ fun vo ro O2 Hk2 H2 e2 h2 s2 q2 => q2 Hk2 σ H2 ((p.ext e1 h1).ext e2 h2) _ fun vi ri O3 Hk3 H3 e3 h3 s3 q3 => by
    obtain ⟨a, kvs, i, Oa, rfl, rfl, hp, hl, hno, q⟩ := q3
    cases (show vo = .ref a from s2)
    cases (show Da Hk3 vi (.int i) from s3)
    have h' := h3.perm hp
    obtain ⟨⟨vs, g1, g2, g3⟩, _⟩ := h'.ow _ List.mem_cons_self
    have hlen : vs.length = kvs.length := by
      have := congrArg List.length g2
      rwa [List.length_map, List.length_map] at this
    have hnv : ∀ p ∈ vs, p.1 ≠ Sum.inl i := fun p hp e => by
      have h1 : p.1 ∈ kvs.map (·.1) := by rw [← g2]; exact List.mem_map.mpr ⟨p, hp, rfl⟩
      obtain ⟨q, hq, e2⟩ := List.mem_map.mp h1
      exact hno q hq (e2.trans e)
    refine ⟨a, _, rfl, DPut.k (k := .inl i) g1 (by rw [hlen]; exact Nat.lt_of_le_of_lt hl (by decide)), ?_⟩
    rw [put_new hnv]
    refine l.nx _ ds Hk3 σ _ (e1.trans (e2.trans e3)) (p.ext (e1.trans (e2.trans e3)) (h'.writeG (y := .dK (kvs ++ [(.inl i, r)])) ⟨vs ++ [(.inl i, v)], upd_same, ?_, ?_⟩)) q
    · rw [List.map_append, List.map_append, g2]
      rfl
    · rw [List.map_append, List.map_append]
      exact g3.append (.cons (s1.mono (e2.trans e3)) .nil)
/-- *e, e a list -/
theorem w_starL {Qa : List SD → Own → Prop} {t : TA} (h : EvW K te O ds fun r O1 => ∃ es : List PyData, r = .dat (.list es) ∧ AvW K t O1 ds fun rs O2 => Qa (es.map SD.dat ++ rs) O2) : AvW K (StX.tStar K te t) O ds Qa := fun Hk σ H p Q' k =>
  h Hk σ H p _ fun v r O1 Hk1 H1 e1 h1 s1 q1 => by
    obtain ⟨es, rfl, q⟩ := q1
    cases (show Da Hk1 v (.list es) from s1) with
    | @lst a xs _ g1 g2 =>
      refine ⟨a, xs, rfl, .inr (.inl (.inl (h1.kn _ _ g1))), ?_⟩
      refine q Hk1 σ H1 (p.ext e1 h1) _ fun vs rs O2 Hk2 H2 e2 h2 s2 q2 => k _ _ O2 Hk2 H2 (e1.trans e2) h2 ?_ q2
      exact (SDall.of_dats (DaAll.mono e2 g2)).append s2
end
/-! ### for k, v in d.items(), the dict owned, the values ints -/
section
variable {K : PySem.W.Frag} {O Oa : Own} {ds : List SD} {A : AE} {tb : TS}
theorem s_forI2 {i j0 j1 : Nat} {a : Addr} {ts : List (List Int × Int)} (hi : ds[i]? = some (.ad a)) (hp : O.Perm ((a, dtO ts) :: Oa)) (I : Nat → Own → List SD → Prop) (hI : ∀ n O2 ds2, I n O2 ds2 → ∀ p ∈ O2, NoTup p.2) (h0 : I 0 Oa ds)
    (hs : ∀ n k v O2 ds2, ts[n]? = some (k, v) → I n O2 ds2 → StW K tb O2 ((ds2.set j0 (.dat (tI k))).set j1 (iV v)) ⟨I (n + 1), fun _ _ => False, fun _ _ => False, I (n + 1), A.xt⟩)
    (hd : ∀ O2 ds2, I ts.length O2 ds2 → A.nx ((a, dtO ts) :: O2) ds2) :
    StW K (tLock (tFor (iItemsT (tVar i)) (gTup K 2 (gCons (gName j0) (gCons (gName j1) gNil))) tb)) O ds A := fun Hk σ H D p l => by
  rcases p.env i (.ad a) hi with z | ⟨va, hva, hsa⟩
  · cases z
  cases (show va = .ref a from hsa)
  have hh := p.hold.perm hp
  obtain ⟨⟨g1, _⟩, ka⟩ := hh.ow _ List.mem_cons_self
  refine ⟨a, _, g1, True.intro, fun od => ?_⟩
  have sm : Same Hk (upd Hk a (.frz od (.dT (ts.map kvF)))) := same_new ka
  have lenk : (ts.map kvF).length = ts.length := List.length_map ..
  refine ⟨.ref a, hva, a, od, _, rfl, upd_same, fun n m σ' H' => m = ts.length - n ∧ n ≤ ts.length ∧ ∃ O2 ds2 Hk2, Same (upd Hk a (.frz od (.dT (ts.map kvF)))) Hk2 ∧ Pt K Hk2 O2 ds2 σ' H' ∧ I n O2 ds2, ⟨ts.length, by omega, Nat.zero_le _, Oa, ds, _, Same.refl _, p.ext sm hh.lock, h0⟩, ?_⟩
  rintro n m σ' H' ⟨rfl, hn, O2, ds2, Hk2, e2, p2, q⟩
  have fa : Hk2 a = some (.frz od (.dT (ts.map kvF))) := e2 _ _ upd_same
  have fH : H' a = some (.frz od (.dT (ts.map kvF))) := p2.hold.kn _ _ fa
  by_cases hlt : n < ts.length
  · refine .inr ⟨⟨fH, by rw [lenk]; exact hlt⟩, fun σ2 H2 => ∃ O2 ds2 Hk2, Same (upd Hk a (.frz od (.dT (ts.map kvF)))) Hk2 ∧ Pt K Hk2 O2 ds2 σ2 H2 ∧ I (n + 1) O2 ds2, fun σ2 H2 hN => ⟨ts.length - (n + 1), by omega, rfl, hlt, hN⟩, fun x H2 y => ?_⟩
    obtain ⟨T, b, k', v', hk', rfl, nT, hb, rfl⟩ := y
    have ht : ts[n]? = some ts[n] := List.getElem?_eq_getElem hlt
    rw [List.getElem?_map, ht] at hk'
    generalize ts[n] = pr at ht hk'
    obtain ⟨k, v⟩ := pr
    cases hk'
    obtain ⟨Hk3, e3, h3, hb3⟩ := p2.hold.tell_tup hb (hI n O2 ds2 q)
    have sT : Same Hk3 (upd Hk3 T (.tup [.ref b, .int v])) := same_new (h3.kn.free nT)
    have p4 : Pt K (upd Hk3 T (.tup [.ref b, .int v])) O2 ds2 σ' (upd H' T (.tup [.ref b, .int v])) := p2.ext (e3.trans sT) (h3.know nT)
    have hkey : Da (upd Hk3 T (.tup [.ref b, .int v])) (.ref b) (tI k) := by
      refine .tup (sT _ _ hb3) ?_
      rw [List.map_map]
      exact DaAll.of_ints k
    refine ⟨T, _, rfl, .inl (.inl upd_same), rfl, .ref b, _, rfl, .int v, _, rfl, rfl, ?_⟩
    exact hs n k v O2 ds2 ht q _ _ _ _ ((p4.set (j := j0) (r := .dat (tI k)) hkey).set (j := j1) (r := iV v) (.int v))
      ⟨fun O5 ds5 Hk5 σ5 H5 e5 p5 q5 => ⟨O5, ds5, Hk5, (e2.trans (e3.trans sT)).trans e5, p5, q5⟩, fun r O5 Hk5 H5 e5 _ _ _ q5 => q5.elim, fun O5 ds5 Hk5 σ5 H5 e5 p5 q5 => q5.elim, fun O5 ds5 Hk5 σ5 H5 e5 p5 q5 => ⟨O5, ds5, Hk5, (e2.trans (e3.trans sT)).trans e5, p5, q5⟩, l.xt.ext (sm.trans (e2.trans (e3.trans sT)))⟩
  · have en : n = ts.length := by omega
    subst en
    have su : Same Hk (unk Hk2 a) := fun b y e => by
      unfold unk
      have ne : b ≠ a := ne_of_none e ka
      rw [if_neg ne]
      exact e2 _ _ (sm _ _ e)
    exact .inl ⟨⟨fH, Nat.le_of_eq lenk⟩, fH, l.nx _ ds2 _ σ' _ su (p2.unlock fa (x := dtO ts) ⟨upd_same, .nil⟩) (hd O2 ds2 q)⟩
end
end Wk
namespace Wk
open PySem PySem.Spec PyProof.Rows L2
/-! ### sorted of a list of data -/
section
variable {P : Program} {w : World} {A : Around} {E : Value → Shared → Prop} {s : Shared}
theorem swo_none : SrtO.Swo fun _ _ : Value => false := ⟨fun _ _ h => (nomatch h), fun _ _ _ _ _ => rfl⟩
theorem perm_short {α : Type} {a b : List α} (h : a.Perm b) (hl : b.length ≤ 1) : a = b := by
  match b, hl with
  | [], _ => exact h.eq_nil
  | [x], _ => exact List.perm_singleton.mp h
  | _ :: _ :: _, hl => exact absurd hl (by rw [List.length_cons, List.length_cons]; omega)
theorem sorted_short {a : Addr} {items : Array Value} {Q : Value → Shared → Prop} (ht : s.heap.IsList a items) (hi : items.size ≤ 1)
    (q : ∀ (h' h1 : Heap) (l : Addr) (c : Nat), (∀ b o, s.heap.get? b = some o → h'.get? b = some o) → h'.objs.size ≤ l → (∀ b o, h'.get? b = some o → h1.get? b = some o) → h1.get? l = some (seqObj "list" items.toList.toArray c) → Q (.ref l) { s with heap := h1 }) :
    wpAny (model P w) A (call (.builtin "sorted") [.ref a]) Q E s := by
  obtain ⟨o, ho, hc, n, hd⟩ := ht
  refine Calls.call_function_entry kind_sorted plain_sorted entry_sorted (args_sorted1 _) ?_
  unfold Builtin.«sorted»
  have hz : items.size ≤ sizeLine := Nat.le_trans hi (by decide)
  have zl : items.toList.length ≤ sizeLine := by rw [Array.length_toList]; exact hz
  refine wpAny_bind (m := checkCount "sorted" 1 1 _) (wpAny_pure (wpAny_bind (wpAny_collect_seq a (.inl rfl) ho hc hd (fun h' keep => wpAny_bind (wpAny_newList ?_ zl)) hz)))
  have at1 : (h'.push (seqObj "list" items.toList.toArray 0)).get? h'.objs.size = some (seqObj "list" items.toList.toArray 0) := Heap.get?_push_size _ rfl
  refine wpAny_bind (wpAny_holding (wpAny_call_entry slot_list_sort ⟨_, at1, rfl⟩ entry_list_sort (SrtO.list_sort_ord swo_none at1 zl (fun two => absurd two (by rw [Array.length_toList]; omega)) fun out so st => ⟨_, rfl, ?_⟩) (args_list_sort _)))
  have e : out = items.toList := perm_short st.perm (by rw [Array.length_toList]; exact hi)
  subst e
  obtain ⟨c, hat⟩ := sortedHeap_at (vs := items.toList) (out := items.toList.toArray) at1
  refine wpAny_pure ⟨_, rfl, q h' _ h'.objs.size c keep (Nat.le_refl _) (fun b u e => ?_) hat⟩
  have lt := Heap.lt_size e
  have e2 : (h'.push (seqObj "list" items.toList.toArray 0)).get? b = some u := Heap.get?_push_of_some _ e
  rw [← e2]
  exact sortedHeap_old (Nat.ne_of_lt lt) (Heap.lt_size e2)
end
def rSortD (K : PySem.W.Frag) : List V → Hp → VK → Prop := fun vs H Q => ∃ (a : Addr) (zs : List (V × PyData)), vs = [.ref a] ∧ SqL K H a (zs.map (·.1)) ∧ (∀ z ∈ zs, Dp K H z.1 z.2) ∧ PySem.W.AllAlike (zs.map (·.2)) ∧ (PySem.W.Sortable (zs.map (·.2)) ∨ zs.length ≤ 1) ∧ (∀ z ∈ zs, z.2.depth ≤ 60) ∧
  ∀ p : Addr, H p = none → Q (.ref p) (upd H p (.lst ((zs.mergeSort (PySem.W.dataLe false fun z => z.2)).map (·.1))))
section
variable {X : Cx}
theorem each_vals : ∀ {zs : List (V × PyData)} {us : List Value}, Vals (zs.map (·.1)) us → PySem.W.EachIs (fun v (z : V × PyData) => RelV z.1 v) us zs
  | [], _, r => by
    cases r
    exact .nil
  | z :: zs, _, r => by
    cases r with
    | cons a b => exact .cons a (each_vals b)
theorem vals_each : ∀ {zs : List (V × PyData)} {us : List Value}, PySem.W.EachIs (fun v (z : V × PyData) => RelV z.1 v) us zs → Vals (zs.map (·.1)) us
  | _, _, .nil => .nil
  | _, _, .cons a b => .cons a (vals_each b)
theorem cr_sortD (hu : X.A.units + 64 < cLine) : CallR X (.builtin "sorted") (rSortD X.K) := by
  intro pins s σ H vs us Q I r h
  obtain ⟨a, zs, rfl, hs, hdp, hal, hk, hdep, q⟩ := h
  obtain ⟨its, rv, pl, hz⟩ := I.list hs
  rw [Vals.ref1 r]
  have e := each_vals rv
  have hl : zs.length = its.length := by rw [← rv.length, List.length_map]
  rw [List.length_map] at hz
  rcases Nat.lt_or_ge 1 zs.length with h2 | h2
  · have hk := hk.resolve_right (by omega)
    have er : PySem.W.EachIs (fun v (z : V × PyData) => ∃ as, Reads s.heap v z.2 as) its zs := (PySem.W.each_mem e).mono fun v z ⟨h1, h2⟩ => Dp.reads I z.2 z.1 v (hdp z h2) h1
    refine PySem.W.sorted_data (R := fun v (z : V × PyData) => RelV z.1 v) (bs := zs) (enc := fun z => z.2) pl.isList e er hal hk hz (fun b hb => by have := hdep b hb; omega) fun out ho eo => ?_
    obtain ⟨c, hat⟩ := sortedAll_at s.heap its (List.toArray out)
    have hlen : ((zs.mergeSort (PySem.W.dataLe false fun z => z.2)).map (·.1)).length ≤ sizeLine := by
      rw [List.length_map, List.length_mergeSort]
      exact hz
    exact ⟨.ref (s.heap.objs.size + 1), upd H (s.heap.objs.size + 1) (.lst ((zs.mergeSort (PySem.W.dataLe false fun z => z.2)).map (·.1))), I.laid (t' := s.toks) (fun _ _ => sortedAll_old) (Nat.le_succ _) ⟨hlen, out, c, vals_each eo, hat⟩, rfl, q _ (I.hok.fresh (Nat.le_succ _))⟩
  · refine sorted_short (items := its.toArray) pl.isList (by rw [List.size_toArray]; omega) fun h' h1 l c keep hle keep2 hat => ?_
    have hlen : ((zs.mergeSort (PySem.W.dataLe false fun z => z.2)).map (·.1)).length ≤ sizeLine := by
      rw [List.length_map, List.length_mergeSort]
      exact hz
    have em : zs.mergeSort (PySem.W.dataLe false fun z => z.2) = zs := perm_short (List.mergeSort_perm ..) h2
    have I1 : Inv X pins σ H { s with heap := h' } := I.kept (t' := s.toks) keep
    refine ⟨.ref l, upd H l (.lst ((zs.mergeSort (PySem.W.dataLe false fun z => z.2)).map (·.1))), I1.laid (t' := s.toks) keep2 hle ⟨hlen, its, c, ?_, hat⟩, rfl, q l (I1.hok.fresh hle)⟩
    rw [em]
    exact rv
theorem kSortD {K : PySem.W.Frag} (hu : X.A.units + 64 < cLine) (h : X.K = K := by rfl) : CallR X (.builtin "sorted") (rSortD K) := h ▸ cr_sortD hu
end
section
variable {K : PySem.W.Frag} {O : Own} {ds : List SD} {Q : SD → Own → Prop} {A : AE} {x : SD}
theorem DaAll.zs {H : Hp} : ∀ {xs : List V} {es : List PyData}, DaAll H xs es → (xs.zip es).map (·.1) = xs ∧ (xs.zip es).map (·.2) = es ∧ ∀ z ∈ xs.zip es, Da H z.1 z.2
  | _, _, .nil => ⟨rfl, rfl, fun _ h => absurd h List.not_mem_nil⟩
  | _, _, .cons a b => by
    obtain ⟨h1, h2, h3⟩ := DaAll.zs b
    refine ⟨congrArg (List.cons _) h1, congrArg (List.cons _) h2, fun z hz => ?_⟩
    rcases List.mem_cons.mp hz with rfl | hz
    · exact a
    · exact h3 z hz
theorem DaAll.of_zs {H : Hp} : ∀ {zs : List (V × PyData)}, (∀ z ∈ zs, Da H z.1 z.2) → DaAll H (zs.map (·.1)) (zs.map (·.2))
  | [], _ => .nil
  | z :: zs, h => .cons (h z List.mem_cons_self) (DaAll.of_zs fun y hy => h y (List.mem_cons_of_mem _ hy))
theorem ms_zs (zs : List (V × PyData)) : (zs.mergeSort (PySem.W.dataLe false fun z => z.2)).map (·.2) = (zs.map (·.2)).mergeSort (PySem.W.dataLe false id) := by
  exact List.map_mergeSort (fun a _ b _ => rfl)
/-- sorted(xs), xs a list of data that are alike -/
theorem g_sortD {es : List PyData} (l : Lst O x es) (hal : PySem.W.AllAlike es) (hk : PySem.W.Sortable es ∨ es.length ≤ 1) (hdep : ∀ e ∈ es, e.depth ≤ 60) (q : Q (.dat (.list (es.mergeSort (PySem.W.dataLe false id)))) O) : CbW K (rSortD K) [x] O Q := fun Hk H h us hus Q' k => by
  obtain ⟨u, rfl, hu⟩ := all1 hus
  obtain ⟨a, xs, rfl, h1, h2⟩ := l.get h hu
  obtain ⟨z1, z2, z3⟩ := h2.zs
  have hl : (xs.zip es).length = es.length := by rw [← z2, List.length_map, z2]
  refine ⟨a, xs.zip es, rfl, by rw [z1]; exact sq_of h1, fun z hz => (Da.mono h.kn (z3 z hz)).dp, by rw [z2]; exact hal, by rw [z2, hl]; exact hk, fun z hz => hdep _ (by rw [← z2]; exact List.mem_map_of_mem hz), fun p hf => ?_⟩
  have hms := ms_zs (xs.zip es)
  rw [z2] at hms
  refine k.newD h hf ?_ q
  rw [← hms]
  exact DaAll.of_zs fun z hz => z3 z ((List.mergeSort_perm _ _).mem_iff.mp hz)
end
/-! ### an iterator over a list or a tuple; loops over known data; comprehensions of one clause with any target -/
def iSeq (K : PySem.W.Frag) (tl : TE) : TI := fun σ H R => tl σ H fun x H1 => (∃ a, x = .ref a ∧ (∃ xs, SqL K H1 a xs) ∧ R (Itl K a) H1) ∨ ∃ a, x = .ref a ∧ (∃ xs, SqT K H1 a xs) ∧ R (Itt K a) H1
theorem pi_seq {X : Cx} (K : PySem.W.Frag) {tg l : Expr} {tl : TE} (hl : PE X l tl) (hK : X.K = K := by rfl) : PI X tg l (iSeq K tl) := by
  subst hK
  refine ⟨fun pins s σ H R I h => ?_⟩
  refine thn (hl.run pins s σ H _ I h) fun v s1 ⟨x, H1, I1, r1, q1⟩ => ?_
  rcases q1 with q1 | q1
  · obtain ⟨a, e, ⟨xs, hq⟩, q⟩ := q1
    subst e
    cases r1
    obtain ⟨its, rv, p, hz⟩ := I1.list hq
    refine wpAny_pyIter_list p.isList ?_
    refine ⟨s1.heap.objs.size, [s1.heap.objs.size], _, _, H1, rfl, I1.kept (t' := s1.toks) fun b o e => Heap.get?_push_of_some _ e, turn_list a _, ⟨_, Heap.get?_push_size _ rfl, rfl, rfl⟩, fun b hb => ?_, q⟩
    have e : b = s1.heap.objs.size := by simpa using hb
    subst e
    exact I1.fpOk (Nat.le_refl _) (I1.hok.fresh (Nat.le_refl _))
  · obtain ⟨a, e, ⟨xs, hq⟩, q⟩ := q1
    subst e
    cases r1
    obtain ⟨its, rv, p, hz⟩ := I1.tuple hq
    refine wpAny_pyIter_tuple (show s1.heap.IsTuple a its.toArray from p) ?_
    refine ⟨s1.heap.objs.size, [s1.heap.objs.size], _, _, H1, rfl, I1.kept (t' := s1.toks) fun b o e => Heap.get?_push_of_some _ e, turn_tuple a _, ⟨_, Heap.get?_push_size _ rfl, rfl, rfl⟩, fun b hb => ?_, q⟩
    have e : b = s1.heap.objs.size := by simpa using hb
    subst e
    exact I1.fpOk (Nat.le_refl _) (I1.hok.fresh (Nat.le_refl _))
section
variable {K : PySem.W.Frag} {O : Own} {ds : List SD} {Q : SD → Own → Prop} {A : AE} {x : SD} {R : List PyData → Own → Prop}
theorem it_seq {tl : TE} (h : EvW K tl O ds fun r O1 => ∃ es : List PyData, (r = .dat (.list es) ∨ r = .dat (.tuple es)) ∧ R es O1) : ItW K (iSeq K tl) O ds R := fun Hk σ H p Q' k =>
  h Hk σ H p _ fun v r O1 Hk1 H1 e1 h1 s1 q1 => by
    obtain ⟨es, e, q⟩ := q1
    rcases e with rfl | rfl
    · cases (show Da Hk1 v (.list es) from s1) with
      | @lst a xs _ g1 g2 =>
      refine .inl ⟨a, rfl, ⟨xs, .inl (.inl (h1.kn _ _ g1))⟩, k _ es O1 Hk1 H1 e1 h1 (fun Hk3 O3 H3 i e3 h3 => ⟨fun d hd => ?_, fun hl => ?_⟩) q⟩
      · obtain ⟨x, g3, g4⟩ := g2.get hd
        have q3 : SqL K H3 a xs := .inl (.inl (h3.kn _ _ (e3 _ _ g1)))
        refine ⟨⟨xs, x, q3, g3⟩, fun y H' hy => ⟨hy.1, ?_⟩⟩
        have e := hy.2 xs q3
        rw [g3] at e
        cases e
        exact Da.mono e3 g4
      · exact ⟨xs, .inl (.inl (h3.kn _ _ (e3 _ _ g1))), by rw [g2.length]; exact hl⟩
    · cases (show Da Hk1 v (.tuple es) from s1) with
      | @tup a xs _ g1 g2 =>
      refine .inr ⟨a, rfl, ⟨xs, .inl (.inl (h1.kn _ _ g1))⟩, k _ es O1 Hk1 H1 e1 h1 (fun Hk3 O3 H3 i e3 h3 => ⟨fun d hd => ?_, fun hl => ?_⟩) q⟩
      · obtain ⟨x, g3, g4⟩ := g2.get hd
        have q3 : SqT K H3 a xs := .inl (.inl (h3.kn _ _ (e3 _ _ g1)))
        refine ⟨⟨xs, x, q3, g3⟩, fun y H' hy => ⟨hy.1, ?_⟩⟩
        have e := hy.2 xs q3
        rw [g3] at e
        cases e
        exact Da.mono e3 g4
      · exact ⟨xs, .inl (.inl (h3.kn _ _ (e3 _ _ g1))), by rw [g2.length]; exact hl⟩
/-- for x in data -/
theorem s_forW {wi : TI} {j : Nat} {tb : TS} (h : ItW K wi O ds fun es O1 => ∃ I : Nat → Own → List SD → Prop, I 0 O1 ds ∧
    (∀ (i : Nat) d O2 ds2, es[i]? = some d → I i O2 ds2 → ∀ B : AE, Bdy I i A B → StW K tb O2 (ds2.set j (.dat d)) B) ∧ ∀ O2 ds2, I es.length O2 ds2 → A.nx O2 ds2) : StW K (tFor wi (gName j) tb) O ds A := fun Hk σ H D p l =>
  h Hk σ H p _ fun J es O1 Hk1 H1 e1 h1 walk q1 => by
    obtain ⟨I, h0, hs, hd⟩ := q1
    refine ⟨fun i m σ H => m = es.length - i ∧ i ≤ es.length ∧ ∃ O2 ds2 Hk2, Same Hk1 Hk2 ∧ Pt K Hk2 O2 ds2 σ H ∧ I i O2 ds2, ⟨es.length, by omega, Nat.zero_le _, O1, ds, Hk1, Same.refl _, p.ext e1 h1, h0⟩, ?_⟩
    rintro i m σ2 H2 ⟨rfl, hi, O2, ds2, Hk2, e2, p2, q⟩
    have W := walk Hk2 _ H2 i e2 p2.hold
    by_cases hlt : i < es.length
    · obtain ⟨w1, w2⟩ := W.1 es[i] (List.getElem?_eq_getElem hlt)
      refine .inr ⟨w1, fun σ' H' => ∃ O3 ds3 Hk3, Same Hk1 Hk3 ∧ Pt K Hk3 O3 ds3 σ' H' ∧ I (i + 1) O3 ds3, fun σ' H' n => ⟨es.length - (i + 1), by omega, rfl, hlt, n⟩, fun x H' hy => ?_⟩
      obtain ⟨rfl, hx⟩ := w2 x H' hy
      exact hs i _ O2 ds2 (List.getElem?_eq_getElem hlt) q _ .mk' Hk2 _ H' _ (p2.set (r := .dat es[i]) hx) ⟨fun O3 ds3 Hk3 σ3 H3 e3 p3 q3 => ⟨O3, ds3, Hk3, e2.trans e3, p3, q3⟩, l.rt.ext (e1.trans e2), l.nx.ext (e1.trans e2), fun O3 ds3 Hk3 σ3 H3 e3 p3 q3 => ⟨O3, ds3, Hk3, e2.trans e3, p3, q3⟩, l.xt.ext (e1.trans e2)⟩
    · have ei : i = es.length := by omega
      subst ei
      exact .inl ⟨W.2 (Nat.le_refl _), l.nx O2 ds2 Hk2 σ2 H2 (e1.trans e2) p2 (hd O2 ds2 q)⟩
/-- [e for g in data if t], g any target -/
theorem w_lcI {wi : TI} {g : TG} {tt : TT} {te : TE} {vs : List Nat} (h : ItW K wi O ds fun es O1 => ∃ I : Nat → List SD → Own → Prop, I 0 [] O1 ∧ (∀ i acc O2, I i acc O2 → acc.length < sizeLine) ∧
    (∀ (i : Nat) d acc O2, es[i]? = some d → I i acc O2 → ∃ ds2, TgW K g vs d ds ds2 ∧ LcTurn K tt te O2 ds2 acc (I (i + 1))) ∧ ∀ acc O2 Dl, I es.length acc O2 → Q (.ad Dl) ((Dl, .lst acc) :: O2)) :
    EvW K (tLc wi g tt te vs) O ds Q := fun Hk σ H p Q' k =>
  h Hk σ H p _ fun J es O1 Hk1 H1 e1 h1 walk q1 => by
    obtain ⟨I, h0, isz, hs, hd⟩ := q1
    intro Dl hf
    refine ⟨fun i m H => m = es.length - i ∧ i ≤ es.length ∧ ∃ acc O2 Hk2, Same Hk1 Hk2 ∧ Hold K Hk2 ((Dl, OD.lst acc) :: O2) H ∧ I i acc O2, ⟨es.length, by omega, Nat.zero_le _, [], O1, Hk1, Same.refl _, h1.own hf .nil, h0⟩, ?_⟩
    rintro i m H2 ⟨rfl, hi, acc, O2, Hk2, e2, hh, q⟩
    have W := walk Hk2 _ H2 i e2 hh
    by_cases hlt : i < es.length
    · obtain ⟨w1, w2⟩ := W.1 es[i] (List.getElem?_eq_getElem hlt)
      refine .inr ⟨w1, fun H' => ∃ acc O2 Hk2, Same Hk1 Hk2 ∧ Hold K Hk2 ((Dl, OD.lst acc) :: O2) H' ∧ I (i + 1) acc O2, fun H' n => ⟨es.length - (i + 1), by omega, rfl, hlt, n⟩, fun x H' hy => ?_⟩
      obtain ⟨rfl, hx⟩ := w2 x H' hy
      obtain ⟨ds2, tg, turn⟩ := hs i _ acc O2 (List.getElem?_eq_getElem hlt) q
      have p3 : Pt K Hk2 ((Dl, OD.lst acc) :: O2) ds σ H' := (p.ext e1 h1).ext e2 hh
      refine tg Hk2 _ σ H' x p3 hx _ fun σ2 ew p2 => ⟨ew, ?_⟩
      refine turn Dl Hk2 σ2 H' p2 _ fun b O7 Hk7 H7 e7 h7 q7 => ?_
      cases b with
      | true =>
        refine iteT (q7.1 rfl Hk7 σ2 H7 (p2.ext e7 h7) _ fun y r O8 Hk8 H8 e8 h8 s8 q8 => ?_)
        obtain ⟨O9, hp9, q9⟩ := q8
        have h9 := h8.perm hp9
        obtain ⟨⟨us, g3, g4⟩, _⟩ := h9.ow _ List.mem_cons_self
        exact ⟨us, g3, by rw [g4.length]; exact isz i acc O2 q, acc ++ [r], O9, Hk8, e2.trans (e7.trans e8), h9.write (g4.append (.cons s8 .nil)), q9⟩
      | false =>
        obtain ⟨O9, hp9, q9⟩ := q7.2 rfl
        exact iteF ⟨acc, O9, Hk7, e2.trans e7, h7.perm hp9, q9⟩
    · have ei : i = es.length := by omega
      subst ei
      exact .inl ⟨W.2 (Nat.le_refl _), k _ (.ad Dl) _ Hk2 H2 (e1.trans e2) hh rfl (hd acc O2 Dl q)⟩
theorem tg_tup2 {vs : List Nat} {i j : Nat} {d e : PyData} (hi : i ∈ vs) (hj : j ∈ vs) : TgW K (gTup K 2 (gCons (gName i) (gCons (gName j) gNil))) vs (.tuple [d, e]) ds (((wipeD ds vs).set i (.dat d)).set j (.dat e)) := fun Hk O σ H v p hd Q k => by
  cases (show Da Hk v (.tuple [d, e]) from hd) with
  | @tup a xs _ h1 h2 =>
    cases h2 with
    | @cons v1 _ _ _ g1 r =>
      cases r with
      | @cons v2 _ _ _ g2 r =>
        cases r
        refine ⟨a, [v1, v2], rfl, .inl (.inl (p.hold.kn _ _ h1)), rfl, v1, [v2], rfl, v2, [], rfl, rfl, k _ ?_ (((p.wiped vs).set (r := .dat d) g1).set (r := .dat e) g2)⟩
        rw [(wipe_set_or vs).1 hj, (wipe_set_or vs).1 hi]
        exact wipe_idem σ vs vs fun _ z => z
/-- for x in xs, xs an owned list of what is owned or known -/
theorem s_forOL {tl : TE} {j : Nat} {tb : TS} (h : EvW K tl O ds fun r O1 => ∃ f rs, r = .ad f ∧ ∃ I : Nat → Own → List SD → Prop, (∀ n O2 ds2, I n O2 ds2 → (f, OD.lst rs) ∈ O2) ∧ I 0 O1 ds ∧
    (∀ (i : Nat) d O2 ds2, rs[i]? = some d → I i O2 ds2 → ∀ B : AE, Bdy I i A B → StW K tb O2 (ds2.set j d) B) ∧ ∀ O2 ds2, I rs.length O2 ds2 → A.nx O2 ds2) : StW K (tFor (iList K tl) (gName j) tb) O ds A := fun Hk σ H D p l =>
  h Hk σ H p _ fun v r O1 Hk1 H1 e1 h1 s1 q1 => by
    obtain ⟨f, rs, rfl, I, hin, h0, hs, hd⟩ := q1
    cases (show v = .ref f from s1)
    obtain ⟨⟨vs, g1, g2⟩, _⟩ := h1.ow _ (hin _ _ _ h0)
    refine ⟨f, rfl, ⟨vs, .inl (.inl g1)⟩, fun i m σ H => m = rs.length - i ∧ i ≤ rs.length ∧ ∃ O2 ds2 Hk2, Same Hk1 Hk2 ∧ Pt K Hk2 O2 ds2 σ H ∧ I i O2 ds2, ⟨rs.length, by omega, Nat.zero_le _, O1, ds, Hk1, Same.refl _, p.ext e1 h1, h0⟩, ?_⟩
    rintro i m σ2 H2 ⟨rfl, hi, O2, ds2, Hk2, e2, p2, q⟩
    obtain ⟨⟨us, k1, k2⟩, _⟩ := p2.hold.ow _ (hin _ _ _ q)
    have sq : SqL K H2 f us := .inl (.inl k1)
    by_cases hlt : i < rs.length
    · have hr : rs[i]? = some rs[i] := List.getElem?_eq_getElem hlt
      obtain ⟨w, w1, w2⟩ := k2.get hr
      refine .inr ⟨⟨us, w, sq, w1⟩, fun σ' H' => ∃ O3 ds3 Hk3, Same Hk1 Hk3 ∧ Pt K Hk3 O3 ds3 σ' H' ∧ I (i + 1) O3 ds3, fun σ' H' n => ⟨rs.length - (i + 1), by omega, rfl, hlt, n⟩, fun x H' hy => ?_⟩
      obtain ⟨rfl, hx⟩ := hy
      have e := hx us sq
      rw [w1] at e
      cases e
      exact hs i _ O2 ds2 hr q _ .mk' Hk2 _ H' _ (p2.set (r := rs[i]) w2) ⟨fun O3 ds3 Hk3 σ3 H3 e3 p3 q3 => ⟨O3, ds3, Hk3, e2.trans e3, p3, q3⟩, l.rt.ext (e1.trans e2), l.nx.ext (e1.trans e2), fun O3 ds3 Hk3 σ3 H3 e3 p3 q3 => ⟨O3, ds3, Hk3, e2.trans e3, p3, q3⟩, l.xt.ext (e1.trans e2)⟩
    · have ei : i = rs.length := by omega
      subst ei
      exact .inl ⟨⟨us, sq, by rw [k2.length]; exact Nat.le_refl _⟩, l.nx O2 ds2 Hk2 σ2 H2 (e1.trans e2) p2 (hd O2 ds2 q)⟩
end
/-! ### xs[i] += e, xs an owned list -/
def rGetL (K : PySem.W.Frag) : V → V → Hp → VK → Prop := fun o i H Q => ∃ (p : Addr) (xs : List V) (k : Int) (v : V), o = .ref p ∧ i = .int k ∧ SqL K H p xs ∧ 0 ≤ k ∧ xs[k.toNat]? = some v ∧ Q v H
theorem pget_list {X : Cx} (K : PySem.W.Frag) (hK : X.K = K := by rfl) : PGet X (rGetL K) := by
  subst hK
  intro pins s σ H o i ov iv Q I ro ri h
  obtain ⟨p, xs, k, v, rfl, rfl, hq, h0, hx, q⟩ := h
  cases ro
  obtain ⟨t, rfl⟩ := ri
  obtain ⟨its, r, pl, hz⟩ := I.list hq
  obtain ⟨w, ew, rw'⟩ := r.get hx
  have hlt := (List.getElem?_eq_some_iff.mp hx).1
  have hn := line63
  exact wpAny_getItem_list pl.isList h0 (by omega) (by simpa using ew) ⟨v, H, I, rw', q⟩
section
variable {K : PySem.W.Frag} {O : Own} {ds : List SD} {Q : SD → Own → Prop} {A : AE} {x : SD}
theorem s_augL {f : Int → Int → Int} {to ti te : TE} (h : EvW K to O ds fun ro O1 => EvW K ti O1 ds fun ri O2 => ∃ a k x rs, ro = .ad a ∧ ri = iV k ∧ (a, OD.lst rs) ∈ O2 ∧ 0 ≤ k ∧ rs[k.toNat]? = some (iV x) ∧
    EvW K te O2 ds fun r O3 => ∃ y Oa O4, r = iV y ∧ O3.Perm ((a, .lst rs) :: Oa) ∧ Own.P ((a, .lst (rs.set k.toNat (iV (f x y)))) :: Oa) O4 ∧ A.nx O4 ds) : StW K (tAugS to ti te (rGetL K) (ipI f) rSetL) O ds A := fun Hk σ H D p l =>
  h Hk σ H p _ fun vo ro O1 Hk1 H1 e1 h1 s1 q1 => q1 Hk1 σ H1 (p.ext e1 h1) _ fun vi ri O2 Hk2 H2 e2 h2 s2 q2 => by
    obtain ⟨a, k, x, rs, rfl, rfl, hm, h0, hx, q2⟩ := q2
    cases (show vo = .ref a from s1)
    cases (show Da Hk2 vi (.int k) from s2)
    obtain ⟨⟨vs, g1, g2⟩, _⟩ := h2.ow _ hm
    obtain ⟨w, w1, w2⟩ := g2.get hx
    cases (show Da Hk2 w (.int x) from w2)
    refine ⟨a, vs, k, _, rfl, rfl, .inl (.inl g1), h0, w1, q2 Hk2 σ H2 ((p.ext e1 h1).ext e2 h2) _ fun v r O3 Hk3 H3 e3 h3 s3 q3 => ?_⟩
    obtain ⟨y, Oa, O4, rfl, hp, hp2, q⟩ := q3
    cases (show Da Hk3 v (.int y) from s3)
    have h' := h3.perm hp
    obtain ⟨⟨us, k1, k2⟩, _⟩ := h'.ow _ List.mem_cons_self
    have hlt := (List.getElem?_eq_some_iff.mp hx).1
    refine ⟨x, y, rfl, rfl, a, us, k, k.toNat, rfl, rfl, k1, ?_, ?_⟩
    · rw [k2.length]
      unfold ixN
      rw [if_pos h0, if_pos (by omega)]
    · exact l.nx _ ds Hk3 σ _ (e1.trans (e2.trans e3)) (p.ext (e1.trans (e2.trans e3)) ((h'.write (k2.set (r := iV (f x y)) (.int _) k.toNat)).perm hp2)) q
end
/-! ### x in xs, data that are alike -/
theorem each_right {α β : Type} {R : α → β → Prop} : ∀ {as : List α} {bs : List β}, PySem.W.EachIs R as bs → ∀ b, b ∈ bs → ∃ a, a ∈ as ∧ R a b
  | _, _, .nil, b, h => absurd h List.not_mem_nil
  | _, _, .cons h t, b, hb => by
    rcases List.mem_cons.mp hb with rfl | hb
    · exact ⟨_, List.mem_cons_self, h⟩
    · obtain ⟨a, h1, h2⟩ := each_right t b hb
      exact ⟨a, List.mem_cons_of_mem _ h1, h2⟩
def rInD (K : PySem.W.Frag) : R2 := fun x y H Q => ∃ (p : Addr) (zs : List (V × PyData)) (d : PyData), y = .ref p ∧ SqL K H p (zs.map (·.1)) ∧ Dp K H x d ∧ (∀ z ∈ zs, Dp K H z.1 z.2) ∧ PySem.W.AllAlike (d :: zs.map (·.2)) ∧ d.depth ≤ 60 ∧ ∀ b : Bool, (d ∈ zs.map (·.2) → b = true) → Q (.bl b) H
theorem kInD {X : Cx} (K : PySem.W.Frag) (hu : X.A.units + 64 < cLine) (hK : X.K = K := by rfl) : OpR X (compareOp .In) (rInD K) := by
  subst hK
  intro pins s σ H x y v u Q I rx ry h
  obtain ⟨p, zs, d, rfl, hq, hx, hz, hal, hdp, q⟩ := h
  cases ry
  obtain ⟨its, r, pl, hl⟩ := I.list hq
  obtain ⟨as, rd⟩ := Dp.reads I d x v hx rx
  have ev := each_vals r
  have hr : ∀ w ∈ its, ∃ e as, e ∈ zs.map (·.2) ∧ Reads s.heap w e as := fun w hw => by
    obtain ⟨z, hm, ⟨h1, h2⟩⟩ := (PySem.W.each_mem ev).left w hw
    obtain ⟨as, h3⟩ := Dp.reads I z.2 z.1 w (hz z h2) h1
    exact ⟨z.2, as, List.mem_map_of_mem h2, h3⟩
  let eq : Value → Bool := fun w => open Classical in if q : ∃ e, e ∈ zs.map (·.2) ∧ ∃ as, Reads s.heap w e as then PyData.eqv q.choose d else false
  have heq : ∀ w e as, e ∈ zs.map (·.2) → Reads s.heap w e as → eq w = PyData.eqv e d := fun w e as he hr => by
    have q : ∃ e, e ∈ zs.map (·.2) ∧ ∃ as, Reads s.heap w e as := ⟨e, he, as, hr⟩
    show (open Classical in if q : ∃ e, e ∈ zs.map (·.2) ∧ ∃ as, Reads s.heap w e as then PyData.eqv q.choose d else false) = _
    rw [dif_pos q]
    obtain ⟨h1, as', h2⟩ := q.choose_spec
    rw [PySem.W.alike_unique _ _ _ _ _ (hal _ (List.mem_cons_of_mem _ h1) _ (List.mem_cons_of_mem _ he)) h2 hr]
  refine SeqAt.in_listAt eq pl.isList (fun w hw => ?_) ⟨.bl _, H, I, rfl, q _ fun hd => ?_⟩
  · obtain ⟨e, as2, he, h2⟩ := hr w (by simpa using hw)
    rw [heq w e as2 he h2]
    refine PySem.W.eqAt_alike e d _ s w v _ _ h2 rd (hal _ (List.mem_cons_of_mem _ he) _ List.mem_cons_self) ?_
    have := Nat.min_le_right e.depth d.depth
    show X.A.units + 1 + min e.depth d.depth < cLine
    omega
  · obtain ⟨z, hm, e⟩ := List.mem_map.mp hd
    obtain ⟨w, hw, h1⟩ := each_right ev z hm
    obtain ⟨as2, h2⟩ := Dp.reads I z.2 z.1 w (hz z hm) h1
    rw [List.any_toArray] <;> try rfl
    refine List.any_eq_true.mpr ⟨w, hw, ?_⟩
    rw [heq w z.2 as2 (List.mem_map_of_mem hm) h2, e]
    exact PySem.W.eqv_refl_alike d (hal d List.mem_cons_self d List.mem_cons_self)
section
variable {K : PySem.W.Frag} {O : Own} {Q : SD → Own → Prop}
theorem o_inD {d : PyData} {es : List PyData} (hal : PySem.W.AllAlike (d :: es)) (hdp : d.depth ≤ 60) (hd : d ∈ es) (q : Q (bV true) O) : OpW K (rInD K) (.dat d) (.dat (.list es)) O Q := fun Hk H h u v hu hv Q' k => by
  cases (show Da Hk v (.list es) from hv) with
  | @lst a xs _ g1 g2 =>
    obtain ⟨z1, z2, z3⟩ := g2.zs
    refine ⟨a, xs.zip es, d, rfl, by rw [z1]; exact .inl (.inl (h.kn _ _ g1)), (Da.mono h.kn (show Da Hk u d from hu)).dp, fun z hz => (Da.mono h.kn (z3 z hz)).dp, by rw [z2]; exact hal, hdp, fun b hb => ?_⟩
    rw [z2] at hb
    rw [hb hd]
    exact k.now h (r := bV _) (.bl _) q
end
end Wk
namespace LW
open PySem PySem.Spec PyProof.Rows L2 Wk
abbrev Pre := List SD → Own → (SD → Own → Prop) → Prop
abbrev PreX := List SD → Own → (SD → Own → Prop) → (Addr → Option (Str × PyData) → Own → Prop) → Prop
abbrev xF (f x : Str) : Option (Str × PyData) := some (f, PyData.str x)
abbrev dic1 (f x : Str) : SD := .dic [(.inr f, PyData.str x)]
abbrev dL (rs : List (List (List Int))) : List SD := rs.map fun r => SD.dat (lS r)
abbrev dS (cs : List (List Int)) : List SD := cs.map fun c => SD.dat (tI c)
def TapeOk (ts : List Int) : Prop := ∀ t ∈ ts, 0 ≤ t ∧ t < 2147483629
abbrev Sta (st : Addr) (ts : List Int) (k : Int) : Addr × OD := (st, .lst [.dat (lI ts), iV k])
theorem TapeOk.snoc {ts : List Int} {t : Int} (h : TapeOk ts) (h0 : 0 ≤ t) (h1 : t < 2147483629) : TapeOk (ts ++ [t]) := fun x hx => by
  rcases List.mem_append.mp hx with hx | hx
  · exact h x hx
  · have e : x = t := by simpa using hx
    rw [e]; exact ⟨h0, h1⟩
theorem getD_mem {ts : List Int} {P : Int → Prop} (h : ∀ t ∈ ts, P t) {i : Int} (h0 : 0 ≤ i) (h1 : i < ts.length) : P (ts.getD i.toNat 0) := by
  obtain ⟨j, rfl⟩ : ∃ j : Nat, i = (j : Int) := ⟨i.toNat, by omega⟩
  have hj : j < ts.length := by omega
  rw [Int.toNat_natCast, List.getD_eq_getElem?_getD, List.getElem?_eq_getElem hj]
  exact h _ (List.getElem_mem hj)
theorem no_neB {b : Bool} {p : Prop} (h : b = true ↔ p) (hp : p) (hf : (!b) = true) : False := by
  rw [h.mpr hp] at hf
  cases hf
/-! ### shapes: parts from 0 on -/
def px (ns : List Int) (i : Nat) : Int := ns.getD i 0
def pt (ns : List Int) (r : Int) : Int := px ns (r - 1).toNat
structure Sh (ns : List Int) : Prop where
  pos : ∀ v ∈ ns, 0 < v
  desc : ns.Pairwise (fun a b => b ≤ a)
theorem px_nil (i : Nat) : px [] i = 0 := rfl
theorem px_zero (v : Int) (r : List Int) : px (v :: r) 0 = v := rfl
theorem px_succ (v : Int) (r : List Int) (i : Nat) : px (v :: r) (i + 1) = px r i := rfl
theorem px_ge {ns : List Int} {i : Nat} (h : ns.length ≤ i) : px ns i = 0 := by
  unfold px
  rw [List.getD_eq_getElem?_getD, List.getElem?_eq_none h]
  rfl
theorem px_lt {ns : List Int} {i : Nat} (h : i < ns.length) : px ns i = ns[i] := by
  unfold px
  rw [List.getD_eq_getElem?_getD, List.getElem?_eq_getElem h]
  rfl
theorem px_mem {ns : List Int} {i : Nat} (h : i < ns.length) : px ns i ∈ ns := by
  rw [px_lt h]
  exact List.getElem_mem h
theorem pt_1 (ns : List Int) (i : Nat) : pt ns (1 + (i : Int)) = px ns i := by
  unfold pt
  rw [show ((1 : Int) + (i : Int) - 1).toNat = i by omega]
theorem pt_2 (ns : List Int) (i : Nat) : pt ns (1 + (i : Int) + 1) = px ns (i + 1) := by
  unfold pt
  rw [show ((1 : Int) + (i : Int) + 1 - 1).toNat = i + 1 by omega]
theorem pt_3 (ns : List Int) (i : Nat) : pt ns (2 + (i : Int)) = px ns (i + 1) := by
  unfold pt
  rw [show ((2 : Int) + (i : Int) - 1).toNat = i + 1 by omega]
theorem pt_4 (ns : List Int) (i : Nat) : pt ns (2 + (i : Int) - 1) = px ns i := by
  unfold pt
  rw [show ((2 : Int) + (i : Int) - 1 - 1).toNat = i by omega]
theorem pt_one (ns : List Int) : pt ns 1 = px ns 0 := rfl
theorem Sh.nil : Sh [] := ⟨fun _ h => absurd h List.not_mem_nil, List.Pairwise.nil⟩
theorem Sh.tail {v : Int} {r : List Int} (h : Sh (v :: r)) : Sh r := ⟨fun x hx => h.pos x (List.mem_cons_of_mem _ hx), (List.pairwise_cons.mp h.desc).2⟩
theorem Sh.px_pos {ns : List Int} (h : Sh ns) {i : Nat} (hi : i < ns.length) : 0 < px ns i := h.pos _ (px_mem hi)
theorem Sh.nonneg {ns : List Int} (h : Sh ns) (i : Nat) : 0 ≤ px ns i := by
  by_cases hi : i < ns.length
  · exact Int.le_of_lt (h.px_pos hi)
  · rw [px_ge (by omega)]
    exact Int.le_refl 0
theorem Sh.anti {ns : List Int} (h : Sh ns) (i : Nat) : px ns (i + 1) ≤ px ns i := by
  by_cases hi : i + 1 < ns.length
  · rw [px_lt hi, px_lt (by omega)]
    exact (List.pairwise_iff_getElem.mp h.desc) i (i + 1) (by omega) hi (by omega)
  · rw [px_ge (show ns.length ≤ i + 1 by omega)]
    exact h.nonneg i
theorem Sh.anti' {ns : List Int} (h : Sh ns) {i j : Nat} (hij : i ≤ j) : px ns j ≤ px ns i := by
  induction j with
  | zero =>
    have : i = 0 := by omega
    rw [this]
    exact Int.le_refl _
  | succ j ih =>
    by_cases e : i = j + 1
    · rw [e]
      exact Int.le_refl _
    · exact Int.le_trans (h.anti j) (ih (by omega))
theorem Sh.ext : ∀ {a b : List Int}, Sh a → Sh b → (∀ i, px a i = px b i) → a = b
  | [], [], _, _, _ => rfl
  | [], y :: s, _, hb, h => by
    have := h 0
    rw [px_nil, px_zero] at this
    have := hb.pos y List.mem_cons_self
    omega
  | x :: r, [], ha, _, h => by
    have := h 0
    rw [px_nil, px_zero] at this
    have := ha.pos x List.mem_cons_self
    omega
  | x :: r, y :: s, ha, hb, h => by
    have h0 := h 0
    rw [px_zero, px_zero] at h0
    rw [h0, Sh.ext ha.tail hb.tail fun i => h (i + 1)]
/-- all zeros left out -/
def trim (ns : List Int) : List Int := ns.filter fun v => !decide (v = 0)
theorem trim_len (ns : List Int) : (trim ns).length ≤ ns.length := List.length_filter_le _ _
theorem trim_all0 : ∀ {ns : List Int}, (∀ i, px ns i = 0) → trim ns = []
  | [], _ => rfl
  | v :: r, h => by
    have h0 := h 0
    rw [px_zero] at h0
    unfold trim
    rw [List.filter_cons, if_neg (by rw [h0]; decide)]
    exact trim_all0 fun i => h (i + 1)
theorem trim_sh : ∀ {ns : List Int}, (∀ i, 0 ≤ px ns i) → (∀ i, px ns (i + 1) ≤ px ns i) → Sh (trim ns) ∧ ∀ i, px (trim ns) i = px ns i
  | [], _, _ => ⟨Sh.nil, fun _ => rfl⟩
  | v :: r, h0, h1 => by
    obtain ⟨s1, s2⟩ := trim_sh (ns := r) (fun i => h0 (i + 1)) (fun i => h1 (i + 1))
    by_cases hv : v = 0
    · have all : ∀ i, px (v :: r) i = 0 := by
        intro i
        induction i with
        | zero => rw [px_zero, hv]
        | succ i ih =>
          have a := h0 (i + 1)
          have b := h1 i
          omega
      rw [trim_all0 all]
      exact ⟨Sh.nil, fun i => by rw [px_nil, all]⟩
    · have e : trim (v :: r) = v :: trim r := by
        unfold trim
        rw [List.filter_cons, if_pos (by simpa using hv)]
      rw [e]
      have p0 := h0 0
      rw [px_zero] at p0
      refine ⟨⟨fun x hx => ?_, List.pairwise_cons.mpr ⟨fun x hx => ?_, s1.desc⟩⟩, fun i => ?_⟩
      · rcases List.mem_cons.mp hx with rfl | hx
        · omega
        · exact s1.pos x hx
      · obtain ⟨j, hj, rfl⟩ := List.mem_iff_getElem.mp hx
        rw [← px_lt hj, s2 j]
        have : ∀ j, px r j ≤ v := by
          intro j
          induction j with
          | zero => exact h1 0
          | succ j ih => exact Int.le_trans (h1 (j + 1)) ih
        exact this j
      · cases i with
        | zero => rfl
        | succ i => exact s2 i
/-- a list by its parts -/
def ofN (n : Nat) (f : Nat → Int) : List Int := (List.range n).map f
theorem ofN_len (n : Nat) (f : Nat → Int) : (ofN n f).length = n := by
  unfold ofN
  rw [List.length_map, List.length_range]
theorem px_ofN (n : Nat) (f : Nat → Int) (i : Nat) : px (ofN n f) i = if i < n then f i else 0 := by
  by_cases h : i < n
  · rw [if_pos h, px_lt (by rw [ofN_len]; exact h)]
    unfold ofN
    rw [List.getElem_map, List.getElem_range]
  · rw [if_neg h, px_ge (by rw [ofN_len]; omega)]
theorem ofN_succ (n : Nat) (f : Nat → Int) : ofN (n + 1) f = ofN n f ++ [f n] := by
  unfold ofN
  rw [List.range_succ, List.map_append]
  rfl
theorem trim_sh_of {l : List Int} {f : Nat → Int} (e : ∀ i, px l i = f i) (h0 : ∀ i, 0 ≤ f i) (h1 : ∀ i, f (i + 1) ≤ f i) : Sh (trim l) ∧ ∀ i, px (trim l) i = f i := by
  obtain ⟨a, b⟩ := trim_sh (ns := l) (fun i => by rw [e]; exact h0 i) (fun i => by rw [e, e]; exact h1 i)
  exact ⟨a, fun i => (b i).trans (e i)⟩
/-- the first is a strip over the second -/
def Strip (u l : List Int) : Prop := ∀ i, px l i ≤ px u i ∧ px u (i + 1) ≤ px l i
def stripB (u l : List Int) : Bool := (List.range (max u.length l.length)).all fun i => decide (px l i ≤ px u i ∧ px u (i + 1) ≤ px l i)
theorem stripB_iff {u l : List Int} : stripB u l = true ↔ Strip u l := by
  unfold stripB Strip
  rw [List.all_eq_true]
  constructor
  · intro h i
    by_cases hi : i < max u.length l.length
    · exact of_decide_eq_true (h i (List.mem_range.mpr hi))
    · rw [px_ge (show u.length ≤ i by omega), px_ge (show l.length ≤ i by omega), px_ge (show u.length ≤ i + 1 by omega)]
      exact ⟨Int.le_refl _, Int.le_refl _⟩
  · intro h i _
    exact decide_eq_true (h i)
theorem stripB_false {u l : List Int} {i : Nat} (h : ¬ (px l i ≤ px u i ∧ px u (i + 1) ≤ px l i)) : stripB u l = false := by
  cases e : stripB u l with
  | false => rfl
  | true => exact absurd (stripB_iff.mp e i) h
theorem stripB_true {u l : List Int} (h : Strip u l) : stripB u l = true := stripB_iff.mpr h
theorem strip_of {u l : List Int} {n : Nat} (hn : max u.length l.length ≤ n) (h : ∀ i, i < n → px l i ≤ px u i ∧ px u (i + 1) ≤ px l i) : Strip u l := fun i => by
  by_cases hi : i < n
  · exact h i hi
  · rw [px_ge (show u.length ≤ i by omega), px_ge (show l.length ≤ i by omega), px_ge (show u.length ≤ i + 1 by omega)]
    exact ⟨Int.le_refl _, Int.le_refl _⟩
theorem Strip.refl {u : List Int} (h : Sh u) : Strip u u := fun i => ⟨Int.le_refl _, h.anti i⟩
theorem Strip.len {u l : List Int} (s : Strip u l) (hu : Sh u) (hl : Sh l) : l.length ≤ u.length ∧ u.length ≤ l.length + 1 := by
  constructor
  · by_cases h : l.length ≤ u.length
    · exact h
    · have a := (s u.length).1
      rw [px_ge (ns := u) (Nat.le_refl _)] at a
      have := hl.px_pos (i := u.length) (by omega)
      omega
  · by_cases h : u.length ≤ l.length + 1
    · exact h
    · have a := (s l.length).2
      rw [px_ge (ns := l) (Nat.le_refl _)] at a
      have := hu.px_pos (i := l.length + 1) (by omega)
      omega
theorem px_snoc_lt {us : List Int} {v : Int} {j : Nat} (h : j < us.length) : px (us ++ [v]) j = px us j := by
  rw [px_lt h, px_lt (by rw [List.length_append]; omega), List.getElem_append_left h]
theorem px_snoc_eq {us : List Int} {v : Int} {j : Nat} (h : us.length = j) : px (us ++ [v]) j = v := by
  subst h
  rw [px_lt (by rw [List.length_append]; simp), List.getElem_append_right (Nat.le_refl _)]
  simp
theorem map_get {α β : Type} {f : α → β} {ns : List α} {i : Nat} {d : β} (h : (ns.map f)[i]? = some d) : ∃ v, ns[i]? = some v ∧ d = f v := by
  rw [List.getElem?_map] at h
  cases hn : ns[i]? with
  | none => rw [hn] at h; cases h
  | some v => rw [hn] at h; cases h; exact ⟨v, rfl, rfl⟩
theorem take_next {α : Type} {ns : List α} {i : Nat} {v : α} (h : ns[i]? = some v) : ns.take (i + 1) = ns.take i ++ [v] := by
  rw [List.take_add_one, h]
  rfl
theorem trim_snoc (ns : List Int) (v : Int) : trim (ns ++ [v]) = trim ns ++ (if v = 0 then [] else [v]) := by
  unfold trim
  rw [List.filter_append]
  congr 1
  by_cases h : v = 0
  · rw [if_pos h, List.filter_cons, if_neg (by rw [h]; decide)]
    rfl
  · rw [if_neg h, List.filter_cons, if_pos (by simpa using h)]
    rfl
/-- drawn over ns, n places behind the first -/
structure OverI (ns us : List Int) (n : Nat) : Prop where
  len : us.length = n + 1
  fst : px ns 0 ≤ px us 0
  oth : ∀ j, j < n → px ns (j + 1) ≤ px us (j + 1) ∧ px us (j + 1) ≤ px ns j
theorem OverI.snoc {ns us : List Int} {n : Nat} {v : Int} (h : OverI ns us n) (h1 : px ns (n + 1) ≤ v) (h2 : v ≤ px ns n) : OverI ns (us ++ [v]) (n + 1) := by
  refine ⟨by rw [List.length_append, h.len]; rfl, by rw [px_snoc_lt (by rw [h.len]; omega)]; exact h.fst, fun j hj => ?_⟩
  by_cases e : j = n
  · subst e
    rw [px_snoc_eq h.len]
    exact ⟨h1, h2⟩
  · rw [px_snoc_lt (by rw [h.len]; omega)]
    exact h.oth j (by omega)
theorem OverI.fin {ns us : List Int} (h : OverI ns us ns.length) (s : Sh ns) : Sh (trim us) ∧ Strip (trim us) ns ∧ (trim us).length ≤ ns.length + 1 := by
  have hz : ∀ i, ns.length < i → px us i = 0 := fun i hi => px_ge (by rw [h.len]; omega)
  have step : ∀ i, px us (i + 1) ≤ px ns i := fun i => by
    by_cases hi : i < ns.length
    · exact (h.oth i hi).2
    · rw [hz (i + 1) (by omega)]
      exact s.nonneg i
  have above : ∀ i, px ns i ≤ px us i := fun i => by
    cases i with
    | zero => exact h.fst
    | succ i =>
      by_cases hi : i < ns.length
      · exact (h.oth i hi).1
      · rw [px_ge (show ns.length ≤ i + 1 by omega), hz (i + 1) (by omega)]
        exact Int.le_refl _
  obtain ⟨a, b⟩ := trim_sh_of (l := us) (f := px us) (fun _ => rfl) (fun i => Int.le_trans (s.nonneg i) (above i)) (fun i => Int.le_trans (step i) (above i))
  exact ⟨a, fun i => ⟨by rw [b]; exact above i, by rw [b]; exact step i⟩, by rw [← h.len]; exact trim_len us⟩
/-- drawn below ns, n places -/
structure BelI (ns us : List Int) (n : Nat) : Prop where
  len : us.length = n
  oth : ∀ j, j < n → px ns (j + 1) ≤ px us j ∧ px us j ≤ px ns j
theorem BelI.snoc {ns us : List Int} {n : Nat} {v : Int} (h : BelI ns us n) (h1 : px ns (n + 1) ≤ v) (h2 : v ≤ px ns n) : BelI ns (us ++ [v]) (n + 1) := by
  refine ⟨by rw [List.length_append, h.len]; rfl, fun j hj => ?_⟩
  by_cases e : j = n
  · subst e
    rw [px_snoc_eq h.len]
    exact ⟨h1, h2⟩
  · rw [px_snoc_lt (by rw [h.len]; omega)]
    exact h.oth j (by omega)
theorem BelI.fin {ns us : List Int} (h : BelI ns us ns.length) (s : Sh ns) : Sh (trim us) ∧ Strip ns (trim us) ∧ (trim us).length ≤ ns.length := by
  have hz : ∀ i, ns.length ≤ i → px us i = 0 := fun i hi => px_ge (by rw [h.len]; omega)
  have lo : ∀ i, px ns (i + 1) ≤ px us i := fun i => by
    by_cases hi : i < ns.length
    · exact (h.oth i hi).1
    · rw [px_ge (show ns.length ≤ i + 1 by omega), hz i (by omega)]
      exact Int.le_refl _
  have up : ∀ i, px us i ≤ px ns i := fun i => by
    by_cases hi : i < ns.length
    · exact (h.oth i hi).2
    · rw [px_ge (show ns.length ≤ i by omega), hz i (by omega)]
      exact Int.le_refl _
  obtain ⟨a, b⟩ := trim_sh_of (l := us) (f := px us) (fun _ => rfl) (fun i => Int.le_trans (s.nonneg (i + 1)) (lo i)) (fun i => Int.le_trans (up (i + 1)) (lo i))
  exact ⟨a, fun i => ⟨by rw [b]; exact up i, by rw [b]; exact lo i⟩, by rw [← h.len]; exact trim_len us⟩
/-- a falling list of numbers that are not negative, its zeros left out -/
theorem sh_of_sorted {ms : List Int} (hs : ms.Pairwise (fun a b => a ≤ b)) (h0 : ∀ v ∈ ms, 0 ≤ v) : Sh (trim ms.reverse) := by
  refine ⟨fun v hv => ?_, ?_⟩
  · unfold trim at hv
    rw [List.mem_filter] at hv
    have := h0 v (List.mem_reverse.mp hv.1)
    have hne : v ≠ 0 := by simpa using hv.2
    omega
  · exact (List.pairwise_reverse.mpr hs).filter _
/-! ### tableaux: rows of letters -/
def fg (r : List Int) (x : Int) : Nat := r.findIdx fun y => decide (x < y)
def putR (r : List Int) (x : Int) : List Int := if fg r x = r.length then r ++ [x] else r.set (fg r x) x
def insT : List (List Int) → Int → List (List Int) × Nat
  | [], x => ([[x]], 1)
  | r :: rs, x => if fg r x = r.length then ((r ++ [x]) :: rs, 1) else (r.set (fg r x) x :: (insT rs (r.getD (fg r x) 0)).1, (insT rs (r.getD (fg r x) 0)).2 + 1)
def Asc (r : List Int) : Prop := r.Pairwise (· ≤ ·)
def Fit (a b : List Int) : Prop := b.length ≤ a.length ∧ ∀ j, j < b.length → a.getD j 0 < b.getD j 0
def Tab : List (List Int) → Prop
  | [] => True
  | r :: rs => r ≠ [] ∧ Asc r ∧ Fit r (rs.headD []) ∧ Tab rs
def Let (rs : List (List Int)) : Prop := ∀ r ∈ rs, ∀ v ∈ r, 1 ≤ v ∧ v ≤ 60
def szT (rs : List (List Int)) : Nat := (rs.map List.length).sum
theorem fg_le (r : List Int) (x : Int) : fg r x ≤ r.length := List.findIdx_le_length
theorem gD {r : List Int} {j : Nat} (h : j < r.length) : r.getD j 0 = r[j] := by
  rw [List.getD_eq_getElem?_getD, List.getElem?_eq_getElem h]
  rfl
theorem fg_lt {r : List Int} {x : Int} {i : Nat} (h : i < fg r x) : r.getD i 0 ≤ x := by
  have hl : i < r.length := Nat.lt_of_lt_of_le h (fg_le r x)
  have := List.not_of_lt_findIdx h
  rw [gD hl]
  simpa using this
theorem fg_at {r : List Int} {x : Int} (h : fg r x < r.length) : x < r.getD (fg r x) 0 := by
  have := List.findIdx_getElem (xs := r) (p := fun y => decide (x < y)) (w := h)
  rw [gD h]
  exact of_decide_eq_true this
theorem fg_of {r : List Int} {x : Int} {i : Nat} (hi : i < r.length) (h : x < r.getD i 0) : fg r x ≤ i := by
  rcases Nat.lt_or_ge i (fg r x) with z | z
  · have := fg_lt z
    omega
  · exact z
theorem fg_eq {r : List Int} {x : Int} {i : Nat} (hi : i < r.length) (h : x < r.getD i 0) (hb : ∀ k, k < i → r.getD k 0 ≤ x) : fg r x = i := by
  have h1 := fg_of hi h
  rcases Nat.lt_or_ge (fg r x) i with z | z
  · have h2 := fg_at (r := r) (x := x) (by omega)
    have := hb _ z
    omega
  · omega
theorem fg_full {r : List Int} {x : Int} (h : ∀ k, k < r.length → r.getD k 0 ≤ x) : fg r x = r.length := by
  have h1 := fg_le r x
  rcases Nat.lt_or_ge (fg r x) r.length with z | z
  · have h2 := fg_at (r := r) (x := x) z
    have := h _ z
    omega
  · omega
theorem Asc.le {r : List Int} (h : Asc r) {i j : Nat} (hij : i ≤ j) (hj : j < r.length) : r.getD i 0 ≤ r.getD j 0 := by
  rw [gD hj, gD (by omega)]
  rcases Nat.lt_or_ge i j with z | z
  · exact (List.pairwise_iff_getElem.mp h) i j (by omega) hj z
  · have e : i = j := by omega
    subst e
    exact Int.le_refl _
theorem Asc.of {r : List Int} (h : ∀ i j, i < j → j < r.length → r.getD i 0 ≤ r.getD j 0) : Asc r := by
  refine List.pairwise_iff_getElem.mpr fun i j hi hj hij => ?_
  have := h i j hij hj
  rw [gD hi, gD hj] at this
  exact this
theorem set_gD (r : List Int) (j i : Nat) (x : Int) (hi : i < r.length) : (r.set j x).getD i 0 = if j = i then x else r.getD i 0 := by
  rw [gD (by rw [List.length_set]; exact hi), List.getElem_set, gD hi]
theorem app_gD (r : List Int) (i : Nat) (x : Int) (hi : i < r.length) : (r ++ [x]).getD i 0 = r.getD i 0 := by
  rw [gD (by rw [List.length_append]; simp; omega), List.getElem_append_left hi, gD hi]
theorem app_gDn (r : List Int) (x : Int) : (r ++ [x]).getD r.length 0 = x := by
  rw [gD (by rw [List.length_append]; simp), List.getElem_append_right (by omega)]
  simp
theorem Asc.app {r : List Int} (h : Asc r) {x : Int} (hx : ∀ k, k < r.length → r.getD k 0 ≤ x) : Asc (r ++ [x]) := Asc.of fun i j hij hj => by
  rw [List.length_append] at hj
  simp only [List.length_cons, List.length_nil] at hj
  rw [app_gD r i x (by omega)]
  rcases Nat.lt_or_ge j r.length with z | z
  · rw [app_gD r j x z]
    exact h.le (by omega) z
  · have e : j = r.length := by omega
    subst e
    rw [app_gDn]
    exact hx i (by omega)
theorem Asc.put {r : List Int} (h : Asc r) (x : Int) : Asc (putR r x) := by
  unfold putR
  split
  · rename_i e
    exact h.app fun k hk => fg_lt (by omega)
  · rename_i e
    have hl := fg_le r x
    refine Asc.of fun i j hij hj => ?_
    rw [List.length_set] at hj
    rw [set_gD _ _ _ _ (by omega), set_gD _ _ _ _ hj]
    split
    · rename_i e1
      rw [if_neg (by omega)]
      have h1 := fg_at (r := r) (x := x) (by omega)
      have h2 := h.le (i := fg r x) (j := j) (by omega) hj
      omega
    · split
      · rename_i e1 e2
        exact fg_lt (by omega)
      · exact h.le (by omega) hj
theorem putR_len (r : List Int) (x : Int) : (putR r x).length = if fg r x = r.length then r.length + 1 else r.length := by
  unfold putR
  split
  · simp
  · simp
theorem putR_ne (r : List Int) (x : Int) : putR r x ≠ [] := fun z => by
  have e := putR_len r x
  rw [z] at e
  have := fg_le r x
  split at e
  · cases e
  · simp only [List.length_nil] at e
    omega
theorem ins_head (rs : List (List Int)) (y : Int) : (insT rs y).1.headD [] = putR (rs.headD []) y := by
  cases rs with
  | nil => rfl
  | cons s t =>
    show (insT (s :: t) y).1.headD [] = putR s y
    unfold insT putR
    split <;> rfl
theorem Fit.app {a b : List Int} (h : Fit a b) (x : Int) : Fit (a ++ [x]) b := ⟨by rw [List.length_append]; have := h.1; omega, fun j hj => by
  have := h.1
  rw [app_gD _ _ _ (by omega)]
  exact h.2 j hj⟩
theorem Fit.put {r s : List Int} {x : Int} (h : Fit r s) (hr : Asc r) (hs : Asc s) (hj : fg r x < r.length) : Fit (r.set (fg r x) x) (putR s (r.getD (fg r x) 0)) := by
  have h0 := h.1
  have hx := fg_at hj
  have hle := fg_le s (r.getD (fg r x) 0)
  have hj2 : fg s (r.getD (fg r x) 0) ≤ fg r x := by
    rcases Nat.lt_or_ge (fg r x) s.length with z | z
    · exact fg_of z (h.2 _ z)
    · omega
  refine ⟨by rw [putR_len, List.length_set]; split <;> omega, fun j hjl => ?_⟩
  rw [putR_len] at hjl
  have hjr : j < r.length := by split at hjl <;> omega
  rw [set_gD _ _ _ _ hjr]
  have key : (if fg r x = j then x else r.getD j 0) ≤ r.getD j 0 := by
    split
    · rename_i e
      rw [← e]
      omega
    · omega
  by_cases e : fg s (r.getD (fg r x) 0) = s.length
  · have ep : putR s (r.getD (fg r x) 0) = s ++ [r.getD (fg r x) 0] := if_pos e
    rw [ep]
    rcases Nat.lt_or_ge j s.length with z | z
    · rw [app_gD _ _ _ z]
      have := h.2 j z
      omega
    · rw [if_pos e] at hjl
      have ej : j = s.length := by omega
      subst ej
      rw [app_gDn]
      split
      · omega
      · rename_i ne
        have := fg_lt (r := r) (x := x) (i := s.length) (by omega)
        omega
  · have ep : putR s (r.getD (fg r x) 0) = s.set (fg s (r.getD (fg r x) 0)) (r.getD (fg r x) 0) := if_neg e
    rw [ep]
    rw [if_neg e] at hjl
    rw [set_gD _ _ _ _ hjl]
    by_cases ej : fg s (r.getD (fg r x) 0) = j
    · rw [if_pos ej]
      by_cases e2 : fg r x = j
      · rw [if_pos e2]
        omega
      · rw [if_neg e2]
        have := fg_lt (r := r) (x := x) (i := j) (by omega)
        omega
    · rw [if_neg ej]
      have := h.2 j hjl
      omega
theorem Tab.headA {rs : List (List Int)} (h : Tab rs) : Asc (rs.headD []) := by
  cases rs with
  | nil => exact List.Pairwise.nil
  | cons r t => exact h.2.1
theorem insT_tab : ∀ {rs : List (List Int)} {x : Int}, Tab rs → Tab (insT rs x).1
  | [], x, _ => ⟨List.cons_ne_nil _ _, List.pairwise_singleton _ _, ⟨Nat.zero_le _, fun j h => absurd h (Nat.not_lt_zero _)⟩, trivial⟩
  | r :: rs, x, h => by
    have hp := h.2.1.put x
    have hn := putR_ne r x
    unfold insT
    unfold putR at hp hn
    split
    · rename_i e
      rw [if_pos e] at hp hn
      exact ⟨hn, hp, h.2.2.1.app x, h.2.2.2⟩
    · rename_i e
      rw [if_neg e] at hp hn
      have hl := fg_le r x
      refine ⟨hn, hp, ?_, insT_tab h.2.2.2⟩
      rw [ins_head]
      exact h.2.2.1.put h.2.1 h.2.2.2.headA (by omega)
theorem mem_set_or {r : List Int} {j : Nat} {x v : Int} (h : v ∈ r.set j x) : v ∈ r ∨ v = x := List.mem_or_eq_of_mem_set h
theorem insT_let : ∀ {rs : List (List Int)} {x : Int}, Let rs → 1 ≤ x → x ≤ 60 → Let (insT rs x).1
  | [], x, _, h1, h2 => fun r hr v hv => by
    rw [List.mem_singleton.mp hr] at hv
    rw [List.mem_singleton.mp hv]
    exact ⟨h1, h2⟩
  | r :: rs, x, h, h1, h2 => by
    unfold insT
    have hr := h r List.mem_cons_self
    have ht : Let rs := fun q hq => h q (List.mem_cons_of_mem _ hq)
    split
    · intro q hq v hv
      rcases List.mem_cons.mp hq with e | hq
      · rw [e] at hv
        rcases List.mem_append.mp hv with hv | hv
        · exact hr v hv
        · rw [List.mem_singleton.mp hv]
          exact ⟨h1, h2⟩
      · exact ht q hq v hv
    · rename_i e
      have hl := fg_le r x
      have hy : r.getD (fg r x) 0 ∈ r := by
        rw [gD (by omega)]
        exact List.getElem_mem _
      intro q hq v hv
      rcases List.mem_cons.mp hq with e | hq
      · rw [e] at hv
        rcases mem_set_or hv with hv | hv
        · exact hr v hv
        · rw [hv]
          exact ⟨h1, h2⟩
      · exact insT_let ht (hr _ hy).1 (hr _ hy).2 q hq v hv
theorem insT_size : ∀ (rs : List (List Int)) (x : Int), szT (insT rs x).1 = szT rs + 1
  | [], x => rfl
  | r :: rs, x => by
    unfold insT
    split
    · simp only [szT, List.map_cons, List.sum_cons, List.length_append, List.length_cons, List.length_nil]
      omega
    · have := insT_size rs (r.getD (fg r x) 0)
      simp only [szT, List.map_cons, List.sum_cons, List.length_set] at this ⊢
      omega
theorem insT_no : ∀ (rs : List (List Int)) (x : Int), 1 ≤ (insT rs x).2 ∧ (insT rs x).2 ≤ rs.length + 1
  | [], x => ⟨Nat.le_refl _, Nat.le_refl _⟩
  | r :: rs, x => by
    unfold insT
    have := insT_no rs (r.getD (fg r x) 0)
    split
    · simp
    · simp only [List.length_cons]
      omega
def madeT (w : List Int) : List (List Int) := w.foldl (fun t x => (insT t x).1) []
theorem made_snoc (w : List Int) (x : Int) : madeT (w ++ [x]) = (insT (madeT w) x).1 := by
  unfold madeT
  rw [List.foldl_append]
  rfl
theorem made_ok (w : List Int) (h : ∀ v ∈ w, 1 ≤ v ∧ v ≤ 60) : Tab (madeT w) ∧ Let (madeT w) ∧ szT (madeT w) = w.length := by
  suffices H : ∀ (w : List Int) (t : List (List Int)), (∀ v ∈ w, 1 ≤ v ∧ v ≤ 60) → Tab t → Let t → Tab (w.foldl (fun t x => (insT t x).1) t) ∧ Let (w.foldl (fun t x => (insT t x).1) t) ∧ szT (w.foldl (fun t x => (insT t x).1) t) = szT t + w.length by
    have := H w [] h trivial (fun _ h => absurd h List.not_mem_nil)
    simp only [szT, List.map_nil, List.sum_nil, Nat.zero_add] at this
    exact this
  intro w
  induction w with
  | nil => exact fun t _ h1 h2 => ⟨h1, h2, rfl⟩
  | cons x w ih =>
    intro t hw h1 h2
    have hx := hw x List.mem_cons_self
    have := ih (insT t x).1 (fun v hv => hw v (List.mem_cons_of_mem _ hv)) (insT_tab h1) (insT_let h2 hx.1 hx.2)
    rw [insT_size] at this
    refine ⟨this.1, this.2.1, ?_⟩
    rw [List.foldl_cons, this.2.2, List.length_cons]
    omega
def WordOk (n : Nat) (w : List Int) : Prop := w.length ≤ n ∧ ∀ v ∈ w, 1 ≤ v ∧ v ≤ 60
/-! ### taking out -/
def ll (r : List Int) (x : Int) : Nat → Nat
  | 0 => 0
  | n + 1 => if r.getD (n + 1) 0 < x then n + 1 else ll r x n
theorem ll_ok (r : List Int) (x : Int) : ∀ (n i : Nat), i ≤ n → r.getD i 0 < x → i ≤ ll r x n ∧ ll r x n ≤ n ∧ r.getD (ll r x n) 0 < x ∧ ∀ k, ll r x n < k → k ≤ n → x ≤ r.getD k 0
  | 0, i, hi, h => by
    have e : i = 0 := by omega
    subst e
    exact ⟨Nat.le_refl _, Nat.le_refl _, h, fun k h1 h2 => by unfold ll at h1; omega⟩
  | n + 1, i, hi, h => by
    unfold ll
    split
    · rename_i hx
      exact ⟨hi, Nat.le_refl _, hx, fun k h1 h2 => by omega⟩
    · rename_i hx
      have hi2 : i ≤ n := by
        rcases Nat.lt_or_ge n i with z | z
        · have e : i = n + 1 := by omega
          subst e
          omega
        · exact z
      obtain ⟨h1, h2, h3, h4⟩ := ll_ok r x n i hi2 h
      refine ⟨h1, by omega, h3, fun k h5 h6 => ?_⟩
      rcases Nat.lt_or_ge n k with z | z
      · have e : k = n + 1 := by omega
        subst e
        omega
      · exact h4 k h5 z
theorem ll_eq {r : List Int} {x : Int} {n i : Nat} (hi : i ≤ n) (h : r.getD i 0 < x) (ha : ∀ k, i < k → k ≤ n → x ≤ r.getD k 0) : ll r x n = i := by
  obtain ⟨h1, h2, h3, h4⟩ := ll_ok r x n i hi h
  rcases Nat.lt_or_ge i (ll r x n) with z | z
  · have := ha _ z h2
    omega
  · omega
def outT : List (List Int) → Nat → List (List Int) × Int
  | [], _ => ([], 0)
  | r :: rs, 0 => (if r.length ≤ 1 then rs else r.dropLast :: rs, r.getD (r.length - 1) 0)
  | r :: rs, k + 1 => (r.set (ll r (outT rs k).2 (r.length - 1)) (outT rs k).2 :: (outT rs k).1, r.getD (ll r (outT rs k).2 (r.length - 1)) 0)
def Cor (rs : List (List Int)) (k : Nat) : Prop := k < rs.length ∧ (rs.getD (k + 1) []).length < (rs.getD k []).length
theorem Cor.tail {r : List Int} {rs : List (List Int)} {k : Nat} (h : Cor (r :: rs) (k + 1)) : Cor rs k := ⟨by have := h.1; rw [List.length_cons] at this; omega, h.2⟩
theorem drop_gD (r : List Int) {i : Nat} (hi : i < r.length - 1) : r.dropLast.getD i 0 = r.getD i 0 := by
  rw [gD (by rw [List.length_dropLast]; exact hi), gD (by omega), List.getElem_dropLast]
theorem last_app {r : List Int} (h : 0 < r.length) : r.dropLast ++ [r.getD (r.length - 1) 0] = r := by
  have hn : r ≠ [] := fun z => by rw [z] at h; exact Nat.lt_irrefl _ h
  rw [gD (by omega)]
  have := List.dropLast_concat_getLast hn
  rw [List.getLast_eq_getElem] at this
  exact this
theorem Fit.nil (a : List Int) : Fit a [] := ⟨Nat.zero_le _, fun j h => absurd h (Nat.not_lt_zero _)⟩
theorem Asc.set {s : List Int} (h : Asc s) {j : Nat} {y : Int} (hj : j < s.length) (hy : s.getD j 0 < y) (ha : ∀ k, j < k → k ≤ s.length - 1 → y ≤ s.getD k 0) : Asc (s.set j y) := Asc.of fun a b hab hb => by
  rw [List.length_set] at hb
  rw [set_gD _ _ _ _ (by omega), set_gD _ _ _ _ hb]
  by_cases e1 : j = a
  · rw [if_pos e1, if_neg (by omega)]
    exact ha b (by omega) (by omega)
  · rw [if_neg e1]
    by_cases e2 : j = b
    · rw [if_pos e2]
      have := h.le (i := a) (j := j) (by omega) hj
      omega
    · rw [if_neg e2]
      exact h.le (by omega) hb
theorem set_set_gD {s : List Int} {j : Nat} (y : Int) (hj : j < s.length) : (s.set j y).set j (s.getD j 0) = s := by
  rw [List.set_set, gD hj, List.set_getElem_self]
theorem set_at {s : List Int} {j : Nat} (y : Int) (hj : j < s.length) : (s.set j y).getD j 0 = y := by
  rw [set_gD _ _ _ _ hj, if_pos rfl]
theorem headD_cons {α : Type} (a : α) (l : List α) (d : α) : (a :: l).headD d = a := rfl
theorem getD_one (r : List Int) (rs : List (List Int)) : (r :: rs).getD (0 + 1) [] = rs.headD [] := by cases rs <;> rfl
theorem Tab.nil_of {rs : List (List Int)} (h : Tab rs) (hl : (rs.headD []).length < 1) : rs = [] := by
  cases rs with
  | nil => rfl
  | cons r t =>
    have : r.length < 1 := hl
    exact absurd (List.length_eq_zero_iff.mp (by omega)) h.1
theorem out_ok : ∀ {rs : List (List Int)} {k : Nat}, Tab rs → Cor rs k → ∃ i, i < (rs.headD []).length ∧ (outT rs k).2 = (rs.headD []).getD i 0 ∧ Tab (outT rs k).1 ∧ insT (outT rs k).1 (outT rs k).2 = (rs, k + 1)
    ∧ ∀ r, Asc r → Fit r (rs.headD []) → Fit (r.set (ll r (outT rs k).2 (r.length - 1)) (outT rs k).2) ((outT rs k).1.headD [])
  | [], k, _, h => absurd h.1 (Nat.not_lt_zero _)
  | s :: ss, 0, h, hc => by
    have hl : (ss.headD []).length < s.length := by
      have := hc.2
      rw [getD_one] at this
      exact this
    refine ⟨s.length - 1, by show _ < s.length; omega, rfl, ?_⟩
    show Tab (if s.length ≤ 1 then ss else s.dropLast :: ss) ∧ insT (if s.length ≤ 1 then ss else s.dropLast :: ss) (s.getD (s.length - 1) 0) = (s :: ss, 0 + 1) ∧ ∀ r, Asc r → Fit r s → Fit (r.set (ll r (s.getD (s.length - 1) 0) (r.length - 1)) (s.getD (s.length - 1) 0)) ((if s.length ≤ 1 then ss else s.dropLast :: ss).headD [])
    split
    · rename_i h1
      have e := Tab.nil_of h.2.2.2 (by omega)
      subst e
      have es : s = [s.getD (s.length - 1) 0] := by
        have := last_app (r := s) (by omega)
        rw [List.length_eq_zero_iff.mp (show s.dropLast.length = 0 by rw [List.length_dropLast]; omega)] at this
        exact this.symm
      refine ⟨trivial, ?_, fun r _ _ => Fit.nil _⟩
      show ([[s.getD (s.length - 1) 0]], 1) = _
      rw [← es]
    · rename_i h1
      have hf : fg s.dropLast (s.getD (s.length - 1) 0) = s.dropLast.length := fg_full fun k hk => by
        rw [List.length_dropLast] at hk
        rw [drop_gD _ hk]
        exact h.2.1.le (by omega) (by omega)
      refine ⟨⟨fun z => ?_, ?_, ⟨by rw [List.length_dropLast]; omega, fun j hj => ?_⟩, h.2.2.2⟩, ?_, fun r hr hf => ?_⟩
      · have := congrArg List.length z
        rw [List.length_dropLast, List.length_nil] at this
        omega
      · exact List.Pairwise.sublist (List.dropLast_sublist s) h.2.1
      · rw [drop_gD _ (by omega)]
        exact h.2.2.1.2 j hj
      · unfold insT
        rw [if_pos hf, last_app (by omega)]
      · have hrl := hf.1
        have h2 := hf.2 (s.length - 1) (by omega)
        obtain ⟨g1, g2, g3, g4⟩ := ll_ok r (s.getD (s.length - 1) 0) (r.length - 1) (s.length - 1) (by omega) h2
        show Fit _ s.dropLast
        refine ⟨by rw [List.length_dropLast, List.length_set]; omega, fun j hj => ?_⟩
        rw [List.length_dropLast] at hj
        rw [drop_gD _ hj, set_gD _ _ _ _ (by omega), if_neg (by omega)]
        exact hf.2 j (by omega)
  | s :: ss, k + 1, h, hc => by
    obtain ⟨i, hi, hy, ht, hins, hfit⟩ := out_ok h.2.2.2 hc.tail
    have hsl := h.2.2.1.1
    have hs := h.2.2.1.2 i hi
    rw [← hy] at hs
    obtain ⟨g1, g2, g3, g4⟩ := ll_ok s (outT ss k).2 (s.length - 1) i (by omega) hs
    have hjl : ll s (outT ss k).2 (s.length - 1) < s.length := by omega
    generalize ej : ll s (outT ss k).2 (s.length - 1) = j at *
    have e1 : outT (s :: ss) (k + 1) = (s.set j (outT ss k).2 :: (outT ss k).1, s.getD j 0) := by
      show (s.set (ll s (outT ss k).2 (s.length - 1)) (outT ss k).2 :: (outT ss k).1, s.getD (ll s (outT ss k).2 (s.length - 1)) 0) = _
      rw [ej]
    rw [e1]
    have hfg : fg (s.set j (outT ss k).2) (s.getD j 0) = j := fg_eq (by rw [List.length_set]; exact hjl) (by rw [set_at _ hjl]; exact g3) fun q hq => by
      rw [set_gD _ _ _ _ (by omega), if_neg (by omega)]
      exact h.2.1.le (by omega) hjl
    refine ⟨j, hjl, rfl, ⟨fun z => ?_, h.2.1.set hjl g3 g4, ?_, ht⟩, ?_, fun r hr hf => ?_⟩
    · have := congrArg List.length z
      rw [List.length_set, List.length_nil] at this
      omega
    · have := hfit s h.2.1 h.2.2.1
      rw [ej] at this
      exact this
    · show insT (s.set j (outT ss k).2 :: (outT ss k).1) (s.getD j 0) = _
      unfold insT
      rw [hfg, if_neg (by rw [List.length_set]; omega), set_set_gD _ hjl, set_at _ hjl, hins]
    · have hrl := hf.1
      have h2 := hf.2 j hjl
      show Fit (r.set (ll r (s.getD j 0) (r.length - 1)) (s.getD j 0)) (s.set j (outT ss k).2)
      obtain ⟨q1, q2, q3, q4⟩ := ll_ok r (s.getD j 0) (r.length - 1) j (by have : j < s.length := hjl; have : s.length ≤ r.length := hrl; omega) h2
      refine ⟨by rw [List.length_set, List.length_set]; exact hrl, fun a ha => ?_⟩
      rw [List.length_set] at ha
      have hrl2 : s.length ≤ r.length := hrl
      rw [set_gD _ _ _ _ (by omega), set_gD _ _ _ _ ha]
      by_cases e2 : ll r (s.getD j 0) (r.length - 1) = a
      · rw [if_pos e2]
        by_cases e3 : j = a
        · rw [if_pos e3]
          exact g3
        · rw [if_neg e3]
          have := g4 a (by omega) (by omega)
          omega
      · rw [if_neg e2]
        have := hf.2 a ha
        by_cases e3 : j = a
        · rw [if_pos e3]
          subst e3
          have : r.getD j 0 < s.getD j 0 := h2
          omega
        · rw [if_neg e3]
          exact this
theorem out_mem : ∀ {rs : List (List Int)} {k : Nat}, Tab rs → Cor rs k → (∀ q ∈ (outT rs k).1, ∀ v ∈ q, ∃ r ∈ rs, v ∈ r) ∧ ∃ r ∈ rs, (outT rs k).2 ∈ r
  | [], k, _, h => absurd h.1 (Nat.not_lt_zero _)
  | s :: ss, 0, h, hc => by
    have h0 : 0 < s.length := by
      have := hc.2
      show 0 < s.length
      have e : (List.getD (s :: ss) 0 []).length = s.length := rfl
      omega
    refine ⟨fun q hq v hv => ?_, s, List.mem_cons_self, ?_⟩
    · have hq' : q ∈ (if s.length ≤ 1 then ss else s.dropLast :: ss) := hq
      split at hq'
      · exact ⟨q, List.mem_cons_of_mem _ hq', hv⟩
      · rcases List.mem_cons.mp hq' with e | hq2
        · rw [e] at hv
          exact ⟨s, List.mem_cons_self, (List.dropLast_sublist s).subset hv⟩
        · exact ⟨q, List.mem_cons_of_mem _ hq2, hv⟩
    · show s.getD (s.length - 1) 0 ∈ s
      rw [gD (by omega)]
      exact List.getElem_mem _
  | s :: ss, k + 1, h, hc => by
    obtain ⟨i, hi, hy, ht, hins, hfit⟩ := out_ok h.2.2.2 hc.tail
    obtain ⟨m1, r0, hr0, hv0⟩ := out_mem h.2.2.2 hc.tail
    have hsl := h.2.2.1.1
    have hs := h.2.2.1.2 i hi
    rw [← hy] at hs
    obtain ⟨g1, g2, g3, g4⟩ := ll_ok s (outT ss k).2 (s.length - 1) i (by omega) hs
    refine ⟨fun q hq v hv => ?_, s, List.mem_cons_self, ?_⟩
    · have hq' : q ∈ s.set (ll s (outT ss k).2 (s.length - 1)) (outT ss k).2 :: (outT ss k).1 := hq
      rcases List.mem_cons.mp hq' with e | hq2
      · rw [e] at hv
        rcases mem_set_or hv with hv | hv
        · exact ⟨s, List.mem_cons_self, hv⟩
        · rw [hv]
          exact ⟨r0, List.mem_cons_of_mem _ hr0, hv0⟩
      · obtain ⟨r, hr, hvr⟩ := m1 q hq2 v hv
        exact ⟨r, List.mem_cons_of_mem _ hr, hvr⟩
    · show s.getD (ll s (outT ss k).2 (s.length - 1)) 0 ∈ s
      rw [gD (by omega)]
      exact List.getElem_mem _
theorem out_let {rs : List (List Int)} {k : Nat} (ht : Tab rs) (hl : Let rs) (hc : Cor rs k) : Let (outT rs k).1 ∧ 1 ≤ (outT rs k).2 ∧ (outT rs k).2 ≤ 60 := by
  obtain ⟨m1, r0, hr0, hv0⟩ := out_mem ht hc
  refine ⟨fun q hq v hv => ?_, hl r0 hr0 _ hv0⟩
  obtain ⟨r, hr, hvr⟩ := m1 q hq v hv
  exact hl r hr v hvr
theorem out_size {rs : List (List Int)} {k : Nat} (ht : Tab rs) (hc : Cor rs k) : szT (outT rs k).1 + 1 = szT rs := by
  obtain ⟨_, _, _, _, hins, _⟩ := out_ok ht hc
  rw [← insT_size, hins]
theorem ins_out : ∀ {rs : List (List Int)} (x : Int), Tab rs → Cor (insT rs x).1 ((insT rs x).2 - 1) ∧ outT (insT rs x).1 ((insT rs x).2 - 1) = (rs, x)
  | [], x, _ => ⟨⟨Nat.zero_lt_one, Nat.zero_lt_one⟩, rfl⟩
  | r :: rs, x, h => by
    have hf0 := h.2.2.1.1
    have hl := fg_le r x
    have hr0 : 0 < r.length := by
      rcases Nat.eq_zero_or_pos r.length with z | z
      · exact absurd (List.length_eq_zero_iff.mp z) h.1
      · exact z
    by_cases e : fg r x = r.length
    · have ei : insT (r :: rs) x = ((r ++ [x]) :: rs, 1) := by
        unfold insT
        rw [if_pos e]
      rw [ei]
      refine ⟨⟨Nat.zero_lt_succ _, ?_⟩, ?_⟩
      · show (List.getD ((r ++ [x]) :: rs) (0 + 1) []).length < (r ++ [x]).length
        rw [getD_one, List.length_append]
        simp only [List.length_cons, List.length_nil]
        omega
      · show ((if (r ++ [x]).length ≤ 1 then rs else (r ++ [x]).dropLast :: rs), (r ++ [x]).getD ((r ++ [x]).length - 1) 0) = _
        rw [if_neg (by rw [List.length_append]; simp only [List.length_cons, List.length_nil]; omega), List.dropLast_concat]
        have e2 : (r ++ [x]).length - 1 = r.length := by rw [List.length_append]; simp
        rw [e2, app_gDn]
    · have ei : insT (r :: rs) x = (r.set (fg r x) x :: (insT rs (r.getD (fg r x) 0)).1, (insT rs (r.getD (fg r x) 0)).2 + 1) := by
        conv => lhs; unfold insT
        rw [if_neg e]
      rw [ei]
      have hno := insT_no rs (r.getD (fg r x) 0)
      obtain ⟨h1, h2⟩ := ins_out (r.getD (fg r x) 0) h.2.2.2
      obtain ⟨n, hn⟩ : ∃ n, (insT rs (r.getD (fg r x) 0)).2 = n + 1 := ⟨_, (Nat.sub_add_cancel hno.1).symm⟩
      have en : (insT rs (r.getD (fg r x) 0)).2 + 1 - 1 = n + 1 := by omega
      have en2 : (insT rs (r.getD (fg r x) 0)).2 - 1 = n := by omega
      rw [en2] at h1 h2
      show Cor _ ((insT rs (r.getD (fg r x) 0)).2 + 1 - 1) ∧ outT _ ((insT rs (r.getD (fg r x) 0)).2 + 1 - 1) = _
      rw [en]
      have hx := fg_at (r := r) (x := x) (by omega)
      have hll : ll (r.set (fg r x) x) (r.getD (fg r x) 0) ((r.set (fg r x) x).length - 1) = fg r x := by
        refine ll_eq (by rw [List.length_set]; omega) (by rw [set_at _ (by omega)]; exact hx) fun k h3 h4 => ?_
        rw [List.length_set] at h4
        rw [set_gD _ _ _ _ (by omega), if_neg (by omega)]
        exact h.2.1.le (by omega) (by omega)
      refine ⟨⟨by rw [List.length_cons]; have := h1.1; omega, h1.2⟩, ?_⟩
      show ((r.set (fg r x) x).set (ll (r.set (fg r x) x) (outT (insT rs (r.getD (fg r x) 0)).1 n).2 ((r.set (fg r x) x).length - 1)) (outT (insT rs (r.getD (fg r x) 0)).1 n).2 :: (outT (insT rs (r.getD (fg r x) 0)).1 n).1, (r.set (fg r x) x).getD (ll (r.set (fg r x) x) (outT (insT rs (r.getD (fg r x) 0)).1 n).2 ((r.set (fg r x) x).length - 1)) 0) = _
      rw [h2]
      show ((r.set (fg r x) x).set (ll (r.set (fg r x) x) (r.getD (fg r x) 0) ((r.set (fg r x) x).length - 1)) (r.getD (fg r x) 0) :: rs, (r.set (fg r x) x).getD (ll (r.set (fg r x) x) (r.getD (fg r x) 0) ((r.set (fg r x) x).length - 1)) 0) = _
      rw [hll, set_set_gD _ (by omega), set_at _ (by omega)]
theorem ins_bump : ∀ {rs : List (List Int)} (x y : Int), Tab rs → ((insT (insT rs x).1 y).2 ≤ (insT rs x).2 ↔ x ≤ y)
  | [], x, y, _ => by
    show (insT [[x]] y).2 ≤ 1 ↔ x ≤ y
    unfold insT
    have : fg [x] y = if y < x then 0 else 1 := by
      unfold fg
      by_cases h : y < x <;> simp [List.findIdx_cons, h]
    rw [this]
    by_cases h : y < x
    · rw [if_pos h, if_neg (by simp)]
      have := insT_no [] ([x].getD 0 0)
      show (insT [] ([x].getD 0 0)).2 + 1 ≤ 1 ↔ _
      omega
    · rw [if_neg h, if_pos (by simp)]
      show 1 ≤ 1 ↔ _
      omega
  | r :: rs, x, y, h => by
    have hl := fg_le r x
    by_cases e : fg r x = r.length
    · have ei : insT (r :: rs) x = ((r ++ [x]) :: rs, 1) := by
        unfold insT
        rw [if_pos e]
      rw [ei]
      show (insT ((r ++ [x]) :: rs) y).2 ≤ 1 ↔ _
      have hlen : (r ++ [x]).length = r.length + 1 := by rw [List.length_append]; rfl
      by_cases hxy : x ≤ y
      · have hf : fg (r ++ [x]) y = (r ++ [x]).length := fg_full fun k hk => by
          rcases Nat.lt_or_ge k r.length with z | z
          · rw [app_gD _ _ _ z]
            have := fg_lt (r := r) (x := x) (i := k) (by omega)
            omega
          · have ek : k = r.length := by omega
            subst ek
            rw [app_gDn]
            exact hxy
        unfold insT
        rw [if_pos hf]
        exact ⟨fun _ => hxy, fun _ => Nat.le_refl _⟩
      · have hf : fg (r ++ [x]) y ≤ r.length := fg_of (by omega) (by rw [app_gDn]; omega)
        unfold insT
        rw [if_neg (by omega)]
        have := insT_no rs ((r ++ [x]).getD (fg (r ++ [x]) y) 0)
        show (insT rs ((r ++ [x]).getD (fg (r ++ [x]) y) 0)).2 + 1 ≤ 1 ↔ _
        omega
    · have ei : insT (r :: rs) x = (r.set (fg r x) x :: (insT rs (r.getD (fg r x) 0)).1, (insT rs (r.getD (fg r x) 0)).2 + 1) := by
        conv => lhs; unfold insT
        rw [if_neg e]
      rw [ei]
      have hx := fg_at (r := r) (x := x) (by omega)
      have ih := fun z => ins_bump (rs := rs) (r.getD (fg r x) 0) z h.2.2.2
      have hno := insT_no rs (r.getD (fg r x) 0)
      generalize ej : fg r x = j at *
      have hjl : j < r.length := by omega
      have hslen : (r.set j x).length = r.length := List.length_set
      show (insT (r.set j x :: (insT rs (r.getD j 0)).1) y).2 ≤ (insT rs (r.getD j 0)).2 + 1 ↔ _
      conv => lhs; lhs; unfold insT
      by_cases hf : fg (r.set j x) y = (r.set j x).length
      · rw [if_pos hf]
        refine ⟨fun _ => ?_, fun _ => by show 1 ≤ _; omega⟩
        have := fg_lt (r := r.set j x) (x := y) (i := j) (by omega)
        rw [set_at _ hjl] at this
        exact this
      · rw [if_neg hf]
        have hfl := fg_le (r.set j x) y
        have hq := fg_at (r := r.set j x) (x := y) (by omega)
        show (insT (insT rs (r.getD j 0)).1 ((r.set j x).getD (fg (r.set j x) y) 0)).2 + 1 ≤ (insT rs (r.getD j 0)).2 + 1 ↔ _
        rw [Nat.add_le_add_iff_right, ih]
        rw [set_gD _ _ _ _ (by omega)] at hq ⊢
        by_cases hxy : x ≤ y
        · refine ⟨fun _ => hxy, fun _ => ?_⟩
          have hgt : j < fg (r.set j x) y := by
            rcases Nat.lt_or_ge j (fg (r.set j x) y) with z | z
            · exact z
            · split at hq
              · omega
              · have := fg_lt (r := r) (x := x) (i := fg (r.set j x) y) (by omega)
                omega
          rw [if_neg (by omega)]
          exact h.2.1.le (by omega) (by omega)
        · refine ⟨fun hh => ?_, fun hh => absurd hh hxy⟩
          have hle : fg (r.set j x) y ≤ j := fg_of (by omega) (by rw [set_at _ hjl]; omega)
          split at hh
          · omega
          · have := fg_lt (r := r) (x := x) (i := fg (r.set j x) y) (by omega)
            omega
/-! ### what the loops do -/
theorem tS_dats (cs : List (List Int)) : Dats (cs.map fun c => SD.dat (tI c)) (cs.map fun c => tI c) := by
  have := Dats.map (cs.map fun c => tI c)
  rw [List.map_map] at this
  exact this
theorem tS_dat (cs : List (List Int)) : (cs.map fun c => tI c).map SD.dat = cs.map fun c => .dat (tI c) := by
  rw [List.map_map]
  rfl
theorem tS_snoc (cs : List (List Int)) (c : List Int) : ((cs ++ [c]).map fun c => SD.dat (tI c)) = (cs.map fun c => SD.dat (tI c)) ++ [.dat (tI c)] := by rw [List.map_append]; rfl
theorem drop_step {α : Type} {l : List α} {j : Nat} (h : j < l.length) (d : α) : l.drop j = l.getD j d :: l.drop (j + 1) := by
  rw [List.getD_eq_getElem?_getD, List.getElem?_eq_getElem h, List.drop_eq_getElem_cons h]
  rfl
theorem getD_mem2 {α : Type} {l : List α} {j : Nat} (h : j < l.length) (d : α) : l.getD j d ∈ l := by
  rw [List.getD_eq_getElem?_getD, List.getElem?_eq_getElem h]
  exact List.getElem_mem h
def gtL (r : List Int) (x : Int) : Nat → List Int
  | 0 => []
  | n + 1 => gtL r x n ++ if x < r.getD n 0 then [(n : Int)] else []
theorem gtL_none {r : List Int} {x : Int} : ∀ {n : Nat}, n ≤ fg r x → gtL r x n = []
  | 0, _ => rfl
  | n + 1, h => by
    unfold gtL
    have := fg_lt (r := r) (x := x) (i := n) (by omega)
    rw [gtL_none (by omega), if_neg (by omega)]
    rfl
theorem gtL_some {r : List Int} {x : Int} (hr : fg r x < r.length) : ∀ {n : Nat}, fg r x < n → ∃ t, gtL r x n = (fg r x : Int) :: t
  | 0, h => absurd h (Nat.not_lt_zero _)
  | n + 1, h => by
    unfold gtL
    by_cases e : fg r x = n
    · have := fg_at hr
      rw [e] at this
      rw [gtL_none (by omega), if_pos this, e]
      exact ⟨[], rfl⟩
    · obtain ⟨t, ht⟩ := gtL_some hr (n := n) (by omega)
      rw [ht]
      exact ⟨_, rfl⟩
theorem gtL_len (r : List Int) (x : Int) : ∀ n : Nat, (gtL r x n).length ≤ n
  | 0 => Nat.le_refl _
  | n + 1 => by
    unfold gtL
    have := gtL_len r x n
    rw [List.length_append]
    split
    · simp only [List.length_cons, List.length_nil]
      omega
    · simp only [List.length_nil]
      omega
def ltL (r : List Int) (x : Int) : Nat → List Int
  | 0 => []
  | n + 1 => ltL r x n ++ if r.getD n 0 < x then [(n : Int)] else []
theorem ltL_len (r : List Int) (x : Int) : ∀ n : Nat, (ltL r x n).length ≤ n
  | 0 => Nat.le_refl _
  | n + 1 => by
    unfold ltL
    have := ltL_len r x n
    rw [List.length_append]
    split
    · simp only [List.length_cons, List.length_nil]
      omega
    · simp only [List.length_nil]
      omega
theorem ltL_last {r : List Int} {x : Int} : ∀ {n i : Nat}, i ≤ n → r.getD i 0 < x → ∃ t, ltL r x (n + 1) = t ++ [(ll r x n : Int)]
  | 0, i, hi, h => by
    have e : i = 0 := by omega
    subst e
    unfold ltL
    rw [if_pos h]
    exact ⟨_, rfl⟩
  | n + 1, i, hi, h => by
    unfold ltL ll
    by_cases hx : r.getD (n + 1) 0 < x
    · rw [if_pos hx, if_pos hx]
      exact ⟨_, rfl⟩
    · rw [if_neg hx, if_neg hx, List.append_nil]
      have hi2 : i ≤ n := by
        rcases Nat.lt_or_ge n i with z | z
        · have e : i = n + 1 := by omega
          subst e
          omega
        · exact z
      exact ltL_last hi2 h
theorem set_cut (r : List Int) {j : Nat} (x : Int) (h : j < r.length) : r.take j ++ [x] ++ r.drop (j + 1) = r.set j x := by
  rw [List.set_eq_take_append_cons_drop, if_pos h, List.append_assoc]
  rfl
theorem tI_cut (r : List Int) {j : Nat} (x : Int) (h : j < r.length) : PyData.tuple (cut (r.map PyData.int) none (some (j : Int)) ++ [PyData.int x] ++ cut (r.map PyData.int) (some ((j : Int) + 1)) none) = tI (r.set j x) := by
  rw [cut_hi _ (by omega), cut_lo _ (by omega), Int.toNat_natCast, show ((j : Int) + 1).toNat = j + 1 by omega, ← List.map_take, ← List.map_drop, map_app1, ← List.map_append, set_cut r x h]
theorem tI_cut' (r : List Int) {j : Nat} (x : Int) (h : j = r.length) : PyData.tuple (cut (r.map PyData.int) none (some (j : Int)) ++ [PyData.int x] ++ cut (r.map PyData.int) (some ((j : Int) + 1)) none) = tI (r ++ [x]) := by
  rw [cut_hi _ (by omega), cut_lo _ (by omega), Int.toNat_natCast, show ((j : Int) + 1).toNat = j + 1 by omega, ← List.map_take, ← List.map_drop, map_app1, ← List.map_append, List.take_of_length_le (by omega), List.drop_eq_nil_of_le (by omega), List.append_nil]
/-- insertion, row by row -/
structure InsAt (T : List (List Int)) (x : Int) (k : Nat) (fd : List (List Int)) (y : Int) : Prop where
  len : fd.length = k
  eq : insT T x = (fd ++ (insT (T.drop k) y).1, k + (insT (T.drop k) y).2)
  row : ∀ r ∈ fd, ∃ q ∈ T, r.length = q.length
theorem InsAt.zero (T : List (List Int)) (x : Int) : InsAt T x 0 [] x := ⟨rfl, by rw [List.drop_zero, Nat.zero_add]; rfl, fun _ h => absurd h List.not_mem_nil⟩
theorem InsAt.full {T : List (List Int)} {x : Int} {k : Nat} {fd : List (List Int)} {y : Int} (h : InsAt T x k fd y) (hk : k < T.length) (hf : fg (T.getD k []) y = (T.getD k []).length) :
    insT T x = (fd ++ [T.getD k [] ++ [y]] ++ T.drop (k + 1), k + 1) := by
  rw [h.eq, drop_step hk []]
  unfold insT
  rw [if_pos hf, List.append_assoc]
  rfl
theorem InsAt.next {T : List (List Int)} {x : Int} {k : Nat} {fd : List (List Int)} {y : Int} (h : InsAt T x k fd y) (hk : k < T.length) (hf : fg (T.getD k []) y < (T.getD k []).length) :
    InsAt T x (k + 1) (fd ++ [(T.getD k []).set (fg (T.getD k []) y) y]) ((T.getD k []).getD (fg (T.getD k []) y) 0) := by
  refine ⟨by rw [List.length_append, h.len]; rfl, ?_, fun r hr => ?_⟩
  · rw [h.eq, drop_step hk []]
    conv => lhs; unfold insT
    rw [if_neg (by omega), List.append_assoc]
    show (_, _) = (_, _)
    rw [show k + ((insT (List.drop (k + 1) T) ((T.getD k []).getD (fg (T.getD k []) y) 0)).2 + 1) = k + 1 + (insT (List.drop (k + 1) T) ((T.getD k []).getD (fg (T.getD k []) y) 0)).2 by omega]
    rfl
  · rcases List.mem_append.mp hr with hr | hr
    · exact h.row r hr
    · rw [List.mem_singleton.mp hr]
      exact ⟨_, getD_mem2 hk [], List.length_set⟩
theorem InsAt.done {T : List (List Int)} {x : Int} {fd : List (List Int)} {y : Int} (h : InsAt T x T.length fd y) : insT T x = (fd ++ [[y]], T.length + 1) := by
  rw [h.eq, List.drop_eq_nil_of_le (Nat.le_refl _)]
  rfl
theorem InsAt.set {T : List (List Int)} {x : Int} {k : Nat} {fd : List (List Int)} {y : Int} (h : InsAt T x k fd y) (hk : k < T.length) (r : List Int) : (fd ++ T.drop k).set k r = fd ++ [r] ++ T.drop (k + 1) := by
  rw [drop_step hk [], List.set_append_right _ _ (by rw [h.len]; omega), h.len, Nat.sub_self, List.append_assoc]
  rfl
/-- rows and lengths that fit the line -/
structure Sm (n m : Nat) (T : List (List Int)) : Prop where
  len : T.length ≤ n
  row : ∀ r ∈ T, r.length ≤ m
theorem Sm.get {n m : Nat} {T : List (List Int)} (h : Sm n m T) (k : Nat) : (T.getD k []).length ≤ m := by
  rcases Nat.lt_or_ge k T.length with z | z
  · exact h.row _ (getD_mem2 z [])
  · rw [List.getD_eq_getElem?_getD, List.getElem?_eq_none z]
    exact Nat.zero_le _
theorem Sm.up {n m n' m' : Nat} {T : List (List Int)} (h : Sm n m T) (hn : n ≤ n') (hm : m ≤ m') : Sm n' m' T := ⟨Nat.le_trans h.len hn, fun r hr => Nat.le_trans (h.row r hr) hm⟩
theorem sz_mem {T : List (List Int)} : ∀ r ∈ T, r.length ≤ szT T := fun r hr => by
  induction T with
  | nil => exact absurd hr List.not_mem_nil
  | cons s t ih =>
    show r.length ≤ s.length + szT t
    rcases List.mem_cons.mp hr with e | hr
    · rw [e]
      omega
    · have := ih hr
      omega
theorem Tab.len_le {T : List (List Int)} (h : Tab T) : T.length ≤ szT T := by
  induction T with
  | nil => exact Nat.zero_le _
  | cons s t ih =>
    have h1 := ih h.2.2.2
    have h2 : 0 < s.length := by
      rcases Nat.eq_zero_or_pos s.length with z | z
      · exact absurd (List.length_eq_zero_iff.mp z) h.1
      · exact z
    show t.length + 1 ≤ s.length + szT t
    omega
theorem Tab.sm {T : List (List Int)} (h : Tab T) : Sm (szT T) (szT T) T := ⟨h.len_le, sz_mem⟩
/-! ### what a tableau is, row by row -/
def IsRow (r : List Int) : Prop := r ≠ [] ∧ Asc r ∧ ∀ v ∈ r, 1 ≤ v ∧ v ≤ 60
def RowGood (T : List (List Int)) (i : Nat) : Prop := IsRow (T.getD i []) ∧ (0 < i → Fit (T.getD (i - 1) []) (T.getD i []))
def TabOk (T : List (List Int)) : Prop := Tab T ∧ Let T ∧ szT T ≤ 200
theorem getD_cons_pos {α : Type} (r : α) (t : List α) (d : α) {i : Nat} (h : 0 < i) : (r :: t).getD i d = t.getD (i - 1) d := by
  obtain ⟨k, rfl⟩ : ∃ k, i = k + 1 := ⟨i - 1, by omega⟩
  rfl
theorem headD_getD {α : Type} (t : List α) (d : α) : t.headD d = t.getD 0 d := by cases t <;> rfl
theorem rows_iff : ∀ T : List (List Int), (Tab T ∧ Let T) ↔ ∀ i, i < T.length → RowGood T i
  | [] => ⟨fun _ i h => absurd h (Nat.not_lt_zero _), fun _ => ⟨trivial, fun _ h => absurd h List.not_mem_nil⟩⟩
  | r :: t => by
    have ih := rows_iff t
    constructor
    · rintro ⟨⟨h1, h2, h3, h4⟩, hl⟩ i hi
      have hr := hl r List.mem_cons_self
      have ht := ih.mp ⟨h4, fun q hq => hl q (List.mem_cons_of_mem _ hq)⟩
      rcases Nat.eq_zero_or_pos i with e | hp
      · subst e
        exact ⟨⟨h1, h2, hr⟩, fun z => absurd z (Nat.lt_irrefl _)⟩
      · have hi2 : i - 1 < t.length := by rw [List.length_cons] at hi; omega
        have hg := ht (i - 1) hi2
        unfold RowGood
        rw [getD_cons_pos _ _ _ hp]
        refine ⟨hg.1, fun _ => ?_⟩
        rcases Nat.eq_zero_or_pos (i - 1) with e | hp2
        · rw [e]
          rw [headD_getD] at h3
          exact h3
        · rw [getD_cons_pos _ _ _ hp2]
          exact hg.2 hp2
    · intro h
      have h0 := h 0 (Nat.zero_lt_succ _)
      have ht := ih.mpr fun i hi => by
        have hg := h (i + 1) (by rw [List.length_cons]; omega)
        refine ⟨hg.1, fun hp => ?_⟩
        have := hg.2 (Nat.zero_lt_succ _)
        rw [show i + 1 - 1 = i from rfl, getD_cons_pos _ _ _ hp] at this
        exact this
      refine ⟨⟨h0.1.1, h0.1.2.1, ?_, ht.1⟩, fun q hq => ?_⟩
      · cases t with
        | nil => exact Fit.nil _
        | cons s u => exact (h 1 (by rw [List.length_cons, List.length_cons]; omega)).2 Nat.zero_lt_one
      · rcases List.mem_cons.mp hq with e | hq
        · rw [e]
          exact h0.1.2.2
        · exact ht.2 q hq
theorem tabOk_iff (T : List (List Int)) : TabOk T ↔ (∀ i, i < T.length → RowGood T i) ∧ szT T ≤ 200 := by
  rw [← rows_iff]
  exact ⟨fun h => ⟨⟨h.1, h.2.1⟩, h.2.2⟩, fun h => ⟨h.1.1, h.1.2, h.2⟩⟩
/-- the first j letters of a row are good -/
def RowTo (r : List Int) (j : Nat) : Prop := ∀ i, i < j → (1 ≤ r.getD i 0 ∧ r.getD i 0 ≤ 60) ∧ (0 < i → r.getD (i - 1) 0 ≤ r.getD i 0)
theorem RowTo.all {r : List Int} (h : RowTo r r.length) : Asc r ∧ ∀ v ∈ r, 1 ≤ v ∧ v ≤ 60 := by
  constructor
  · refine Asc.of fun i j hij hj => ?_
    induction j with
    | zero => omega
    | succ j ih =>
      have h2 := (h (j + 1) hj).2 (Nat.zero_lt_succ _)
      rw [show j + 1 - 1 = j from rfl] at h2
      by_cases e : i = j
      · rw [e]
        exact h2
      · have := ih (by omega) (by omega)
        omega
  · intro v hv
    obtain ⟨i, hi, rfl⟩ := List.getElem_of_mem hv
    have := (h i hi).1
    rw [gD hi] at this
    exact this
theorem RowTo.of {r : List Int} (h1 : Asc r) (h2 : ∀ v ∈ r, 1 ≤ v ∧ v ≤ 60) : RowTo r r.length := fun i hi => by
  refine ⟨?_, fun hp => h1.le (by omega) hi⟩
  rw [gD hi]
  exact h2 _ (List.getElem_mem hi)
theorem szT_take {T : List (List Int)} {k : Nat} {v : List Int} (h : T[k]? = some v) : szT (T.take (k + 1)) = szT (T.take k) + v.length := by
  have e : T.take (k + 1) = T.take k ++ [v] := by
    obtain ⟨hi, rfl⟩ := List.getElem?_eq_some_iff.mp h
    rw [List.take_succ, List.getElem?_eq_getElem hi]
    rfl
  rw [e]
  unfold szT
  rw [List.map_append, List.sum_append]
  simp
/-! ### lists of tableaux and of boards: what the program does -/
def shStep (F : List (List Int × Int)) (most : Int) : List (List Int × Int) := F.flatMap fun p => (List.range (min p.2 most + 1).toNat).map fun (s : Nat) => (p.1 ++ [(s : Int)], p.2 - (s : Int))
def shF (total : Int) (room : List Int) : List (List Int × Int) := room.foldl shStep [([], total)]
def shO (total : Int) (room : List Int) : List (List Int) := ((shF total room).filter fun p => decide (p.2 = 0)).map (·.1)
def roomL (T : List (List Int)) (shape : List Int) : List Int := (List.range T.length).map fun r => (if 0 < r then min (shape.getD r 0) ((T.getD (r - 1) []).length : Int) else shape.getD r 0) - ((T.getD r []).length : Int)
def extT (T : List (List Int)) (sh : List Int) (l : Int) : List (List Int) := List.zipWith (fun held more => held ++ List.replicate more.toNat l) T sh
def wlM (T : List (List Int)) (shape : List Int) (l many : Int) : List (List (List Int)) := (shO many (roomL T shape)).map fun sh => extT T sh l
def tabK (shape content : List Int) : Nat → List (List (List Int))
  | 0 => [List.replicate shape.length []]
  | n + 1 => (tabK shape content n).flatMap fun T => wlM T shape ((n + 1 : Nat) : Int) (content.getD n 0)
def brStep (F : List (List (List Int) × List Int)) (t : Int) : List (List (List Int) × List Int) := F.flatMap fun p => (shO t p.2).map fun a => (p.1 ++ [a], List.zipWith (fun x y => x - y) p.2 a)
def brF (rows cols : List Int) : List (List (List Int) × List Int) := rows.foldl brStep [([], cols)]
/-! what the law does -/
def lrM : Nat → Int → List (List Int)
  | 0, t => if t = 0 then [[]] else []
  | n + 1, t => (List.range (t + 1).toNat).flatMap fun (a : Nat) => (lrM n (t - (a : Int))).map fun r => (a : Int) :: r
def lbK (rows : List Int) (n : Nat) : List (List (List Int)) := rows.foldl (fun B t => B.flatMap fun b => (lrM n t).map fun r => b ++ [r]) [[]]
def csums (b : List (List Int)) (n : Nat) : List Int := (List.range n).map fun j => (b.map fun r => r.getD j 0).sum
def shpM : Nat → Int → Int → List (List Int)
  | 0, _, _ => [[]]
  | f + 1, t, most => if t = 0 then [[]] else (List.range (min t most).toNat).flatMap fun (a : Nat) => (shpM f (t - ((a : Int) + 1)) ((a : Int) + 1)).map fun r => ((a : Int) + 1) :: r
/-! all sums of up to three parts, up to 5 -/
def sumsT (t : Int) : List (List Int) := lrM 1 t ++ lrM 2 t ++ lrM 3 t
def ltIb : List Int → List Int → Bool
  | x :: xs, y :: ys => decide (x < y) || (decide (x = y) && ltIb xs ys)
  | _, _ => false
def ltLb : List (List Int) → List (List Int) → Bool
  | w :: f, v :: g => ltIb w v || (decide (w = v) && ltLb f g)
  | _, _ => false
def ascB : List (List (List Int)) → Bool
  | [] => true
  | b :: bs => bs.all (fun c => ltLb b c) && ascB bs
def shpB (n m : Nat) (b : List (List Int)) : Bool := decide (b.length = n) && b.all fun r => decide (r.length = m)
def chk1 (R C : List Int) : Bool := ((brF R C).map (·.1)).all (shpB R.length C.length) && decide ((brF R C).map (·.1) = (lbK R C.length).filter fun b => decide (csums b C.length = C)) && ascB ((brF R C).map (·.1))
def chk2 (t : Int) (R C : List Int) : Bool := decide (((shpM t.toNat t t).map fun s => (tabK s R R.length).length * (tabK s C C.length).length).sum = (brF R C).length)
def chkT (t : Int) : Bool := (sumsT t).all fun R => (sumsT t).all fun C => chk1 R C && chk2 t R C
/-! ### _shared_out: all of a sum, once, and how many -/
def Bnd : List Int → List Int → Prop
  | [], [] => True
  | x :: s, m :: r => (0 ≤ x ∧ x ≤ m) ∧ Bnd s r
  | _, _ => False
theorem Bnd.nn : ∀ {s r : List Int}, Bnd s r → 0 ≤ s.sum
  | [], [], _ => Int.le_refl _
  | x :: s, m :: r, h => by
    have h1 := h.1.1
    have h2 := h.2.nn
    rw [List.sum_cons]
    omega
  | [], _ :: _, h => h.elim
  | _ :: _, [], h => h.elim
theorem Bnd.len : ∀ {s r : List Int}, Bnd s r → s.length = r.length
  | [], [], _ => rfl
  | x :: s, m :: r, h => congrArg (· + 1) h.2.len
  | [], _ :: _, h => h.elim
  | _ :: _, [], h => h.elim
theorem bnd_iff : ∀ {s r : List Int}, Bnd s r ↔ s.length = r.length ∧ ∀ i, i < r.length → 0 ≤ s.getD i 0 ∧ s.getD i 0 ≤ r.getD i 0
  | [], [] => ⟨fun _ => ⟨rfl, fun i h => absurd h (Nat.not_lt_zero _)⟩, fun _ => True.intro⟩
  | x :: s, m :: r => by
    constructor
    · rintro ⟨h1, h2⟩
      obtain ⟨h3, h4⟩ := bnd_iff.mp h2
      refine ⟨congrArg (· + 1) h3, fun i hi => ?_⟩
      cases i with
      | zero => exact h1
      | succ i => exact h4 i (by simpa using hi)
    · rintro ⟨h1, h2⟩
      refine ⟨h2 0 (Nat.zero_lt_succ _), bnd_iff.mpr ⟨by simpa using h1, fun i hi => ?_⟩⟩
      exact h2 (i + 1) (by simpa using hi)
  | [], _ :: _ => ⟨fun h => h.elim, fun h => absurd h.1 (by simp)⟩
  | _ :: _, [] => ⟨fun h => h.elim, fun h => absurd h.1 (by simp)⟩
theorem mem_shStep {F : List (List Int × Int)} {m : Int} {q : List Int × Int} : q ∈ shStep F m ↔ ∃ p ∈ F, ∃ x : Int, 0 ≤ x ∧ x ≤ p.2 ∧ x ≤ m ∧ q = (p.1 ++ [x], p.2 - x) := by
  unfold shStep
  rw [List.mem_flatMap]
  constructor
  · rintro ⟨p, hp, h⟩
    obtain ⟨s, hs, rfl⟩ := List.mem_map.mp h
    have := List.mem_range.mp hs
    exact ⟨p, hp, s, by omega, by omega, by omega, rfl⟩
  · rintro ⟨p, hp, x, h0, h1, h2, rfl⟩
    refine ⟨p, hp, List.mem_map.mpr ⟨x.toNat, List.mem_range.mpr (by omega), ?_⟩⟩
    rw [Int.toNat_of_nonneg h0]
theorem mem_shFold : ∀ {room : List Int} {F : List (List Int × Int)} {q : List Int × Int}, (∀ p ∈ F, 0 ≤ p.2) → (q ∈ room.foldl shStep F ↔ ∃ p ∈ F, ∃ s, Bnd s room ∧ 0 ≤ p.2 - s.sum ∧ q = (p.1 ++ s, p.2 - s.sum))
  | [], F, q, hF => by
    constructor
    · intro h
      have h : q ∈ F := h
      refine ⟨q, h, [], True.intro, ?_, ?_⟩
      · have := hF q h
        show 0 ≤ q.2 - 0
        omega
      · rw [List.append_nil]
        show q = (q.1, q.2 - 0)
        rw [Int.sub_zero]
    · rintro ⟨p, hp, s, hs, _, rfl⟩
      obtain rfl : s = [] := List.length_eq_zero_iff.mp hs.len
      rw [List.append_nil]
      show (p.1, p.2 - 0) ∈ F
      rw [Int.sub_zero]
      exact hp
  | m :: room, F, q, hF => by
    rw [List.foldl_cons, mem_shFold (room := room) fun p hp => by
      obtain ⟨p', _, x, h0, h1, _, rfl⟩ := mem_shStep.mp hp
      show 0 ≤ p'.2 - x
      omega]
    constructor
    · rintro ⟨p, hp, s, hs, h, rfl⟩
      obtain ⟨p', hp', x, h0, h1, h2, rfl⟩ := mem_shStep.mp hp
      refine ⟨p', hp', x :: s, ⟨⟨h0, h2⟩, hs⟩, ?_, ?_⟩
      · rw [List.sum_cons]
        have h : 0 ≤ p'.2 - x - s.sum := h
        omega
      · rw [List.sum_cons, List.append_assoc]
        show (p'.1 ++ ([x] ++ s), p'.2 - x - s.sum) = _
        rw [show p'.2 - x - s.sum = p'.2 - (x + s.sum) by omega]
        rfl
    · rintro ⟨p, hp, s, hs, h, rfl⟩
      match s, hs with
      | x :: s, hs =>
        have h0 := hs.2.nn
        rw [List.sum_cons] at h
        refine ⟨(p.1 ++ [x], p.2 - x), mem_shStep.mpr ⟨p, hp, x, hs.1.1, by omega, hs.1.2, rfl⟩, s, hs.2, ?_, ?_⟩
        · show 0 ≤ p.2 - x - s.sum
          omega
        · rw [List.sum_cons, List.append_assoc]
          show _ = (p.1 ++ ([x] ++ s), p.2 - x - s.sum)
          rw [show p.2 - x - s.sum = p.2 - (x + s.sum) by omega]
          rfl
theorem mem_shO {t : Int} {room s : List Int} (ht : 0 ≤ t) : s ∈ shO t room ↔ Bnd s room ∧ s.sum = t := by
  unfold shO shF
  rw [List.mem_map]
  constructor
  · rintro ⟨q, hq, rfl⟩
    obtain ⟨h1, h2⟩ := List.mem_filter.mp hq
    obtain ⟨p, hp, s, hs, h, rfl⟩ := (mem_shFold fun p hp => by rw [List.mem_singleton.mp hp]; exact ht).mp h1
    obtain rfl := List.mem_singleton.mp hp
    have h2 : t - s.sum = 0 := of_decide_eq_true h2
    show Bnd s room ∧ s.sum = t
    exact ⟨hs, by omega⟩
  · rintro ⟨hs, h⟩
    refine ⟨(s, t - s.sum), List.mem_filter.mpr ⟨(mem_shFold fun p hp => by rw [List.mem_singleton.mp hp]; exact ht).mpr ⟨([], t), List.mem_singleton.mpr rfl, s, hs, by show 0 ≤ t - s.sum; omega, rfl⟩, ?_⟩, rfl⟩
    exact decide_eq_true (show t - s.sum = 0 by omega)
theorem nd_flat {α β : Type} {f : α → List β} : ∀ {l : List α}, l.Nodup → (∀ a ∈ l, (f a).Nodup) → (∀ a ∈ l, ∀ b ∈ l, a ≠ b → ∀ x ∈ f a, x ∉ f b) → (l.flatMap f).Nodup
  | [], _, _, _ => List.nodup_nil
  | a :: l, h, h1, h2 => by
    rw [List.flatMap_cons, List.nodup_append]
    obtain ⟨h3, h4⟩ := List.nodup_cons.mp h
    refine ⟨h1 a List.mem_cons_self, nd_flat h4 (fun b hb => h1 b (List.mem_cons_of_mem _ hb)) fun b hb c hc => h2 b (List.mem_cons_of_mem _ hb) c (List.mem_cons_of_mem _ hc), ?_⟩
    intro x hx y hy e
    subst e
    obtain ⟨b, hb, hy⟩ := List.mem_flatMap.mp hy
    exact h2 a List.mem_cons_self b (List.mem_cons_of_mem _ hb) (fun e => h3 (e ▸ hb)) x hx hy
theorem nd_map {α β : Type} {f : α → β} : ∀ {l : List α}, l.Nodup → (∀ a ∈ l, ∀ b ∈ l, f a = f b → a = b) → (l.map f).Nodup
  | [], _, _ => List.nodup_nil
  | a :: l, h, h1 => by
    obtain ⟨h3, h4⟩ := List.nodup_cons.mp h
    rw [List.map_cons, List.nodup_cons]
    refine ⟨fun z => ?_, nd_map h4 fun b hb c hc => h1 b (List.mem_cons_of_mem _ hb) c (List.mem_cons_of_mem _ hc)⟩
    obtain ⟨b, hb, e⟩ := List.mem_map.mp z
    have := h1 a List.mem_cons_self b (List.mem_cons_of_mem _ hb) e.symm
    exact h3 (this ▸ hb)
theorem snoc_inj {α : Type} {a b : List α} {x y : α} (h : a ++ [x] = b ++ [y]) : a = b ∧ x = y := by
  have := List.append_inj' h rfl
  exact ⟨this.1, List.singleton_inj.mp this.2⟩
theorem nd_of_map {α β : Type} {f : α → β} {l : List α} (h : (l.map f).Nodup) : l.Nodup := List.Pairwise.of_map f (fun a b h e => h (congrArg f e)) h
theorem nd_inj {α β : Type} {f : α → β} : ∀ {l : List α}, (l.map f).Nodup → ∀ {a b : α}, a ∈ l → b ∈ l → f a = f b → a = b
  | c :: l, h, a, b, ha, hb, e => by
    rw [List.map_cons, List.nodup_cons] at h
    rcases List.mem_cons.mp ha with ha | ha <;> rcases List.mem_cons.mp hb with hb | hb
    · rw [ha, hb]
    · exact absurd (List.mem_map.mpr ⟨b, hb, by rw [← e, ha]⟩) h.1
    · exact absurd (List.mem_map.mpr ⟨a, ha, by rw [e, hb]⟩) h.1
    · exact nd_inj h.2 ha hb e
theorem nd_shStep {F : List (List Int × Int)} {m : Int} (h : (F.map (·.1)).Nodup) : ((shStep F m).map (·.1)).Nodup := by
  unfold shStep
  rw [List.map_flatMap]
  have hF : F.Nodup := nd_of_map h
  refine nd_flat hF (fun p _ => ?_) fun p hp q hq hne x hx hy => ?_
  · rw [List.map_map]
    refine nd_map List.nodup_range fun a _ b _ e => ?_
    have e : p.1 ++ [(a : Int)] = p.1 ++ [(b : Int)] := e
    have := (snoc_inj e).2
    omega
  · rw [List.map_map] at hx hy
    obtain ⟨a, _, rfl⟩ := List.mem_map.mp hx
    obtain ⟨b, _, e⟩ := List.mem_map.mp hy
    have e : q.1 ++ [(b : Int)] = p.1 ++ [(a : Int)] := e
    have e1 := (snoc_inj e).1
    exact hne (nd_inj h hp hq e1.symm)
theorem nd_shFold : ∀ {room : List Int} {F : List (List Int × Int)}, (F.map (·.1)).Nodup → ((room.foldl shStep F).map (·.1)).Nodup
  | [], _, h => h
  | _ :: room, _, h => nd_shFold (room := room) (nd_shStep h)
theorem nd_shO (t : Int) (room : List Int) : (shO t room).Nodup := by
  have h := nd_shFold (room := room) (F := [([], t)]) (by simp)
  exact h.sublist (List.filter_sublist.map _)
/-! how many -/
theorem pw_le (a : Nat) : ∀ (L k : Nat), k ≤ L + 1 → ((List.range k).map fun s => a ^ (L - s)).sum ≤ (a + 1) ^ L
  | _, 0, _ => Nat.zero_le _
  | 0, k + 1, h => by
    obtain rfl : k = 0 := by omega
    exact Nat.le_refl 1
  | L + 1, k + 1, h => by
    have ih := pw_le a L k (by omega)
    have e : ((List.range (k + 1)).map fun s => a ^ (L + 1 - s)) = a ^ (L + 1) :: (List.range k).map fun s => a ^ (L - s) := by
      rw [List.range_succ_eq_map, List.map_cons, List.map_map]
      congr 1
      refine List.map_congr_left fun s _ => ?_
      show a ^ (L + 1 - (s + 1)) = _
      rw [Nat.add_sub_add_right]
    rw [e, List.sum_cons, Nat.pow_succ, Nat.pow_succ, Nat.mul_succ]
    have h2 : a ^ L * a ≤ (a + 1) ^ L * a := Nat.mul_le_mul_right _ (Nat.pow_le_pow_left (Nat.le_succ a) L)
    omega
def potF (a : Nat) (F : List (List Int × Int)) : Nat := (F.map fun p => a ^ p.2.toNat).sum
theorem sum_flat {α : Type} {f : α → List Nat} (l : List α) : (l.flatMap f).sum = (l.map fun a => (f a).sum).sum := by
  induction l with
  | nil => rfl
  | cons a l ih => rw [List.flatMap_cons, List.sum_append, List.map_cons, List.sum_cons, ih]
theorem sum_le2 {α : Type} {f g : α → Nat} : ∀ {l : List α}, (∀ a ∈ l, f a ≤ g a) → (l.map f).sum ≤ (l.map g).sum
  | [], _ => Nat.le_refl _
  | a :: l, h => by
    rw [List.map_cons, List.map_cons, List.sum_cons, List.sum_cons]
    exact Nat.add_le_add (h a List.mem_cons_self) (sum_le2 fun b hb => h b (List.mem_cons_of_mem _ hb))
theorem pot_step (a : Nat) {F : List (List Int × Int)} (m : Int) (hF : ∀ p ∈ F, 0 ≤ p.2) : potF a (shStep F m) ≤ potF (a + 1) F := by
  unfold potF shStep
  rw [List.map_flatMap, sum_flat]
  refine sum_le2 fun p hp => ?_
  have h0 := hF p hp
  rw [List.map_map]
  refine Nat.le_trans (Nat.le_of_eq ?_) (pw_le a p.2.toNat (min p.2 m + 1).toNat (by omega))
  congr 1
  refine List.map_congr_left fun s _ => ?_
  show a ^ (p.2 - (s : Int)).toNat = a ^ (p.2.toNat - s)
  congr 1
  omega
theorem nn_step {F : List (List Int × Int)} (m : Int) (hF : ∀ p ∈ F, 0 ≤ p.2) : ∀ p ∈ shStep F m, 0 ≤ p.2 := fun p hp => by
  obtain ⟨p', _, x, h0, h1, _, rfl⟩ := mem_shStep.mp hp
  show 0 ≤ p'.2 - x
  omega
theorem pot_fold (a : Nat) : ∀ {room : List Int} {F : List (List Int × Int)}, (∀ p ∈ F, 0 ≤ p.2) → potF a (room.foldl shStep F) ≤ potF (a + room.length) F
  | [], _, _ => Nat.le_refl _
  | m :: room, F, hF => by
    refine Nat.le_trans (pot_fold a (room := room) (nn_step m hF)) ?_
    rw [List.length_cons, ← Nat.add_assoc]
    exact pot_step _ m hF
theorem len_pot1 (F : List (List Int × Int)) : F.length = potF 1 F := by
  unfold potF
  induction F with
  | nil => rfl
  | cons p F ih => rw [List.length_cons, List.map_cons, List.sum_cons, ← ih, Nat.one_pow]; omega
theorem len_pot0 (F : List (List Int × Int)) (hF : ∀ p ∈ F, 0 ≤ p.2) : (F.filter fun p => decide (p.2 = 0)).length ≤ potF 0 F := by
  unfold potF
  induction F with
  | nil => exact Nat.le_refl _
  | cons p F ih =>
    have ih := ih fun q hq => hF q (List.mem_cons_of_mem _ hq)
    have h0 := hF p List.mem_cons_self
    rw [List.map_cons, List.sum_cons, List.filter_cons]
    by_cases z : p.2 = 0
    · rw [decide_eq_true z, if_pos rfl, List.length_cons, z]
      have : 0 ^ (0 : Int).toNat = 1 := rfl
      omega
    · rw [decide_eq_false z, if_neg Bool.false_ne_true]
      exact Nat.le_trans ih (Nat.le_add_left _ _)
theorem len_shF {t : Int} (ht : 0 ≤ t) (room : List Int) (i : Nat) : (shF t (room.take i)).length ≤ (room.length + 1) ^ t.toNat := by
  have h := pot_fold 1 (room := room.take i) (F := [([], t)]) fun p hp => by rw [List.mem_singleton.mp hp]; exact ht
  rw [← len_pot1] at h
  refine Nat.le_trans h ?_
  unfold potF
  rw [List.map_singleton, List.sum_singleton, List.length_take]
  exact Nat.pow_le_pow_left (by omega) _
theorem len_shO {t : Int} (ht : 0 ≤ t) (room : List Int) : (shO t room).length ≤ room.length ^ t.toNat := by
  have hF : ∀ p ∈ ([([], t)] : List (List Int × Int)), 0 ≤ p.2 := fun p hp => by rw [List.mem_singleton.mp hp]; exact ht
  have h := pot_fold 0 (room := room) hF
  unfold shO
  rw [List.length_map]
  refine Nat.le_trans (len_pot0 _ fun p hp => ?_) ?_
  · obtain ⟨p', _, s, hs, h, rfl⟩ := (mem_shFold hF).mp hp
    exact h
  · refine Nat.le_trans h ?_
    unfold potF
    rw [List.map_singleton, List.sum_singleton, Nat.zero_add]
    exact Nat.le_refl _
/-! ### _with_letter: tableaux letter by letter -/
def fl (k : Int) (r : List Int) : List Int := r.filter fun v => decide (v ≤ k)
theorem row_split {k : Int} : ∀ {r : List Int}, Asc r → (∀ v ∈ r, v ≤ k + 1) → r = fl k r ++ List.replicate (r.count (k + 1)) (k + 1)
  | [], _, _ => rfl
  | x :: r, h, hb => by
    have ha := List.pairwise_cons.mp h
    have ih := row_split (k := k) ha.2 fun v hv => hb v (List.mem_cons_of_mem _ hv)
    have hx := hb x List.mem_cons_self
    unfold fl at ih ⊢
    by_cases z : x ≤ k
    · rw [List.filter_cons, decide_eq_true z, if_pos rfl, List.count_cons, if_neg (by rw [beq_iff_eq]; omega), Nat.add_zero, List.cons_append, ← ih]
    · obtain rfl : x = k + 1 := by omega
      have hr : r = List.replicate r.length (k + 1) := List.eq_replicate_iff.mpr ⟨rfl, fun y hy => by
        have h1 := ha.1 y hy
        have h2 := hb y (List.mem_cons_of_mem _ hy)
        omega⟩
      have hf : ((k + 1) :: r).filter (fun v => decide (v ≤ k)) = [] := List.filter_eq_nil_iff.mpr fun y hy => by
        have h1 : k + 1 ≤ y := by
          rcases List.mem_cons.mp hy with e | hy
          · omega
          · exact ha.1 y hy
        rw [decide_eq_false (by omega)]
        exact Bool.false_ne_true
      have hc : r.count (k + 1) = r.length := by
        conv => lhs; rw [hr]
        rw [List.count_replicate, if_pos (by rw [beq_iff_eq])]
      rw [hf, List.nil_append, List.count_cons, if_pos (by rw [beq_iff_eq]), hc, List.replicate_succ, ← hr]
theorem fl_get {k : Int} {r : List Int} (h : Asc r) (hb : ∀ v ∈ r, v ≤ k + 1) {j : Nat} (hj : j < (fl k r).length) : (fl k r).getD j 0 = r.getD j 0 := by
  have e := row_split h hb
  rw [List.getD_eq_getElem?_getD, List.getD_eq_getElem?_getD]
  conv => rhs; rw [e]
  rw [List.getElem?_append_left hj]
theorem fl_in {k : Int} {r : List Int} (h : Asc r) (hb : ∀ v ∈ r, v ≤ k + 1) {j : Nat} (hj : j < r.length) (hv : r.getD j 0 ≤ k) : j < (fl k r).length := by
  have e := row_split h hb
  rcases Nat.lt_or_ge j (fl k r).length with z | z
  · exact z
  · exfalso
    have hl : j < (fl k r ++ List.replicate (r.count (k + 1)) (k + 1)).length := by rw [← e]; exact hj
    have : r.getD j 0 = k + 1 := by
      conv => lhs; rw [e]
      rw [List.getD_eq_getElem?_getD, List.getElem?_append_right z, List.getElem?_replicate, if_pos (by rw [List.length_append, List.length_replicate] at hl; omega)]
      rfl
    omega
theorem fl_len {k : Int} {r : List Int} (h : Asc r) (hb : ∀ v ∈ r, v ≤ k + 1) : r.length = (fl k r).length + r.count (k + 1) := by
  have e := congrArg List.length (row_split h hb)
  rw [List.length_append, List.length_replicate] at e
  exact e
theorem fl_asc {k : Int} {r : List Int} (h : Asc r) : Asc (fl k r) := h.sublist List.filter_sublist
theorem fl_le {k : Int} {r : List Int} : ∀ v ∈ fl k r, v ∈ r ∧ v ≤ k := fun v hv => by
  obtain ⟨h1, h2⟩ := List.mem_filter.mp hv
  exact ⟨h1, of_decide_eq_true h2⟩
/-- what stands below has its room above -/
theorem Fit.room {k : Int} {a b : List Int} (h : Fit a b) (ha : Asc a) (hal : ∀ v ∈ a, v ≤ k + 1) (hbl : ∀ v ∈ b, v ≤ k + 1) : b.length ≤ (fl k a).length := by
  rcases Nat.eq_zero_or_pos b.length with z | z
  · omega
  · have h1 := h.2 (b.length - 1) (by omega)
    have h2 := hbl (b.getD (b.length - 1) 0) (by rw [gD (by omega)]; exact List.getElem_mem _)
    have := fl_in ha hal (j := b.length - 1) (by have := h.1; omega) (by omega)
    omega
theorem Fit.fl {k : Int} {a b : List Int} (h : Fit a b) (ha : Asc a) (hb : Asc b) (hal : ∀ v ∈ a, v ≤ k + 1) (hbl : ∀ v ∈ b, v ≤ k + 1) : Fit (fl k a) (fl k b) := by
  have hlb := fl_len hb hbl
  refine ⟨?_, fun j hj => ?_⟩
  · have := h.room ha hal hbl
    omega
  · have hja : j < (LW.fl k a).length := by
      have := h.room ha hal hbl
      omega
    rw [fl_get ha hal hja, fl_get hb hbl hj]
    exact h.2 j (by omega)
theorem Fit.ext {k : Int} {a b : List Int} (h : Fit a b) (hal : ∀ v ∈ a, v ≤ k) {m n : Nat} (hr : b.length + m ≤ a.length) : Fit (a ++ List.replicate n (k + 1)) (b ++ List.replicate m (k + 1)) := by
  refine ⟨by rw [List.length_append, List.length_append, List.length_replicate, List.length_replicate]; omega, fun j hj => ?_⟩
  rw [List.length_append, List.length_replicate] at hj
  have e1 : (a ++ List.replicate n (k + 1)).getD j 0 = a.getD j 0 := by
    rw [List.getD_eq_getElem?_getD, List.getElem?_append_left (by omega), ← List.getD_eq_getElem?_getD]
  rw [e1]
  rcases Nat.lt_or_ge j b.length with z | z
  · rw [List.getD_eq_getElem?_getD (l := b ++ _), List.getElem?_append_left z, ← List.getD_eq_getElem?_getD]
    exact h.2 j z
  · rw [List.getD_eq_getElem?_getD (l := b ++ _), List.getElem?_append_right z, List.getElem?_replicate, if_pos (by omega)]
    have := hal (a.getD j 0) (by rw [gD (by omega)]; exact List.getElem_mem _)
    show _ < k + 1
    omega
theorem asc_ext {k : Int} {r : List Int} (h : Asc r) (hl : ∀ v ∈ r, v ≤ k) (m : Nat) : Asc (r ++ List.replicate m (k + 1)) := by
  refine List.pairwise_append.mpr ⟨h, ?_, fun a ha b hb => ?_⟩
  · refine List.pairwise_replicate.mpr (.inr (Int.le_refl _))
  · have h1 := hl a ha
    rw [List.eq_of_mem_replicate hb]
    omega
/-! the tableaux on the way -/
structure Mid (shape : List Int) (k : Nat) (T : List (List Int)) : Prop where
  len : T.length = shape.length
  asc : ∀ i, i < T.length → Asc (T.getD i [])
  lt : ∀ i, i < T.length → ∀ v ∈ T.getD i [], 1 ≤ v ∧ v ≤ (k : Int)
  fit : ∀ i, i + 1 < T.length → Fit (T.getD i []) (T.getD (i + 1) [])
  le : ∀ i, i < T.length → ((T.getD i []).length : Int) ≤ shape.getD i 0
theorem roomL_len (T : List (List Int)) (shape : List Int) : (roomL T shape).length = T.length := by
  unfold roomL
  rw [List.length_map, List.length_range]
theorem roomL_get {T : List (List Int)} {shape : List Int} {i : Nat} (hi : i < T.length) : (roomL T shape).getD i 0 = (if 0 < i then min (shape.getD i 0) ((T.getD (i - 1) []).length : Int) else shape.getD i 0) - ((T.getD i []).length : Int) := by
  unfold roomL
  rw [List.getD_eq_getElem?_getD, List.getElem?_map, List.getElem?_range hi]
  rfl
theorem extT_len {T : List (List Int)} {sh : List Int} {l : Int} (h : sh.length = T.length) : (extT T sh l).length = T.length := by
  unfold extT
  rw [List.length_zipWith, h, Nat.min_self]
theorem extT_get {T : List (List Int)} {sh : List Int} {l : Int} (h : sh.length = T.length) {i : Nat} (hi : i < T.length) : (extT T sh l).getD i [] = T.getD i [] ++ List.replicate (sh.getD i 0).toNat l := by
  unfold extT
  rw [List.getD_eq_getElem?_getD, List.getElem?_zipWith, List.getElem?_eq_getElem hi, List.getElem?_eq_getElem (by omega), List.getD_eq_getElem?_getD, List.getElem?_eq_getElem hi, List.getD_eq_getElem?_getD, List.getElem?_eq_getElem (by omega)]
  rfl
theorem Mid.ext {shape : List Int} {k : Nat} {T : List (List Int)} {sh : List Int} (h : Mid shape k T) (hs : Bnd sh (roomL T shape)) : Mid shape (k + 1) (extT T sh ((k + 1 : Nat) : Int)) := by
  obtain ⟨h1, h2⟩ := bnd_iff.mp hs
  rw [roomL_len] at h1 h2
  have el := extT_len (l := ((k + 1 : Nat) : Int)) h1
  have ek : ((k + 1 : Nat) : Int) = (k : Int) + 1 := by omega
  refine ⟨el.trans h.len, fun i hi => ?_, fun i hi v hv => ?_, fun i hi => ?_, fun i hi => ?_⟩
  · rw [el] at hi
    rw [extT_get h1 hi, ek]
    exact asc_ext (h.asc i hi) (fun v hv => (h.lt i hi v hv).2) _
  · rw [el] at hi
    rw [extT_get h1 hi] at hv
    rcases List.mem_append.mp hv with hv | hv
    · have := h.lt i hi v hv
      omega
    · rw [List.eq_of_mem_replicate hv]
      omega
  · rw [el] at hi
    rw [extT_get h1 (by omega), extT_get h1 hi, ek]
    refine (h.fit i hi).ext (fun v hv => (h.lt i (by omega) v hv).2) ?_
    have h3 := h2 (i + 1) hi
    rw [roomL_get hi, if_pos (Nat.zero_lt_succ _), Nat.add_sub_cancel] at h3
    omega
  · rw [el] at hi
    rw [extT_get h1 hi, List.length_append, List.length_replicate]
    have h3 := h2 i hi
    rw [roomL_get hi] at h3
    split at h3 <;> omega
def cutR (k : Nat) (T : List (List Int)) : List (List Int) := T.map (fl (k : Int))
def cntR (k : Nat) (T : List (List Int)) : List Int := T.map fun r => (r.count ((k : Int) + 1) : Int)
theorem cutR_get {k : Nat} {T : List (List Int)} {i : Nat} (hi : i < T.length) : (cutR k T).getD i [] = fl (k : Int) (T.getD i []) := by
  unfold cutR
  rw [List.getD_eq_getElem?_getD, List.getElem?_map, List.getElem?_eq_getElem hi, List.getD_eq_getElem?_getD, List.getElem?_eq_getElem hi]
  rfl
theorem cntR_get {k : Nat} {T : List (List Int)} {i : Nat} (hi : i < T.length) : (cntR k T).getD i 0 = ((T.getD i []).count ((k : Int) + 1) : Int) := by
  unfold cntR
  rw [List.getD_eq_getElem?_getD, List.getElem?_map, List.getElem?_eq_getElem hi, List.getD_eq_getElem?_getD, List.getElem?_eq_getElem hi]
  rfl
theorem Mid.cut {shape : List Int} {k : Nat} {T : List (List Int)} (h : Mid shape (k + 1) T) : Mid shape k (cutR k T) ∧ Bnd (cntR k T) (roomL (cutR k T) shape) ∧ extT (cutR k T) (cntR k T) ((k + 1 : Nat) : Int) = T := by
  have lc : (cutR k T).length = T.length := List.length_map ..
  have ln : (cntR k T).length = T.length := List.length_map ..
  have hlt : ∀ i, i < T.length → ∀ v ∈ T.getD i [], v ≤ (k : Int) + 1 := fun i hi v hv => by
    have := (h.lt i hi v hv).2
    omega
  refine ⟨⟨lc.trans h.len, fun i hi => ?_, fun i hi v hv => ?_, fun i hi => ?_, fun i hi => ?_⟩, bnd_iff.mpr ⟨by rw [roomL_len, lc, ln], fun i hi => ?_⟩, ?_⟩
  · rw [lc] at hi
    rw [cutR_get hi]
    exact fl_asc (h.asc i hi)
  · rw [lc] at hi
    rw [cutR_get hi] at hv
    obtain ⟨h1, h2⟩ := fl_le v hv
    exact ⟨(h.lt i hi v h1).1, h2⟩
  · rw [lc] at hi
    rw [cutR_get (by omega), cutR_get hi]
    exact (h.fit i hi).fl (h.asc i (by omega)) (h.asc _ hi) (hlt i (by omega)) (hlt _ hi)
  · rw [lc] at hi
    rw [cutR_get hi]
    have h1 := h.le i hi
    have h2 := fl_len (h.asc i hi) (hlt i hi)
    omega
  · rw [roomL_len, lc] at hi
    have h1 := h.le i hi
    have h2 := fl_len (h.asc i hi) (hlt i hi)
    rw [cntR_get hi, roomL_get (by rw [lc]; exact hi), cutR_get hi]
    split
    · rename_i hp
      have h3 := (h.fit (i - 1) (by omega)).room (h.asc (i - 1) (by omega)) (hlt (i - 1) (by omega)) (by rw [show i - 1 + 1 = i by omega]; exact hlt i hi)
      rw [show i - 1 + 1 = i by omega] at h3
      rw [cutR_get (by omega)]
      omega
    · omega
  · refine List.ext_getElem? fun i => ?_
    by_cases hi : i < T.length
    · have e := extT_get (T := cutR k T) (sh := cntR k T) (l := ((k + 1 : Nat) : Int)) (by rw [lc, ln]) (i := i) (by rw [lc]; exact hi)
      rw [cutR_get hi, cntR_get hi, Int.toNat_natCast, show ((k + 1 : Nat) : Int) = (k : Int) + 1 by omega, ← row_split (h.asc i hi) (hlt i hi)] at e
      have hl : i < (extT (cutR k T) (cntR k T) ((k : Int) + 1)).length := by rw [extT_len (by rw [lc, ln]), lc]; exact hi
      rw [show ((k + 1 : Nat) : Int) = (k : Int) + 1 by omega]
      rw [List.getD_eq_getElem?_getD, List.getElem?_eq_getElem hl, List.getD_eq_getElem?_getD, List.getElem?_eq_getElem hi] at e
      rw [List.getElem?_eq_getElem hl, List.getElem?_eq_getElem hi]
      exact congrArg some e
    · rw [List.getElem?_eq_none (l := T) (by omega), List.getElem?_eq_none (by rw [extT_len (by rw [lc, ln]), lc]; omega)]
theorem fl_self {k : Int} {r : List Int} (h : ∀ v ∈ r, v ≤ k) (m : Nat) : fl k (r ++ List.replicate m (k + 1)) = r := by
  unfold fl
  rw [List.filter_append, List.filter_eq_self.mpr fun v hv => decide_eq_true (h v hv), List.filter_eq_nil_iff.mpr, List.append_nil]
  intro v hv
  rw [List.eq_of_mem_replicate hv, decide_eq_false (by omega)]
  exact Bool.false_ne_true
theorem cut_ext {shape : List Int} {k : Nat} {T : List (List Int)} {sh : List Int} (h : Mid shape k T) (hl : sh.length = T.length) : cutR k (extT T sh ((k + 1 : Nat) : Int)) = T := by
  have el := extT_len (l := ((k + 1 : Nat) : Int)) hl
  have lc : (cutR k (extT T sh ((k + 1 : Nat) : Int))).length = T.length := (List.length_map ..).trans el
  refine List.ext_getElem lc fun i h1 h2 => ?_
  have e := cutR_get (k := k) (T := extT T sh ((k + 1 : Nat) : Int)) (i := i) (by rw [el]; exact h2)
  rw [extT_get hl h2, show ((k + 1 : Nat) : Int) = (k : Int) + 1 by omega, fl_self (fun v hv => (h.lt i h2 v hv).2)] at e
  rw [List.getD_eq_getElem?_getD, List.getElem?_eq_getElem (by rw [show (k : Int) + 1 = ((k + 1 : Nat) : Int) by omega]; exact h1), List.getD_eq_getElem?_getD, List.getElem?_eq_getElem h2] at e
  exact e
/-! ### tableaux_of: all tableaux of a shape with a content, once -/
theorem cnt_ext {l x : Int} : ∀ {T : List (List Int)} {sh : List Int}, sh.length = T.length → (extT T sh l).flatten.count x = T.flatten.count x + if l = x then (sh.map Int.toNat).sum else 0
  | [], [], _ => by
    show 0 = 0 + if l = x then 0 else 0
    split <;> rfl
  | r :: T, m :: sh, h => by
    have ih := cnt_ext (l := l) (x := x) (T := T) (sh := sh) (by simpa using h)
    show ((r ++ List.replicate m.toNat l) :: extT T sh l).flatten.count x = (r :: T).flatten.count x + if l = x then (m.toNat :: sh.map Int.toNat).sum else 0
    rw [List.flatten_cons, List.flatten_cons, List.count_append, List.count_append, List.count_append, ih, List.count_replicate, List.sum_cons]
    by_cases z : l = x
    · rw [if_pos z, if_pos (by rw [beq_iff_eq]; exact z), if_pos z]
      omega
    · rw [if_neg z, if_neg (by rw [beq_iff_eq]; exact z), if_neg z]
      omega
  | [], _ :: _, h => absurd h (by simp)
  | _ :: _, [], h => absurd h (by simp)
theorem Bnd.sumN : ∀ {s r : List Int}, Bnd s r → ((s.map Int.toNat).sum : Int) = s.sum
  | [], [], _ => rfl
  | x :: s, m :: r, h => by
    have ih := h.2.sumN
    have := h.1.1
    rw [List.map_cons, List.sum_cons, List.sum_cons]
    omega
  | [], _ :: _, h => h.elim
  | _ :: _, [], h => h.elim
theorem cntR_sum (k : Nat) : ∀ T : List (List Int), (cntR k T).sum = (T.flatten.count ((k : Int) + 1) : Int)
  | [] => rfl
  | r :: T => by
    show ((r.count ((k : Int) + 1) : Int) :: cntR k T).sum = _
    rw [List.sum_cons, cntR_sum k T, List.flatten_cons, List.count_append]
    omega
theorem Mid.mem {shape : List Int} {k : Nat} {T : List (List Int)} (h : Mid shape k T) : ∀ v ∈ T.flatten, 1 ≤ v ∧ v ≤ (k : Int) := fun v hv => by
  obtain ⟨r, hr, hv⟩ := List.mem_flatten.mp hv
  obtain ⟨i, hi, rfl⟩ := List.mem_iff_getElem.mp hr
  refine h.lt i hi v ?_
  rw [List.getD_eq_getElem?_getD, List.getElem?_eq_getElem hi]
  exact hv
theorem Mid.zero {shape : List Int} (hs : ∀ i, i < shape.length → 0 ≤ shape.getD i 0) {T : List (List Int)} : Mid shape 0 T ↔ T = List.replicate shape.length [] := by
  constructor
  · intro h
    rw [List.eq_replicate_iff]
    refine ⟨h.len, fun r hr => ?_⟩
    obtain ⟨i, hi, rfl⟩ := List.mem_iff_getElem.mp hr
    have h1 := h.lt i hi
    rw [List.getD_eq_getElem?_getD, List.getElem?_eq_getElem hi] at h1
    refine List.eq_nil_iff_forall_not_mem.mpr fun v hv => ?_
    have h2 : 1 ≤ v ∧ v ≤ ((0 : Nat) : Int) := h1 v hv
    omega
  · rintro rfl
    have hg : ∀ i, i < (List.replicate shape.length ([] : List Int)).length → (List.replicate shape.length ([] : List Int)).getD i [] = [] := fun i hi => by
      rw [List.getD_eq_getElem?_getD, List.getElem?_eq_getElem hi, List.getElem_replicate]
      rfl
    refine ⟨List.length_replicate, fun i hi => ?_, fun i hi v hv => ?_, fun i hi => ?_, fun i hi => ?_⟩
    · rw [hg i hi]; exact List.Pairwise.nil
    · rw [hg i hi] at hv; exact absurd hv List.not_mem_nil
    · rw [hg _ hi]; exact ⟨Nat.zero_le _, fun j hj => absurd hj (Nat.not_lt_zero _)⟩
    · rw [hg i hi]
      rw [List.length_replicate] at hi
      exact hs i hi
theorem mem_tabK {shape content : List Int} (hs : ∀ i, i < shape.length → 0 ≤ shape.getD i 0) (hc : ∀ i, 0 ≤ content.getD i 0) : ∀ {n : Nat} {T : List (List Int)}, T ∈ tabK shape content n ↔ Mid shape n T ∧ ∀ l, l < n → (T.flatten.count ((l + 1 : Nat) : Int) : Int) = content.getD l 0
  | 0, T => by
    show T ∈ [_] ↔ _
    rw [List.mem_singleton, Mid.zero hs]
    exact ⟨fun h => ⟨h, fun l hl => absurd hl (Nat.not_lt_zero _)⟩, fun h => h.1⟩
  | n + 1, T => by
    show T ∈ (tabK shape content n).flatMap _ ↔ _
    rw [List.mem_flatMap]
    unfold wlM
    constructor
    · rintro ⟨T0, h0, h1⟩
      obtain ⟨hm, hcnt⟩ := (mem_tabK hs hc).mp h0
      obtain ⟨sh, hsh, rfl⟩ := List.mem_map.mp h1
      obtain ⟨hb, hsum⟩ := (mem_shO (hc n)).mp hsh
      have hl : sh.length = T0.length := by rw [hb.len, roomL_len]
      refine ⟨hm.ext hb, fun l hl2 => ?_⟩
      rw [cnt_ext hl]
      by_cases e : l = n
      · subst e
        rw [if_pos rfl]
        have h0 : T0.flatten.count ((l + 1 : Nat) : Int) = 0 := List.count_eq_zero.mpr fun z => by
          have := (hm.mem _ z).2
          omega
        have := hb.sumN
        omega
      · rw [if_neg (by omega), Nat.add_zero]
        exact hcnt l (by omega)
    · rintro ⟨hm, hcnt⟩
      obtain ⟨h1, h2, h3⟩ := hm.cut
      have hl : (cntR n T).length = (cutR n T).length := by rw [h2.len, roomL_len]
      refine ⟨cutR n T, (mem_tabK hs hc).mpr ⟨h1, fun l hl2 => ?_⟩, List.mem_map.mpr ⟨cntR n T, (mem_shO (hc n)).mpr ⟨h2, ?_⟩, h3⟩⟩
      · have h4 := hcnt l (by omega)
        rw [← h3, cnt_ext hl, if_neg (by omega), Nat.add_zero] at h4
        exact h4
      · rw [cntR_sum]
        exact hcnt n (Nat.lt_succ_self n)
theorem nd_tabK {shape content : List Int} (hs : ∀ i, i < shape.length → 0 ≤ shape.getD i 0) (hc : ∀ i, 0 ≤ content.getD i 0) : ∀ n : Nat, (tabK shape content n).Nodup
  | 0 => by simp [tabK]
  | n + 1 => by
    show ((tabK shape content n).flatMap _).Nodup
    have hlen : ∀ T ∈ tabK shape content n, ∀ sh ∈ shO (content.getD n 0) (roomL T shape), Mid shape n T ∧ Bnd sh (roomL T shape) ∧ sh.length = T.length := fun T hT sh hsh => by
      obtain ⟨hb, _⟩ := (mem_shO (hc n)).mp hsh
      exact ⟨((mem_tabK hs hc).mp hT).1, hb, by rw [hb.len, roomL_len]⟩
    unfold wlM
    refine nd_flat (nd_tabK hs hc n) (fun T hT => nd_map (nd_shO _ _) fun a ha b hb e => ?_) fun T hT T' hT' hne x hx hy => ?_
    · obtain ⟨hm, b1, l1⟩ := hlen T hT a ha
      obtain ⟨_, b2, l2⟩ := hlen T hT b hb
      refine List.ext_getElem (l1.trans l2.symm) fun i h1 h2 => ?_
      have e1 := congrArg (fun X => (X.getD i []).length) e
      rw [extT_get l1 (by omega), extT_get l2 (by omega), List.length_append, List.length_append, List.length_replicate, List.length_replicate] at e1
      have g1 := (bnd_iff.mp b1).2 i (by rw [roomL_len]; omega)
      have g2 := (bnd_iff.mp b2).2 i (by rw [roomL_len]; omega)
      have e2 : a.getD i 0 = b.getD i 0 := by omega
      rw [List.getD_eq_getElem?_getD, List.getElem?_eq_getElem h1, List.getD_eq_getElem?_getD, List.getElem?_eq_getElem h2] at e2
      exact e2
    · obtain ⟨sh, hsh, rfl⟩ := List.mem_map.mp hx
      obtain ⟨sh', hsh', e⟩ := List.mem_map.mp hy
      obtain ⟨hm, _, l1⟩ := hlen T hT sh hsh
      obtain ⟨hm', _, l2⟩ := hlen T' hT' sh' hsh'
      refine hne ?_
      rw [← cut_ext hm l1, ← cut_ext hm' l2, e]
theorem len_flat {α β : Type} {f : α → List β} {n : Nat} : ∀ {l : List α}, (∀ a ∈ l, (f a).length ≤ n) → (l.flatMap f).length ≤ l.length * n
  | [], _ => Nat.zero_le _
  | a :: l, h => by
    rw [List.flatMap_cons, List.length_append, List.length_cons, Nat.succ_mul]
    have h1 := h a List.mem_cons_self
    have h2 := len_flat (f := f) (l := l) fun b hb => h b (List.mem_cons_of_mem _ hb)
    omega
theorem tabK_lenT {shape content : List Int} : ∀ {n : Nat}, ∀ T ∈ tabK shape content n, T.length = shape.length
  | 0, T, h => by
    rw [List.mem_singleton.mp (show T ∈ [_] from h)]
    exact List.length_replicate
  | n + 1, T, h => by
    obtain ⟨T0, h0, h1⟩ := List.mem_flatMap.mp (show T ∈ (tabK shape content n).flatMap _ from h)
    have := tabK_lenT T0 h0
    unfold wlM at h1
    obtain ⟨sh, hsh, rfl⟩ := List.mem_map.mp h1
    unfold shO at hsh
    obtain ⟨q, hq, rfl⟩ := List.mem_map.mp hsh
    have hl : ∀ {room : List Int} {F : List (List Int × Int)} {m : Nat}, (∀ p ∈ F, p.1.length = m) → ∀ p ∈ room.foldl shStep F, p.1.length = m + room.length := fun {room} => by
      induction room with
      | nil => exact fun {F m} h => h
      | cons c room ih =>
        intro F m h p hp
        have := ih (F := shStep F c) (m := m + 1) (fun p hp => by
          unfold shStep at hp
          obtain ⟨p', hp', h2⟩ := List.mem_flatMap.mp hp
          obtain ⟨s, _, rfl⟩ := List.mem_map.mp h2
          have := h p' hp'
          show (p'.1 ++ [(s : Int)]).length = m + 1
          rw [List.length_append, this]
          rfl) p hp
        rw [List.length_cons]
        omega
    have := hl (room := roomL T0 shape) (F := [([], content.getD n 0)]) (m := 0) (fun p hp => by rw [List.mem_singleton.mp hp]; rfl) q (List.mem_filter.mp hq).1
    rw [Nat.zero_add, roomL_len] at this
    rw [extT_len this]
    assumption
theorem len_tabK {shape content : List Int} (hc : ∀ i, 0 ≤ content.getD i 0) : ∀ n : Nat, (tabK shape content n).length ≤ shape.length ^ ((content.take n).map Int.toNat).sum
  | 0 => Nat.le_refl 1
  | n + 1 => by
    have ih := len_tabK (shape := shape) hc n
    have h1 : (tabK shape content (n + 1)).length ≤ (tabK shape content n).length * shape.length ^ (content.getD n 0).toNat := len_flat fun T hT => by
      unfold wlM
      rw [List.length_map]
      have := len_shO (hc n) (roomL T shape)
      rwa [roomL_len, tabK_lenT T hT] at this
    refine Nat.le_trans h1 (Nat.le_trans (Nat.mul_le_mul_right _ ih) ?_)
    rw [← Nat.pow_add]
    refine Nat.le_of_eq (congrArg _ ?_)
    rcases Nat.lt_or_ge n content.length with z | z
    · rw [List.take_succ_eq_append_getElem z, List.map_append, List.sum_append, List.map_singleton, List.sum_singleton, List.getD_eq_getElem?_getD, List.getElem?_eq_getElem z]
      rfl
    · rw [List.take_of_length_le z, List.take_of_length_le (by omega), List.getD_eq_getElem?_getD, List.getElem?_eq_none z]
      rfl
/-! ### the order of lists of rows, as Python sorts them -/
theorem ints_al : ∀ xs ys : List Int, PySem.W.alikeAll (xs.map PyData.int) (ys.map PyData.int) = true
  | [], _ => by simp [PySem.W.alikeAll]
  | _ :: _, [] => by simp [PySem.W.alikeAll]
  | x :: xs, y :: ys => by simp [PySem.W.alikeAll, PySem.W.alike, ints_al xs ys]
theorem rows_al : ∀ f g : List (List Int), PySem.W.alikeAll (f.map fun c => tI c) (g.map fun c => tI c) = true
  | [], _ => by simp [PySem.W.alikeAll]
  | _ :: _, [] => by simp [PySem.W.alikeAll]
  | x :: f, y :: g => by
    have := ints_al x y
    have h2 := rows_al f g
    simp only [List.map_cons, PySem.W.alikeAll, PySem.W.alike, this, h2, Bool.and_self]
theorem tS_al (f g : List (List Int)) : PySem.W.alike (tS f) (tS g) = true := by simp only [PySem.W.alike, rows_al]
theorem tS_all (Ts : List (List (List Int))) : PySem.W.AllAlike (Ts.map fun T => tS T) := PySem.W.AllAlike.of fun a b => tS_al a b
abbrev kT (T : List (List Int)) : List (Int ⊕ List Nat) := PySem.W.keyToks (tS T)
def ltT (a b : List (List Int)) : Bool := PySem.W.dataLt (tS a) (tS b)
theorem ltT_irr (a : List (List Int)) : ltT a a = false := (listOrd itemOrd).irrefl (kT a)
theorem ltT_trans {a b c : List (List Int)} (h1 : ltT a b = true) (h2 : ltT b c = true) : ltT a c = true := (listOrd itemOrd).trans (kT a) (kT b) (kT c) h1 h2
theorem ltT_neg {a b c : List (List Int)} (h : ltT a c = true) : ltT a b = true ∨ ltT b c = true := (listOrd itemOrd).negTrans (kT a) (kT b) (kT c) h
theorem tS_inj {a b : List (List Int)} (h : tS a = tS b) : a = b := by
  have h2 : a.map (fun c => tI c) = b.map (fun c => tI c) := by injection h
  clear h
  induction a generalizing b with
  | nil =>
    cases b with
    | nil => rfl
    | cons _ _ => cases h2
  | cons r a ih =>
    cases b with
    | nil => cases h2
    | cons s b =>
      rw [List.map_cons, List.map_cons] at h2
      injection h2 with h3 h4
      rw [tI_inj h3, ih h4]
theorem tS_eqv (a b : List (List Int)) : PyData.eqv (tS a) (tS b) = true ↔ a = b := by
  have h := eqv_iff 8 (tS a) (tS b) (pl_tuple (PlAll.map fun _ => pl_tuple (PlAll.map fun _ => pl_int _ _))) (pl_tuple (PlAll.map fun _ => pl_tuple (PlAll.map fun _ => pl_int _ _)))
  exact h.trans ⟨tS_inj, fun e => by rw [e]⟩
theorem ltT_total {a b : List (List Int)} (h : a ≠ b) : ltT a b = true ∨ ltT b a = true := by
  cases h1 : ltT a b with
  | true => exact .inl rfl
  | false =>
    cases h2 : ltT b a with
    | true => exact .inr rfl
    | false =>
      exfalso
      have e : kT a = kT b := (listOrd itemOrd).total (kT a) (kT b) h1 h2
      cases h3 : PyData.eqv (tS a) (tS b) with
      | true => exact h ((tS_eqv a b).mp h3)
      | false =>
        have h4 := (PySem.W.toks_eqv (tS a) (tS b) (tS_al a b)).2 h3 [] [.inl 0]
        have h5 : PyProof.Rows.lexLt itemOrd (kT a ++ []) (kT b ++ [.inl 0]) = PyProof.Rows.lexLt itemOrd (kT a) (kT b) := h4
        rw [e, PySem.W.lex_pre] at h5
        have h6 : PyProof.Rows.lexLt itemOrd (kT b) (kT b) = false := (listOrd itemOrd).irrefl (kT b)
        rw [h6] at h5
        cases h5
def leT (a b : List (List Int)) : Bool := !ltT b a
def srtT (Ts : List (List (List Int))) : List (List (List Int)) := Ts.mergeSort leT
theorem srtT_dat (Ts : List (List (List Int))) : (Ts.map fun T => tS T).mergeSort (PySem.W.dataLe false id) = (srtT Ts).map fun T => tS T := (List.map_mergeSort (f := fun T => tS T) (r := leT) (s := PySem.W.dataLe false id) (l := Ts) fun a _ b _ => rfl).symm
theorem srtT_perm (Ts : List (List (List Int))) : (srtT Ts).Perm Ts := List.mergeSort_perm _ _
theorem srtT_asc {Ts : List (List (List Int))} (hn : Ts.Nodup) : (srtT Ts).Pairwise fun a b => ltT a b = true := by
  have h1 : (srtT Ts).Pairwise fun a b => leT a b = true := List.pairwise_mergeSort (le := leT) (fun a b c h1 h2 => by
    unfold leT at *
    rw [Bool.not_eq_true'] at *
    cases h : ltT c a with
    | false => rfl
    | true =>
      rcases ltT_neg (b := b) h with z | z
      · rw [z] at h2; cases h2
      · rw [z] at h1; cases h1) (fun a b => by
    unfold leT
    cases h : ltT b a with
    | false => rfl
    | true =>
      cases h2 : ltT a b with
      | false => rfl
      | true =>
        have := ltT_trans h h2
        rw [ltT_irr] at this
        cases this) Ts
  have h2 : (srtT Ts).Nodup := (srtT_perm Ts).nodup_iff.mpr hn
  refine (h1.and h2).imp fun {a b} ⟨h3, h4⟩ => ?_
  unfold leT at h3
  rcases ltT_total h4 with z | z
  · exact z
  · rw [z] at h3
    cases h3
theorem srtT_self {Ts : List (List (List Int))} (h : Ts.Pairwise fun a b => ltT a b = true) : srtT Ts = Ts := List.mergeSort_of_pairwise (h.imp fun {a b} h => by
  unfold leT
  cases h2 : ltT b a with
  | false => rfl
  | true =>
    have := ltT_trans h h2
    rw [ltT_irr] at this
    cases this)
/-! ### the tableaux of a shape with a content: what they are -/
def cntT (T : List (List Int)) (L : Nat) : List Int := (List.range L).map fun l => (T.flatten.count ((l + 1 : Nat) : Int) : Int)
def lenT (T : List (List Int)) : List Int := T.map fun r => (r.length : Int)
theorem cntT_get {T : List (List Int)} {L l : Nat} (h : l < L) : (cntT T L).getD l 0 = (T.flatten.count ((l + 1 : Nat) : Int) : Int) := by
  unfold cntT
  rw [List.getD_eq_getElem?_getD, List.getElem?_map, List.getElem?_range h]
  rfl
theorem sum_add2 {α : Type} {f g : α → Int} : ∀ l : List α, (l.map fun a => f a + g a).sum = (l.map f).sum + (l.map g).sum
  | [] => rfl
  | a :: l => by
    rw [List.map_cons, List.map_cons, List.map_cons, List.sum_cons, List.sum_cons, List.sum_cons, sum_add2 l]
    omega
theorem one_hit {x : Int} : ∀ n : Nat, ((List.range n).map fun l => if x = ((l + 1 : Nat) : Int) then (1 : Int) else 0).sum = if 1 ≤ x ∧ x ≤ (n : Int) then 1 else 0
  | 0 => by rw [if_neg (by omega)]; rfl
  | n + 1 => by
    rw [List.range_succ, List.map_append, List.sum_append, one_hit n, List.map_singleton, List.sum_singleton]
    split <;> split <;> split <;> omega
theorem len_cnt {n : Nat} : ∀ {xs : List Int}, (∀ v ∈ xs, 1 ≤ v ∧ v ≤ (n : Int)) → ((List.range n).map fun l => (xs.count ((l + 1 : Nat) : Int) : Int)).sum = xs.length
  | [], _ => by
    have : ((List.range n).map fun l => (([] : List Int).count ((l + 1 : Nat) : Int) : Int)) = List.replicate n 0 := List.eq_replicate_iff.mpr ⟨by rw [List.length_map, List.length_range], fun b hb => by
      obtain ⟨l, _, rfl⟩ := List.mem_map.mp hb
      rfl⟩
    rw [this, List.sum_replicate_int]
    simp
  | x :: xs, h => by
    have ih := len_cnt (xs := xs) fun v hv => h v (List.mem_cons_of_mem _ hv)
    have hx := h x List.mem_cons_self
    have e : ((List.range n).map fun l => ((x :: xs).count ((l + 1 : Nat) : Int) : Int)) = (List.range n).map fun l => (xs.count ((l + 1 : Nat) : Int) : Int) + if x = ((l + 1 : Nat) : Int) then (1 : Int) else 0 := List.map_congr_left fun l _ => by
      rw [List.count_cons]
      by_cases z : x = ((l + 1 : Nat) : Int)
      · rw [if_pos (by rw [beq_iff_eq]; exact z), if_pos z]
        omega
      · rw [if_neg (by rw [beq_iff_eq]; exact z), if_neg z]
        omega
    rw [e, sum_add2, ih, one_hit, if_pos hx, List.length_cons]
    omega
theorem eq_of_sum : ∀ {a b : List Int}, a.length = b.length → (∀ i, i < a.length → a.getD i 0 ≤ b.getD i 0) → a.sum = b.sum → a = b
  | [], [], _, _, _ => rfl
  | x :: a, y :: b, h, hle, hs => by
    have h0 : x ≤ y := hle 0 (Nat.zero_lt_succ _)
    have hle' : ∀ i, i < a.length → a.getD i 0 ≤ b.getD i 0 := fun i hi => hle (i + 1) (by rw [List.length_cons]; omega)
    have hl : a.length = b.length := by simpa using h
    rw [List.sum_cons, List.sum_cons] at hs
    have hsum : ∀ {a b : List Int}, a.length = b.length → (∀ i, i < a.length → a.getD i 0 ≤ b.getD i 0) → a.sum ≤ b.sum := by
      intro a
      induction a with
      | nil =>
        intro b h _
        rw [List.length_eq_zero_iff.mp h.symm]
        exact Int.le_refl _
      | cons x a ih =>
        intro b h hle
        match b, h with
        | y :: b, h =>
          have h0 : x ≤ y := hle 0 (Nat.zero_lt_succ _)
          have := ih (b := b) (by simpa using h) fun i hi => hle (i + 1) (by rw [List.length_cons]; omega)
          rw [List.sum_cons, List.sum_cons]
          omega
    have h1 := hsum hl hle'
    obtain rfl : x = y := by omega
    rw [eq_of_sum hl hle' (by omega)]
  | [], _ :: _, h, _, _ => absurd h (by simp)
  | _ :: _, [], h, _, _ => absurd h (by simp)
theorem lenT_sum (T : List (List Int)) : (lenT T).sum = (T.flatten.length : Int) := by
  induction T with
  | nil => rfl
  | cons r T ih =>
    show ((r.length : Int) :: lenT T).sum = _
    rw [List.sum_cons, ih, List.flatten_cons, List.length_append]
    omega
theorem lenT_get {T : List (List Int)} {i : Nat} (h : i < T.length) : (lenT T).getD i 0 = ((T.getD i []).length : Int) := by
  unfold lenT
  rw [List.getD_eq_getElem?_getD, List.getElem?_map, List.getElem?_eq_getElem h, List.getD_eq_getElem?_getD, List.getElem?_eq_getElem h]
  rfl
theorem szT_lenT (T : List (List Int)) : (szT T : Int) = (lenT T).sum := by
  rw [lenT_sum]
  unfold szT
  rw [List.length_flatten]
theorem getD_mem1 {l : List Int} {i : Nat} (h : i < l.length) : l.getD i 0 ∈ l := by
  rw [List.getD_eq_getElem?_getD, List.getElem?_eq_getElem h]
  exact List.getElem_mem h
theorem tab_fin {shape content : List Int} (hs : ∀ x ∈ shape, 1 ≤ x) (hc : ∀ i, 0 ≤ content.getD i 0) (hsum : shape.sum = content.sum) (hn : content.length ≤ 60) (hz : shape.sum ≤ 200) {T : List (List Int)} (h : T ∈ tabK shape content content.length) :
    TabOk T ∧ lenT T = shape ∧ cntT T content.length = content ∧ ∀ v ∈ T.flatten, 1 ≤ v ∧ v ≤ (content.length : Int) := by
  have hs0 : ∀ i, i < shape.length → 1 ≤ shape.getD i 0 := fun i hi => hs _ (getD_mem1 hi)
  obtain ⟨hm, hcnt⟩ := (mem_tabK (fun i hi => by have := hs0 i hi; omega) hc).mp h
  have hcn : cntT T content.length = content := by
    refine List.ext_getElem (by unfold cntT; rw [List.length_map, List.length_range]) fun i h1 h2 => ?_
    have e := hcnt i h2
    rw [← cntT_get h2, List.getD_eq_getElem?_getD, List.getElem?_eq_getElem h1, List.getD_eq_getElem?_getD, List.getElem?_eq_getElem h2] at e
    exact e
  have hflat := len_cnt (xs := T.flatten) hm.mem
  have hl : lenT T = shape := by
    refine eq_of_sum ((List.length_map ..).trans hm.len) (fun i hi => ?_) ?_
    · have hi : i < T.length := by rwa [show (lenT T).length = T.length from List.length_map ..] at hi
      rw [lenT_get hi]
      exact hm.le i hi
    · rw [lenT_sum, ← hflat, hsum]
      show (cntT T content.length).sum = _
      rw [hcn]
  refine ⟨(tabOk_iff T).mpr ⟨fun i hi => ⟨⟨fun z => ?_, hm.asc i hi, fun v hv => ?_⟩, fun hp => ?_⟩, ?_⟩, hl, hcn, hm.mem⟩
  · have h1 := hs0 i (by rw [← hm.len]; exact hi)
    rw [← hl, lenT_get hi, z] at h1
    have h1 : (1 : Int) ≤ 0 := h1
    omega
  · have := hm.lt i hi v hv
    omega
  · have := hm.fit (i - 1) (by omega)
    rwa [show i - 1 + 1 = i by omega] at this
  · have := szT_lenT T
    rw [hl] at this
    omega
theorem tab_mem {shape content : List Int} (hs : ∀ x ∈ shape, 1 ≤ x) (hc : ∀ i, 0 ≤ content.getD i 0) {T : List (List Int)} (ht : TabOk T) (hl : lenT T = shape) (hv : ∀ v ∈ T.flatten, v ≤ (content.length : Int)) (hcn : cntT T content.length = content) : T ∈ tabK shape content content.length := by
  have hs0 : ∀ i, i < shape.length → 1 ≤ shape.getD i 0 := fun i hi => hs _ (getD_mem1 hi)
  have hlen : T.length = shape.length := by rw [← hl]; exact (List.length_map ..).symm
  have hg := ((tabOk_iff T).mp ht).1
  have hmem : ∀ i, i < T.length → ∀ v ∈ T.getD i [], v ∈ T.flatten := fun i hi v hv => by
    rw [List.getD_eq_getElem?_getD, List.getElem?_eq_getElem hi] at hv
    exact List.mem_flatten.mpr ⟨_, List.getElem_mem hi, hv⟩
  refine (mem_tabK (fun i hi => by have := hs0 i hi; omega) hc).mpr ⟨⟨hlen, fun i hi => (hg i hi).1.2.1, fun i hi v hv' => ⟨((hg i hi).1.2.2 v hv').1, hv v (hmem i hi v hv')⟩, fun i hi => ?_, fun i hi => ?_⟩, fun l hl2 => ?_⟩
  · exact (hg (i + 1) hi).2 (Nat.zero_lt_succ _)
  · rw [← hl, lenT_get hi]
    exact Int.le_refl _
  · rw [← cntT_get hl2, hcn]
/-! what is made by insertion -/
theorem insT_perm : ∀ (T : List (List Int)) (x : Int), (insT T x).1.flatten.Perm (x :: T.flatten)
  | [], x => by
    show ([[x]] : List (List Int)).flatten.Perm [x]
    exact .refl _
  | r :: T, x => by
    unfold insT
    split
    · rw [List.flatten_cons, List.flatten_cons, List.append_assoc]
      exact List.perm_middle
    · rename_i hf
      have hlt : fg r x < r.length := by have := fg_le r x; omega
      have ih := insT_perm T (r.getD (fg r x) 0)
      rw [List.flatten_cons, List.flatten_cons]
      refine (ih.append_left _).trans ?_
      refine List.perm_middle.trans ?_
      rw [← List.cons_append, ← List.cons_append]
      refine List.Perm.append_right _ ?_
      have e1 : r = r.take (fg r x) ++ r.getD (fg r x) 0 :: r.drop (fg r x + 1) := by
        rw [gD hlt, List.getElem_cons_drop, List.take_append_drop]
      rw [List.set_eq_take_append_cons_drop, if_pos hlt]
      refine (List.Perm.cons _ List.perm_middle).trans ((List.Perm.swap ..).trans (List.Perm.cons _ ?_))
      conv => rhs; rw [e1]
      exact List.perm_middle.symm
theorem fold_perm : ∀ (w : List Int) (T : List (List Int)), (w.foldl (fun t x => (insT t x).1) T).flatten.Perm (T.flatten ++ w)
  | [], T => by
    rw [List.append_nil]
    exact .refl _
  | x :: w, T => by
    rw [List.foldl_cons]
    refine (fold_perm w _).trans ?_
    refine ((insT_perm T x).append_right w).trans ?_
    rw [List.cons_append]
    exact List.perm_middle.symm
theorem made_perm (w : List Int) : (madeT w).flatten.Perm w := fold_perm w []
/-- a tableau has no more rows than letters -/
theorem tab_rows {T : List (List Int)} (ht : TabOk T) : ∀ i, i < T.length → (i : Int) + 1 ≤ (T.getD i []).getD 0 0
  | 0, hi => by
    have hg := ((tabOk_iff T).mp ht).1 0 hi
    have h0 : 0 < (T.getD 0 []).length := List.length_pos_iff.mpr hg.1.1
    have := (hg.1.2.2 ((T.getD 0 []).getD 0 0) (by rw [gD h0]; exact List.getElem_mem _)).1
    omega
  | i + 1, hi => by
    have ih := tab_rows ht i (by omega)
    have hg := ((tabOk_iff T).mp ht).1 (i + 1) hi
    have h0 : 0 < (T.getD (i + 1) []).length := List.length_pos_iff.mpr hg.1.1
    have := (hg.2 (Nat.zero_lt_succ _)).2 0 h0
    rw [Nat.add_sub_cancel] at this
    omega
theorem tab_len {T : List (List Int)} {n : Nat} (ht : TabOk T) (h : ∀ v ∈ T.flatten, v ≤ (n : Int)) : T.length ≤ n := by
  rcases Nat.eq_zero_or_pos T.length with z | z
  · omega
  · have h1 := tab_rows ht (T.length - 1) (by omega)
    have hg := ((tabOk_iff T).mp ht).1 (T.length - 1) (by omega)
    have h0 : 0 < (T.getD (T.length - 1) []).length := List.length_pos_iff.mpr hg.1.1
    have hlt : T.length - 1 < T.length := by omega
    have h2 := h ((T.getD (T.length - 1) []).getD 0 0) (List.mem_flatten.mpr ⟨T.getD (T.length - 1) [], by
      rw [List.getD_eq_getElem?_getD, List.getElem?_eq_getElem hlt]
      exact List.getElem_mem _, by rw [gD h0]; exact List.getElem_mem _⟩)
    omega
/-! sums, compositions -/
theorem mem_lrM : ∀ {n : Nat} {t : Int} {r : List Int}, 0 ≤ t → (r ∈ lrM n t ↔ r.length = n ∧ (∀ x ∈ r, 0 ≤ x) ∧ r.sum = t)
  | 0, t, r, ht => by
    show r ∈ (if t = 0 then [[]] else []) ↔ _
    constructor
    · intro h
      split at h
      · rename_i z
        rw [List.mem_singleton.mp h, z]
        exact ⟨rfl, fun _ h => absurd h List.not_mem_nil, rfl⟩
      · cases h
    · rintro ⟨h1, _, h2⟩
      rw [List.length_eq_zero_iff.mp h1] at h2 ⊢
      have h2 : (0 : Int) = t := h2
      rw [if_pos h2.symm]
      exact List.mem_singleton.mpr rfl
  | n + 1, t, r, ht => by
    show r ∈ (List.range (t + 1).toNat).flatMap _ ↔ _
    rw [List.mem_flatMap]
    constructor
    · rintro ⟨a, ha, h⟩
      have ha := List.mem_range.mp ha
      obtain ⟨r', h', rfl⟩ := List.mem_map.mp h
      obtain ⟨h1, h2, h3⟩ := (mem_lrM (by omega)).mp h'
      refine ⟨by rw [List.length_cons, h1], fun x hx => ?_, by rw [List.sum_cons, h3]; omega⟩
      rcases List.mem_cons.mp hx with rfl | hx
      · omega
      · exact h2 x hx
    · rintro ⟨h1, h2, h3⟩
      match r, h1 with
      | a :: r, h1 =>
        have ha := h2 a List.mem_cons_self
        have hr : ∀ x ∈ r, 0 ≤ x := fun x hx => h2 x (List.mem_cons_of_mem _ hx)
        have hs : 0 ≤ r.sum := by
          clear h1 h2 h3
          induction r with
          | nil => exact Int.le_refl _
          | cons y r ih =>
            have := hr y List.mem_cons_self
            have := ih fun x hx => hr x (List.mem_cons_of_mem _ hx)
            rw [List.sum_cons]
            omega
        rw [List.sum_cons] at h3
        refine ⟨a.toNat, List.mem_range.mpr (by omega), List.mem_map.mpr ⟨r, (mem_lrM (by omega)).mpr ⟨by simpa using h1, hr, by omega⟩, ?_⟩⟩
        rw [Int.toNat_of_nonneg ha]
theorem mem_sumsT {t : Int} (ht : 0 ≤ t) {r : List Int} (h1 : 1 ≤ r.length) (h3 : r.length ≤ 3) (h0 : ∀ x ∈ r, 0 ≤ x) (hs : r.sum = t) : r ∈ sumsT t := by
  unfold sumsT
  have hr : r.length = 1 ∨ r.length = 2 ∨ r.length = 3 := by omega
  rcases hr with e | e | e
  · exact List.mem_append_left _ (List.mem_append_left _ ((mem_lrM ht).mpr ⟨e, h0, hs⟩))
  · exact List.mem_append_left _ (List.mem_append_right _ ((mem_lrM ht).mpr ⟨e, h0, hs⟩))
  · exact List.mem_append_right _ ((mem_lrM ht).mpr ⟨e, h0, hs⟩)
theorem mem_shpM : ∀ {f : Nat} {t m : Int} {r : List Int}, 0 ≤ t → t ≤ (f : Int) → r ∈ shpM f t m → (∀ x ∈ r, 1 ≤ x) ∧ r.sum = t
  | 0, t, m, r, h0, hf, h => by
    rw [List.mem_singleton.mp (show r ∈ [[]] from h)]
    refine ⟨fun _ h => absurd h List.not_mem_nil, ?_⟩
    show (0 : Int) = t
    omega
  | f + 1, t, m, r, h0, hf, h => by
    replace h : r ∈ (if t = 0 then [[]] else (List.range (min t m).toNat).flatMap fun (a : Nat) => (shpM f (t - ((a : Int) + 1)) ((a : Int) + 1)).map fun r => ((a : Int) + 1) :: r) := h
    split at h
    · rename_i z
      rw [List.mem_singleton.mp h, z]
      exact ⟨fun _ h => absurd h List.not_mem_nil, rfl⟩
    · obtain ⟨a, ha, h⟩ := List.mem_flatMap.mp h
      have ha := List.mem_range.mp ha
      obtain ⟨r', h', rfl⟩ := List.mem_map.mp h
      obtain ⟨h1, h2⟩ := mem_shpM (f := f) (by omega) (by omega) h'
      refine ⟨fun x hx => ?_, by rw [List.sum_cons, h2]; omega⟩
      rcases List.mem_cons.mp hx with rfl | hx
      · omega
      · exact h1 x hx
/-! ### all sums up to 5: the boards listed are the boards found, in order, as many as pairs of tableaux -/
theorem tokI : ∀ xs ys : List Int, xs.length = ys.length → PyProof.Rows.lexLt itemOrd (PySem.W.keyToksAll (xs.map PyData.int)) (PySem.W.keyToksAll (ys.map PyData.int)) = ltIb xs ys
  | [], [], _ => by
    have h : PyProof.Rows.lexLt itemOrd (PySem.W.keyToksAll []) (PySem.W.keyToksAll []) = false := (listOrd itemOrd).irrefl (PySem.W.keyToksAll [])
    exact h
  | x :: xs, y :: ys, h => by
    have ih := tokI xs ys (by simpa using h)
    rw [List.map_cons, List.map_cons, ltIb]
    by_cases e : x = y
    · subst e
      rw [PySem.W.dataLt_all_yes (by simp [PySem.W.alike]) (by simp [PyData.eqv]), ih]
      simp
    · rw [PySem.W.dataLt_all_no (by simp [PySem.W.alike]) (by simp [PyData.eqv, e]), PySem.W.dataLt_int]
      simp [e]
theorem tI_ltb {w v : List Int} (h : w.length = v.length) : PySem.W.dataLt (tI w) (tI v) = ltIb w v := by
  rw [PySem.W.dataLt_tuple, tokI w v h]
theorem ltIb_irr : ∀ w : List Int, ltIb w w = false
  | [] => rfl
  | x :: w => by simp [ltIb, ltIb_irr w]
theorem tI_eqvb (w v : List Int) : PyData.eqv (tI w) (tI v) = decide (w = v) := by
  have h := eqv_iff 8 (tI w) (tI v) (pl_tuple (PlAll.map fun _ => pl_int _ _)) (pl_tuple (PlAll.map fun _ => pl_int _ _))
  have h2 : tI w = tI v ↔ w = v := ⟨tI_inj, fun e => by rw [e]⟩
  cases hb : PyData.eqv (tI w) (tI v) with
  | true => exact (decide_eq_true (h2.mp (h.mp hb))).symm
  | false => exact (decide_eq_false fun z => by rw [h.mpr (h2.mpr z)] at hb; cases hb).symm
theorem tokR {r : Nat} : ∀ {f g : List (List Int)}, f.length = g.length → (∀ w ∈ f, w.length = r) → (∀ w ∈ g, w.length = r) → PyProof.Rows.lexLt itemOrd (PySem.W.keyToksAll (f.map fun c => tI c)) (PySem.W.keyToksAll (g.map fun c => tI c)) = ltLb f g
  | [], [], _, _, _ => by
    have h : PyProof.Rows.lexLt itemOrd (PySem.W.keyToksAll []) (PySem.W.keyToksAll []) = false := (listOrd itemOrd).irrefl (PySem.W.keyToksAll [])
    exact h
  | w :: f, v :: g, h, hf, hg => by
    have h1 := hf w List.mem_cons_self
    have h2 := hg v List.mem_cons_self
    have ih := tokR (f := f) (g := g) (by simpa using h) (fun x hx => hf x (List.mem_cons_of_mem _ hx)) fun x hx => hg x (List.mem_cons_of_mem _ hx)
    have al : PySem.W.alike (tI w) (tI v) = true := by simp only [PySem.W.alike, ints_al]
    rw [List.map_cons, List.map_cons, ltLb]
    by_cases e : w = v
    · subst e
      have hirr := ltIb_irr w
      rw [PySem.W.dataLt_all_yes al (by rw [tI_eqvb]; simp), ih, hirr]
      simp
    · rw [PySem.W.dataLt_all_no al (by rw [tI_eqvb]; simp [e]), tI_ltb (by omega)]
      simp [e]
  | [], _ :: _, h, _, _ => absurd h (by simp)
  | _ :: _, [], h, _, _ => absurd h (by simp)
theorem ltT_b {n m : Nat} {f g : List (List Int)} (hf : shpB n m f = true) (hg : shpB n m g = true) : ltT f g = ltLb f g := by
  unfold shpB at hf hg
  rw [Bool.and_eq_true] at hf hg
  unfold ltT
  rw [PySem.W.dataLt_tuple]
  exact tokR (r := m) ((of_decide_eq_true hf.1).trans (of_decide_eq_true hg.1).symm) (fun w hw => of_decide_eq_true (List.all_eq_true.mp hf.2 w hw)) fun w hw => of_decide_eq_true (List.all_eq_true.mp hg.2 w hw)
theorem ascB_pw {n m : Nat} : ∀ {Bs : List (List (List Int))}, Bs.all (shpB n m) = true → ascB Bs = true → Bs.Pairwise fun a b => ltT a b = true
  | [], _, _ => List.Pairwise.nil
  | b :: Bs, hs, h => by
    rw [List.all_cons, Bool.and_eq_true] at hs
    unfold ascB at h
    rw [Bool.and_eq_true] at h
    refine List.Pairwise.cons (fun c hc => ?_) (ascB_pw hs.2 h.2)
    rw [ltT_b hs.1 (List.all_eq_true.mp hs.2 c hc)]
    exact List.all_eq_true.mp h.1 c hc
theorem chkT_all : ∀ t : Nat, t ≤ 5 → chkT (t : Int) = true
  | 0, _ => by decide +kernel
  | 1, _ => by decide +kernel
  | 2, _ => by decide +kernel
  | 3, _ => by decide +kernel
  | 4, _ => by decide +kernel
  | 5, _ => by decide +kernel
  | n + 6, h => absurd h (by omega)
theorem brds_ok {t : Nat} (ht : t ≤ 5) {R C : List Int} (hR : R ∈ sumsT (t : Int)) (hC : C ∈ sumsT (t : Int)) :
    (brF R C).map (·.1) = ((lbK R C.length).filter fun b => decide (csums b C.length = C)) ∧ srtT ((brF R C).map (·.1)) = (brF R C).map (·.1) ∧
      ((shpM t (t : Int) (t : Int)).map fun s => (tabK s R R.length).length * (tabK s C C.length).length).sum = (brF R C).length := by
  have h := chkT_all t ht
  unfold chkT at h
  have h1 := List.all_eq_true.mp (List.all_eq_true.mp h R hR) C hC
  rw [Bool.and_eq_true] at h1
  obtain ⟨h1, h2⟩ := h1
  unfold chk1 at h1
  rw [Bool.and_eq_true, Bool.and_eq_true] at h1
  exact ⟨of_decide_eq_true h1.1.2, srtT_self (ascB_pw h1.1.1 h1.2), of_decide_eq_true h2⟩
/-! ### counts -/
def cntW (w : List Int) (L : Nat) : List Int := (List.range L).map fun l => (w.count ((l + 1 : Nat) : Int) : Int)
theorem cntW_len (w : List Int) (L : Nat) : (cntW w L).length = L := by
  unfold cntW
  rw [List.length_map, List.length_range]
theorem cntW_get {w : List Int} {L l : Nat} (h : l < L) : (cntW w L).getD l 0 = (w.count ((l + 1 : Nat) : Int) : Int) := by
  unfold cntW
  rw [List.getD_eq_getElem?_getD, List.getElem?_map, List.getElem?_range h]
  rfl
theorem cntW_snoc {w : List Int} {L : Nat} {v : Int} (h1 : 1 ≤ v) (h2 : v ≤ (L : Int)) : cntW (w ++ [v]) L = (cntW w L).set (v - 1).toNat ((cntW w L).getD (v - 1).toNat 0 + 1) := by
  refine List.ext_getElem (by rw [List.length_set, cntW_len, cntW_len]) fun i hi1 hi2 => ?_
  rw [cntW_len] at hi1
  rw [List.getElem_set]
  have e : (cntW (w ++ [v]) L)[i]'(by rw [cntW_len]; exact hi1) = ((w ++ [v]).count ((i + 1 : Nat) : Int) : Int) := by
    unfold cntW
    rw [List.getElem_map, List.getElem_range]
  have e2 : (cntW w L)[i]'(by rw [cntW_len]; exact hi1) = (w.count ((i + 1 : Nat) : Int) : Int) := by
    unfold cntW
    rw [List.getElem_map, List.getElem_range]
  rw [e, List.count_append, List.count_cons, List.count_nil]
  by_cases z : (v - 1).toNat = i
  · rw [if_pos z, z, cntW_get hi1, if_pos (by rw [beq_iff_eq]; omega)]
    omega
  · rw [if_neg z, e2, if_neg (by rw [beq_iff_eq]; omega)]
    omega
theorem cntT_W (T : List (List Int)) (L : Nat) : cntT T L = cntW T.flatten L := rfl
theorem cntW_nil (L : Nat) : cntW [] L = List.replicate L 0 := List.eq_replicate_iff.mpr ⟨cntW_len _ _, fun b hb => by
  obtain ⟨l, _, rfl⟩ := List.mem_map.mp (show b ∈ (List.range L).map _ from hb)
  rfl⟩
theorem cntW_perm {w v : List Int} (h : w.Perm v) (L : Nat) : cntW w L = cntW v L := by
  unfold cntW
  exact List.map_congr_left fun l _ => by rw [h.count_eq]
theorem cntW_nn (w : List Int) (L i : Nat) : 0 ≤ (cntW w L).getD i 0 := by
  rcases Nat.lt_or_ge i L with h | h
  · rw [cntW_get h]
    omega
  · rw [List.getD_eq_getElem?_getD, List.getElem?_eq_none (by rw [cntW_len]; exact h)]
    exact Int.le_refl 0
theorem cntW_sum {w : List Int} {L : Nat} (h : ∀ v ∈ w, 1 ≤ v ∧ v ≤ (L : Int)) : (cntW w L).sum = (w.length : Int) := len_cnt h
abbrev lF (fs : List (List (List Int))) : PyData := .list (fs.map fun f => tS f)
theorem dep_ints (xs : List Int) : PyData.depthAll (xs.map PyData.int) = 0 := PySem.W.depth_ints xs
theorem dep_tS : ∀ T : List (List Int), PyData.depthAll (T.map fun c => tI c) ≤ 1
  | [] => by simp [PyData.depthAll]
  | r :: T => by
    have h1 := dep_ints r
    have h2 := dep_tS T
    rw [List.map_cons, PyData.depthAll]
    show max (PyData.depth (.tuple (r.map PyData.int))) _ ≤ 1
    rw [PyData.depth, h1]
    omega
theorem sumN_sum : ∀ {l : List Int}, (∀ x ∈ l, 0 ≤ x) → (l.map Int.toNat).sum = l.sum.toNat ∧ 0 ≤ l.sum
  | [], _ => ⟨rfl, Int.le_refl _⟩
  | x :: l, h => by
    obtain ⟨h1, h2⟩ := sumN_sum (l := l) fun y hy => h y (List.mem_cons_of_mem _ hy)
    have hx := h x List.mem_cons_self
    rw [List.map_cons, List.sum_cons, List.sum_cons, h1]
    constructor <;> omega
theorem at_nthL {α : Type} {xs : List α} {x : α} {i : Int} (h0 : 0 ≤ i) (h : xs[i.toNat]? = some x) : atI xs i = some x := by
  obtain ⟨hl, _⟩ := List.getElem?_eq_some_iff.mp h
  obtain ⟨v, h1, h2, _⟩ := atI_in (xs := xs) h0 (by omega)
  rw [h1, ← h2, h]
local macro_rules | `(tactic| walk_at "pl") => `(tactic| ((repeat' (first | exact pl_int _ _ | exact pl_none _ | exact PlAll.nil _ | assumption | refine pl_list ?_ | refine pl_tuple ?_ | refine PlAll.cons ?_ ?_ | refine PlAll.app ?_ ?_ | refine PlAll.map (fun _ => ?_))); done))
local macro_rules | `(tactic| walk_at "len") => `(tactic| first
  | omega
  | (simp only [List.length_map, List.length_append, List.length_cons, List.length_nil, List.length_reverse, List.length_range, List.length_replicate, cut_length] at *; omega))
local macro_rules | `(tactic| walk_at "e") => `(tactic| first
  | with_reducible refine w_op ?_
  | with_reducible refine w_cb ?_
  | with_reducible refine w_call ?_
  | with_reducible refine w_cons ?_
  | with_reducible refine w_nil ?_
  | with_reducible refine w_int ?_
  | with_reducible refine w_bl ?_
  | with_reducible refine w_str ?_
  | with_reducible refine w_none ?_
  | with_reducible refine w_ty ?_
  | with_reducible refine w_ref ?_
  | with_reducible refine w_un ?_
  | with_reducible refine w_if ?_
  | with_reducible refine t_yes ?_
  | (with_reducible refine t_test ?_)
  | (with_reducible refine t_B ?_)
  | with_reducible refine t_and ?_
  | with_reducible refine t_or ?_
  | with_reducible refine t_not ?_
  | with_reducible refine w_andV ?_
  | with_reducible refine w_orV ?_
  | with_reducible refine w_notV ?_
  | with_reducible refine w_chain ?_
  | with_reducible refine i_none ?_
  | with_reducible refine i_some ?_
  | with_reducible refine w_sl ?_
  | ((with_reducible show EvW _ (tVar _) _ _ _); refine w_vD rfl ?_)
  | ((with_reducible show EvW _ (tVar _) _ _ _); refine w_vA rfl ?_)
  | ((with_reducible show EvW _ (tVar _) _ _ _); refine w_vS rfl ?_)
  | ((with_reducible show EvW _ (tVar _) _ _ _); refine w_exc rfl ?_)
  | ((with_reducible show EvW _ (tVar _) _ _ _); refine w_vDic rfl ?_)
  | with_reducible refine g_isX (ExS.is (by assumption)) (by assumption) ?_
  | with_reducible refine g_isXT (ExS.is (by assumption)) (by assumption) ?_
  | ((with_reducible show OpW _ (rOr _ _) (SD.dic _) (SD.dic _) _ _); first | refine o_orR (o_neDic1 rfl ?_) | refine o_orR (o_neDic (fun p hp => by simp only [List.mem_cons, List.not_mem_nil, or_false] at hp; cases hp <;> (subst_vars; exact (Eq.refl true))) (by decide) ?_))
  | ((with_reducible show OpW _ (rOr _ _) (SD.dat _) (SD.dat _) _ _); refine o_orL ?_)
  | ((with_reducible refine i_Dic (b := true) ?hh ?_); (case hh => decide +kernel))
  | ((with_reducible refine i_Dic (b := false) ?hh ?_); (case hh => decide +kernel))
  | with_reducible refine w_xf ?_
  | ((with_reducible show EvW _ (tFs _ _) _ _ _); refine w_fs (by decide) ?_)
  | with_reducible refine w_revT ?_
  | with_reducible refine w_js ?_
  | with_reducible refine j_str ?_
  | with_reducible refine j_fmt ?_
  | with_reducible refine j_nil ?_
  | with_reducible refine w_xv0 ?_
  | with_reducible refine w_xvI ?_
  | with_reducible refine w_xvf ?_
  | ((with_reducible show EvW _ (tVar _) _ _ _); refine w_xob rfl ?_)
  | with_reducible refine g_isV (by assumption) (by assumption) ?_
  | with_reducible refine g_isVT (by assumption) (by assumption) ?_
  | with_reducible refine w_dic1 (fun _ => ?_)
  | with_reducible refine w_dic2 (fun _ _ => rfl) (fun _ => ?_)
  | with_reducible refine w_bm ?_
  | ((with_reducible refine m_app0 ?hh ?_); (case hh => walk_at "len"))
  | ((with_reducible refine m_app1 ?hh ?_); (case hh => walk_at "len"))
  | ((with_reducible refine m_app2 ?hh ?_); (case hh => walk_at "len"))
  | refine ⟨ty_own List.mem_cons_self, ?_⟩
  | refine ⟨ty_own (List.mem_cons_of_mem _ List.mem_cons_self), ?_⟩
  | refine ⟨ty_own (List.mem_cons_of_mem _ (List.mem_cons_of_mem _ List.mem_cons_self)), ?_⟩
  | ((with_reducible show EvW _ (tVar _) _ _ _); refine w_vX rfl (by assumption) ?_)
  | with_reducible refine o_add ?_
  | with_reducible refine o_sub ?_
  | with_reducible refine o_pow18 ?_
  | with_reducible refine o_lt ?_
  | with_reducible refine o_le ?_
  | with_reducible refine o_gt ?_
  | with_reducible refine o_ge ?_
  | with_reducible refine o_eqI ?_
  | with_reducible refine o_neI ?_
  | with_reducible refine o_eqB ?_
  | with_reducible refine o_neB ?_
  | with_reducible refine o_notN (b := true) rfl ?_
  | with_reducible refine o_notN (b := false) rfl ?_
  | with_reducible refine o_isN (b := true) rfl ?_
  | with_reducible refine o_isN (b := false) rfl ?_
  | with_reducible refine o_isB ?_
  | with_reducible refine o_notB ?_
  | with_reducible refine u_neg ?_
  | ((with_reducible refine o_mul ?hh ?_); (case hh => first | exact cmul_l (by omega) (by omega) | exact cmul_r (by omega) (by omega)))
  | ((with_reducible refine o_modB ?hh ?_); (case hh => first | omega | (simp only [List.length_map] at *; omega)); intro _ _ _ _)
  | ((with_reducible refine o_fdiv ?hh ?_); (case hh => constructor <;> omega))
  | ((with_reducible show OpW _ (rIxL _) (SD.ad _) _ _ _); first | refine o_ixO List.mem_cons_self rfl ?_ | refine o_ixO (List.mem_cons_of_mem _ List.mem_cons_self) rfl ?_)
  | (with_reducible refine w_lst ?_)
  | (with_reducible refine w_tup ?_)
  | refine ⟨_, Dats.nil, sz_ok rfl, ?_⟩
  | refine ⟨_, (Dats.cons Dats.nil), sz_ok rfl, ?_⟩
  | refine ⟨_, (Dats.cons (Dats.cons Dats.nil)), sz_ok rfl, ?_⟩
  | refine ⟨_, (Dats.cons (Dats.cons (Dats.cons Dats.nil))), sz_ok rfl, ?_⟩
  | refine ⟨_, (Dats.cons (Dats.cons (Dats.cons (Dats.cons Dats.nil)))), sz_ok rfl, ?_⟩
  | refine ⟨_, (Dats.cons (Dats.cons (Dats.cons (Dats.cons (Dats.cons Dats.nil))))), sz_ok rfl, ?_⟩
  | refine ⟨_, (Dats.cons (Dats.cons (Dats.cons (Dats.cons (Dats.cons (Dats.cons Dats.nil)))))), sz_ok rfl, ?_⟩
  | refine ⟨_, (Dats.cons (Dats.cons (Dats.cons (Dats.cons (Dats.cons (Dats.cons (Dats.cons Dats.nil))))))), sz_ok rfl, ?_⟩
  | refine ⟨_, (Dats.cons (Dats.cons (Dats.cons (Dats.cons (Dats.cons (Dats.cons (Dats.cons (Dats.cons Dats.nil)))))))), sz_ok rfl, ?_⟩
  | refine ⟨_, (Dats.cons (Dats.cons (Dats.cons (Dats.cons (Dats.cons (Dats.cons (Dats.cons (Dats.cons (Dats.cons Dats.nil))))))))), sz_ok rfl, ?_⟩
  | refine ⟨_, (Dats.cons (Dats.cons (Dats.cons (Dats.cons (Dats.cons (Dats.cons (Dats.cons (Dats.cons (Dats.cons (Dats.cons Dats.nil)))))))))), sz_ok rfl, ?_⟩
  | refine ⟨_, (Dats.cons (Dats.cons (Dats.cons (Dats.cons (Dats.cons (Dats.cons (Dats.cons (Dats.cons (Dats.cons (Dats.cons (Dats.cons Dats.nil))))))))))), sz_ok rfl, ?_⟩
  | refine ⟨_, (Dats.cons (Dats.cons (Dats.cons (Dats.cons (Dats.cons (Dats.cons (Dats.cons (Dats.cons (Dats.cons (Dats.cons (Dats.cons (Dats.cons Dats.nil)))))))))))), sz_ok rfl, ?_⟩
  | ((with_reducible refine o_nthL ?h1 ?h2 ?_); (case h1 => omega); (case h2 => walk_at "len"))
  | ((with_reducible refine o_nthT ?h1 ?h2 ?_); (case h1 => omega); (case h2 => walk_at "len"))
  | ((with_reducible refine o_pickM ?h1 ?h2 ?h3 ?_); (case h1 => rfl); (case h2 => omega); (case h3 => walk_at "len"); intro v hv; simp only [List.map_cons, List.map_nil, intOf, List.mem_cons, List.not_mem_nil, or_false] at hv)
  | ((with_reducible refine g_cat .d .d ?hh ?_); (case hh => walk_at "len"))
  | ((with_reducible refine g_catT ?hh ?_); (case hh => walk_at "len"))
  | ((with_reducible show OpW _ (rIxT _) (SD.dat (PyData.tuple _)) (SD.dat (PyData.int _)) _ _); refine o_ixT rfl ?_)
  | ((with_reducible show OpW _ (rIxL _) (SD.dat (PyData.list _)) (SD.dat (PyData.int _)) _ _); refine o_ixL rfl ?_)
  | ((with_reducible refine o_nthS ?h1 ?h2 ?_); (case h1 => omega); (case h2 => walk_at "len"))
  | ((with_reducible refine o_nthG (by assumption) ?h1 ?h2 ?_); (case h1 => omega); (case h2 => walk_at "len"))
  | ((with_reducible refine o_nthST ?h1 ?h2 ?_); (case h1 => omega); (case h2 => walk_at "len"))
  | ((with_reducible refine g_rep2 ?h1 ?h2 ?_); (case h1 => omega); (case h2 => omega))
  | ((with_reducible refine sl_S ?hh ?_); (case hh => walk_at "len"))
  | ((with_reducible refine o_addS ?hh ?_); (case hh => walk_at "len"))
  | ((with_reducible refine o_mulS ?h1 ?h2 ?_); (case h1 => omega); (case h2 => omega))
  | with_reducible refine o_eqT ?_
  | with_reducible refine o_neT ?_
  | with_reducible refine w_m1 ?_
  | with_reducible refine g_rev ?_
  | with_reducible refine g_list .d ?_
  | with_reducible refine ⟨_, Lst.d, ?_⟩
  | ((with_reducible refine g_lenStr ?hh ?_); (case hh => walk_at "len"))
  | with_reducible refine g_lenT ?_
  | with_reducible refine g_lenS ?_
  | with_reducible refine g_len .d ?_
  | with_reducible refine g_len (by assumption) ?_
  | with_reducible refine g_max2 ?_
  | with_reducible refine g_min2 ?_
  | with_reducible refine g_int ?_
  | with_reducible refine g_intB ?_
  | with_reducible refine g_tup .d ?_
  | with_reducible refine g_sumT ?_
  | with_reducible refine g_sum .d ?_
  | ((with_reducible show CbW _ (Wk.rLen _) [SD.ad _] _ _); first | refine g_lenO List.mem_cons_self ?_ | refine g_lenO (List.mem_cons_of_mem _ List.mem_cons_self) ?_ | refine g_lenO (List.mem_cons_of_mem _ (List.mem_cons_of_mem _ List.mem_cons_self)) ?_)
  | ((with_reducible show OpW _ (rIxT _) (SD.ad _) (SD.dat (PyData.int _)) _ _); refine o_ixTO List.mem_cons_self rfl ?_)
  | ((with_reducible show CbW _ (rIsi _) [SD.ad _, SD.ty _] _ _); first | refine i_TO (b := true) List.mem_cons_self (by decide +kernel) ?_ | refine i_TO (b := false) List.mem_cons_self (by decide +kernel) ?_ | refine i_O (b := true) (List.mem_cons_of_mem _ (List.mem_cons_of_mem _ List.mem_cons_self)) (by decide +kernel) ?_ | refine i_O (b := true) List.mem_cons_self (by decide +kernel) ?_ | refine i_O (b := true) (List.mem_cons_of_mem _ List.mem_cons_self) (by decide +kernel) ?_ | refine i_O (b := false) List.mem_cons_self (by decide +kernel) ?_ | refine i_O (b := false) (List.mem_cons_of_mem _ List.mem_cons_self) (by decide +kernel) ?_)
  | ((with_reducible refine i_B (b := true) ?hh ?_); (case hh => decide +kernel))
  | ((with_reducible refine i_B (b := false) ?hh ?_); (case hh => decide +kernel))
  | ((with_reducible refine i_I (b := true) ?hh ?_); (case hh => decide +kernel))
  | ((with_reducible refine i_I (b := false) ?hh ?_); (case hh => decide +kernel))
  | ((with_reducible refine i_T (b := true) ?hh ?_); (case hh => decide +kernel))
  | ((with_reducible refine i_T (b := false) ?hh ?_); (case hh => decide +kernel))
  | ((with_reducible refine i_L (b := true) ?hh ?_); (case hh => decide +kernel))
  | ((with_reducible refine i_L (b := false) ?hh ?_); (case hh => decide +kernel))
  | ((with_reducible refine i_N (b := true) ?hh ?_); (case hh => decide +kernel))
  | ((with_reducible refine i_N (b := false) ?hh ?_); (case hh => decide +kernel))
  | with_reducible refine g_sl .d ?_
  | with_reducible refine sl_T ?_
  | ((with_reducible refine o_eqP ?h1 ?h2 ?_); (case h1 => walk_at "pl"); (case h2 => walk_at "pl"); intro _ _)
  | ((with_reducible refine o_neP ?h1 ?h2 ?_); (case h1 => walk_at "pl"); (case h2 => walk_at "pl"); intro _ _)
  | refine b_dec (fun hd => ?_) (fun hd => ?_)
  | refine b_ndec (fun hd => ?_) (fun hd => ?_)
  | refine b_true ?_
  | refine b_false ?_
  | with_reducible refine b_any (fun hd => ?_) (fun hd => ?_)
  | with_reducible refine ⟨_, rfl, log_ok (by omega) (by omega), ?_⟩
  | with_reducible refine ⟨_, rfl, ?_⟩
  | with_reducible refine ⟨_, _, rfl, rfl, ?_⟩
  | with_reducible refine ⟨rfl, ?_⟩
  | fail "walk")
local macro_rules | `(tactic| walk_at "w") => `(tactic| first
  | with_reducible refine s_seq ?_
  | with_reducible refine s_next ?_
  | with_reducible refine s_asg ?_
  | with_reducible refine s_ret ?_
  | with_reducible refine s_retN ?_
  | with_reducible refine s_drop ?_
  | with_reducible refine s_if ?_
  | with_reducible refine s_setL ?_
  | ((with_reducible show StW _ (tAug _ _ _) _ _ _); refine s_aug ⟨_, rfl, ?_⟩)
  | ((with_reducible show StW _ (tRz1 _ _ _) _ _ _); refine s_rz1 (fun _ hx => hx) ?_)
  | ((with_reducible show StW _ (tRz _ _) _ _ _); refine s_rz (fun _ hx => hx) ?_)
  | ((with_reducible show StW _ (tRzI _ _ _ _) _ _ _); refine s_rzI (fun _ hx => hx) ?_)
  | walk_at "e")
local macro_rules | `(tactic| walk_at "no") => `(tactic| first
  | (rename_i hf; exact absurd rfl hf)
  | (rename_i hf; exact Bool.noConfusion hf)
  | (rename_i hq hf; exact (no_neB hq rfl hf).elim))
def topS (i : Nat) : Stmt := PySem.Challenge.pw_walkhands_k36_whole_lists.main.body.getD i (.Pass ⟨0, 0, 0, 0⟩)
section
variable {P : Program} {w : World} {K : PySem.W.Frag} {mg : Str → Option Value} {base : Heap}
def pre_law_draws : Pre := fun rs O Q => ∃ cell : Int, rs = [iV cell, iV 1000003, iV 6] ∧ ∀ row : List Int, row.length = 6 → (∀ v ∈ row, 0 ≤ v ∧ v < 1000003) → Q (.dat (lI row)) O
theorem len_law_draws (rs : List SD) (O : Own) (Q : SD → Own → Prop) (h : pre_law_draws rs O Q) : rs.length = 3 := by
  obtain ⟨ns, rfl, _⟩ := h
  rfl
abbrev s_law_draws : Stmt := topS 17
theorem sc_law_draws : FnScope ["cell", "modulus", "count", "number", "row", "k", "mixed"] ["cell", "modulus", "count"] (defScope s_law_draws) := ⟨rfl, rfl, rfl, by decide +kernel, rfl, by decide +kernel, by decide +kernel⟩
set_option maxHeartbeats 4000000 in
theorem ok_law_draws  (D : Def K mg "_law_draws" s_law_draws) (m_int : mg "int" = none) (m_range : mg "range" = none) : Callee P w K mg base "_law_draws" ["cell", "modulus", "count"] 1 pre_law_draws := by
  obtain ⟨f, fd, F, hmg⟩ := D
  refine ⟨f, fd, fn_ok F sc_law_draws len_law_draws fun cdv A outer s H E hr => ⟨_, (pss_cons (ps_set (i := 3) sc_law_draws.nd rfl (.inl rfl) (pv 0))
      (pss_cons (ps_if (pt_cmpR op_lt (pv 3) pe_int (nomark _)) (pss_one (ps_set (i := 3) sc_law_draws.nd rfl (.inl rfl) (pe_op op_sub pe_int (pv 3)))) pss_nil)
      (pss_cons (ps_set (i := 4) sc_law_draws.nd rfl (.inl rfl) (pe_lst pa_nil))
      (pss_cons (ps_if (pt_cmpR op_ge (pv 3) (pe_op op_pow pe_int pe_int) (nomark _)) (pss_cons (ps_for PassesOwn.never rfl (pi_range1 (by rfl) m_range (pa_cons (pv 2) pa_nil)) (pg_name (i := 5) sc_law_draws.nd rfl (.inl rfl)) (pss_cons (psApp K (ps_expr (pe_bm PySem.F.plainAttrs_list PySem.F.slot_list_append PySem.F.type_list_append mt_append (pv 4) (pa_cons (pe_op op_mod (pe_callTy kInt1 (by rfl) m_int (by decide +kernel) (pa_cons (pv 3) pa_nil)) (pv 1)) pa_nil))))
      (pss_one (ps_set (i := 3) sc_law_draws.nd rfl (.inl rfl) (pe_op op_fdiv (pv 3) (pv 1))))))
      (pss_one (ps_ret (pv 4)))) pss_nil)
      (pss_cons (ps_for PassesOwn.never rfl (pi_range1 (by rfl) m_range (pa_cons (pv 2) pa_nil)) (pg_name (i := 5) sc_law_draws.nd rfl (.inl rfl)) (pss_cons (ps_set (i := 6) sc_law_draws.nd rfl (.inl rfl) (pe_op op_mod (pe_callTy kInt1 (by rfl) m_int (by decide +kernel) (pa_cons (pe_op op_mul (pe_op op_add (pe_op op_add (pv 3) (pe_op op_mul pe_int (pv 5))) pe_int) pe_int) pa_nil)) pe_int))
      (pss_cons (ps_set (i := 6) sc_law_draws.nd rfl (.inl rfl) (pe_op op_mod (pe_callTy kInt1 (by rfl) m_int (by decide +kernel) (pa_cons (pe_op op_add (pe_op op_mul (pv 6) pe_int) (pe_op op_mul pe_int (pv 5))) pa_nil)) pe_int))
      (pss_one (psApp K (ps_expr (pe_bm PySem.F.plainAttrs_list PySem.F.slot_list_append PySem.F.type_list_append mt_append (pv 4) (pa_cons (pe_op op_mod (pe_callTy kInt1 (by rfl) m_int (by decide +kernel) (pa_cons (pe_op op_fdiv (pv 6) pe_int) pa_nil)) (pv 1)) pa_nil))))))))
      (pss_one (ps_ret (pv 4)))))))), ?_⟩, hmg, F.kp, F.binds fun _ _ _ _ _ _ us hl => match us, hl with | [_, _, _], _ => rfl, Wk.Fun.lk F⟩
  intro rs O Q h
  obtain ⟨cell, rfl, q⟩ := h
  show StW K _ O [iV cell, iV 1000003, iV 6, .non, .non, .non, .non] _
  refine s_seq (s_asg ?_)
  repeat' walk_at "e"
  refine s_cut (fun O1 ds1 => ∃ n : Int, 0 ≤ n ∧ O1 = O ∧ ds1 = [iV cell, iV 1000003, iV 6, iV n, .non, .non, .non]) ?_ ?_
  · repeat' walk_at "w"
    · exact ⟨0 - cell, by omega, rfl, rfl⟩
    · exact ⟨cell, by omega, rfl, rfl⟩
  · rintro O1 ds1 ⟨n, hn0, hO, rfl⟩
    subst hO
    refine s_seq (s_asg (w_lstO (w_nil ⟨sz_ok rfl, fun p => ?_⟩)))
    refine s_seq (s_if ?_)
    repeat' walk_at "e"
    · refine s_seq (s_for1 ?_)
      repeat' walk_at "e"
      refine ⟨by decide, by decide, fun j O2 ds2 => ∃ (us : List Int) (m : Int) (z : SD), 0 ≤ m ∧ us.length = j ∧ (∀ v ∈ us, 0 ≤ v ∧ v < 1000003) ∧ O2 = (p, .lst (us.map fun n => iV n)) :: O1 ∧ ds2 = [iV cell, iV 1000003, iV 6, iV m, .ad p, z, .non], ⟨[], n, .non, hn0, rfl, fun _ h => absurd h List.not_mem_nil, rfl, rfl⟩, fun j O2 ds2 hj hI B2 hB2 => ?_, fun O2 ds2 hI => ?_⟩
      · obtain ⟨us, m, z, hm0, hul, hu, rfl, rfl⟩ := hI
        repeat' walk_at "w"
        rename_i v hv0 hv1 hv
        refine hB2.nx _ _ ⟨us ++ [v], m / 1000003, _, by omega, by rw [List.length_append, hul]; rfl, fun x hx => ?_, by rw [List.map_append]; rfl, rfl⟩
        rcases List.mem_append.mp hx with hx | hx
        · exact hu x hx
        · rw [List.mem_singleton.mp hx]
          exact ⟨hv0, hv1⟩
      · obtain ⟨us, m, z, hm0, hul, hu, rfl, rfl⟩ := hI
        refine s_ret (w_frz (w_vA rfl ⟨p, _, _, O1, rfl, .refl _, Dats.ints us, ?_⟩))
        exact q us hul hu
    · with_reducible refine s_next ?_
      refine s_seq (s_for1 ?_)
      repeat' walk_at "e"
      refine ⟨by decide, by decide, fun j O2 ds2 => ∃ (us : List Int) (z z2 : SD), us.length = j ∧ (∀ v ∈ us, 0 ≤ v ∧ v < 1000003) ∧ O2 = (p, .lst (us.map fun n => iV n)) :: O1 ∧ ds2 = [iV cell, iV 1000003, iV 6, iV n, .ad p, z, z2], ⟨[], .non, .non, rfl, fun _ h => absurd h List.not_mem_nil, rfl, rfl⟩, fun j O2 ds2 hj hI B2 hB2 => ?_, fun O2 ds2 hI => ?_⟩
      · obtain ⟨us, z, z2, hul, hu, rfl, rfl⟩ := hI
        repeat' walk_at "w"
        rename_i v hv0 hv1 hv
        refine hB2.nx _ _ ⟨us ++ [v], _, _, by rw [List.length_append, hul]; rfl, fun x hx => ?_, by rw [List.map_append]; rfl, rfl⟩
        rcases List.mem_append.mp hx with hx | hx
        · exact hu x hx
        · rw [List.mem_singleton.mp hx]
          exact ⟨hv0, hv1⟩
      · obtain ⟨us, z, z2, hul, hu, rfl, rfl⟩ := hI
        refine s_ret (w_frz (w_vA rfl ⟨p, _, _, O1, rfl, .refl _, Dats.ints us, ?_⟩))
        exact q us hul hu
structure BoxOk (row : List Int) : Prop where
  pos : 0 < row.length
  len : row.length ≤ 1000
  all : ∀ v ∈ row, 0 ≤ v ∧ v < 1000003
abbrev Box (bx : Addr) (row : List Int) (k : Int) : Addr × OD := (bx, .dK [(.inr "row", .dat (lI row)), (.inr "at", iV k)])
def pre_law_box : Pre := fun rs O Q => ∃ ns : List Int, rs = [.scr ns] ∧ ns.length ≤ 63 ∧ ∀ (bx : Addr) (row : List Int), BoxOk row → Q (.ad bx) (Box bx row 0 :: O)
theorem len_law_box (rs : List SD) (O : Own) (Q : SD → Own → Prop) (h : pre_law_box rs O Q) : rs.length = 1 := by
  obtain ⟨ns, rfl, _⟩ := h
  rfl
abbrev s_law_box : Stmt := topS 18
theorem sc_law_box : FnScope ["script", "row", "cell"] ["script"] (defScope s_law_box) := ⟨rfl, rfl, rfl, by decide +kernel, rfl, by decide +kernel, by decide +kernel⟩
set_option maxHeartbeats 4000000 in
theorem ok_law_box  (D : Def K mg "_law_box" s_law_box) (C_law_draws : Callee P w K mg base "_law_draws" ["cell", "modulus", "count"] 1 pre_law_draws) (m_len : mg "len" = none) : Callee P w K mg base "_law_box" ["script"] 2 pre_law_box := by
  obtain ⟨f, fd, F, hmg⟩ := D
  obtain ⟨f_law_draws, fd_law_draws, G_law_draws, g_law_draws, kp_law_draws, b_law_draws, _⟩ := C_law_draws
  refine ⟨f, fd, fn_ok F sc_law_box len_law_box fun cdv A outer s H E hr => ⟨_, (pss_cons (ps_set (i := 1) sc_law_box.nd rfl (.inl rfl) (pe_lst pa_nil))
      (pss_cons (ps_for PassesOwn.never rfl (piL K (pv 0)) (pg_name (i := 2) sc_law_box.nd rfl (.inl rfl)) (pss_one (ps_set (i := 1) sc_law_box.nd rfl (.inl rfl) (pe_op op_cat (pv 1) (pe_call G_law_draws (hr.mono (by decide)) (by rfl) g_law_draws kp_law_draws b_law_draws .nil pass0 (pa_cons (pv 2) (pa_cons pe_int (pa_cons pe_int pa_nil))))))))
      (pss_cons (ps_if (pt_cmpR op_eq (pe_callB (kLen K) (by rfl) m_len PySem.boot_len (pa_cons (pv 1) pa_nil)) pe_int (nomark _)) (pss_one (ps_set (i := 1) sc_law_box.nd rfl (.inl rfl) (pe_lst (pa_cons pe_int (pa_cons pe_int (pa_cons pe_int (pa_cons pe_int (pa_cons pe_int (pa_cons pe_int (pa_cons pe_int pa_nil)))))))))) pss_nil)
      (pss_one (ps_ret (pe_disp (pps_cons pe_str (pv 1) (pps_cons pe_str pe_int pps_nil)) (by rfl) (by rfl) (fun z => by cases z) (by decide))))))), ?_⟩, hmg, F.kp, F.binds fun _ _ _ _ _ _ us hl => match us, hl with | [_], _ => rfl, Wk.Fun.lk F⟩
  intro rs O Q h
  obtain ⟨ns, rfl, hn, q⟩ := h
  show StW K _ O [.scr ns, .non, .non] _
  refine s_seq (s_asg ?_)
  repeat' walk_at "e"
  refine s_seq (s_forS (w_vS rfl ⟨ns, rfl, fun i O2 ds2 => ∃ (us : List Int) (z : SD), us.length = 6 * i ∧ (∀ v ∈ us, 0 ≤ v ∧ v < 1000003) ∧ O2 = O ∧ ds2 = [.scr ns, .dat (lI us), z], ⟨[], .non, rfl, fun _ h => absurd h List.not_mem_nil, rfl, rfl⟩, fun i d O2 ds2 hd hI B hB => ?_, fun O2 ds2 hI => ?_⟩))
  · obtain ⟨us, z, hul, hu, hO, rfl⟩ := hI
    have hi : i < ns.length := (List.getElem?_eq_some_iff.mp hd).1
    refine s_asg ?_
    repeat' walk_at "e"
    refine ⟨d, rfl, fun row hr hrow => ?_⟩
    refine g_cat .d .d (by rw [List.length_map, List.length_map]; omega) ?_
    rw [← List.map_append]
    refine hB.nx _ _ ⟨us ++ row, _, by rw [List.length_append, hul, hr]; omega, fun x hx => ?_, hO, rfl⟩
    rcases List.mem_append.mp hx with hx | hx
    · exact hu x hx
    · exact hrow x hx
  · obtain ⟨us, z, hul, hu, hO, rfl⟩ := hI
    subst hO
    refine s_cut (fun O1 ds1 => ∃ row : List Int, BoxOk row ∧ O1 = O2 ∧ ds1 = [.scr ns, .dat (lI row), z]) ?_ ?_
    · refine s_if ?_
      repeat' walk_at "e"
      · refine s_asg ?_
        repeat' walk_at "e"
        exact ⟨[11, 5, 2, 7, 31, 101, 997], ⟨by decide, by decide, by decide⟩, rfl, rfl⟩
      · rename_i hf
        rw [List.length_map] at hf
        with_reducible refine s_next ?_
        exact ⟨us, ⟨by omega, by omega, hu⟩, rfl, rfl⟩
    · rintro O1 ds1 ⟨row, hrow, hO, rfl⟩
      subst hO
      refine s_ret (w_dic2O (fun _ _ => rfl) (fun pn => ?_))
      repeat' walk_at "e"
      exact q pn row hrow
def pre_law_next : Pre := fun rs O Q => ∃ (bx : Addr) (row : List Int) (k m : Int) (O' : Own), rs = [.ad bx, iV m] ∧ O = Box bx row k :: O' ∧ BoxOk row ∧ 0 ≤ k ∧ k < 1000000000 ∧ 0 < m ∧ ∀ n : Int, 0 ≤ n → n < m → Q (iV n) (Box bx row (k + 1) :: O')
theorem len_law_next (rs : List SD) (O : Own) (Q : SD → Own → Prop) (h : pre_law_next rs O Q) : rs.length = 2 := by
  obtain ⟨ts, a, m, x, y, rfl, _⟩ := h
  rfl
local macro_rules | `(tactic| walk_at "e") => `(tactic| ((with_reducible show pre_law_next _ _ _); refine ⟨_, _, _, _, _, rfl, rfl, by assumption, by omega, by omega, by omega, ?_⟩; intro _ _ _))
abbrev s_law_next : Stmt := topS 19
theorem sc_law_next : FnScope ["box", "modulus", "at", "number"] ["box", "modulus"] (defScope s_law_next) := ⟨rfl, rfl, rfl, by decide +kernel, rfl, by decide +kernel, by decide +kernel⟩
set_option maxHeartbeats 4000000 in
theorem ok_law_next  (D : Def K mg "_law_next" s_law_next) (m_int : mg "int" = none) (m_len : mg "len" = none) : Callee P w K mg base "_law_next" ["box", "modulus"] 1 pre_law_next := by
  obtain ⟨f, fd, F, hmg⟩ := D
  refine ⟨f, fd, fn_ok F sc_law_next len_law_next fun cdv A outer s H E hr => ⟨_, (pss_cons (ps_set (i := 2) sc_law_next.nd rfl (.inl rfl) (pe_dget (Nat.lt_of_le_of_lt (Nat.add_le_add_left (by decide : 1 ≤ 64) _) hr.units) (pv 0) pe_str (fun _ _ => rfl)))
      (pss_cons (ps_asg (pe_op op_add (pv 2) pe_int) (pg_sub (pv 0) pe_str (set_dict (Nat.lt_of_le_of_lt (Nat.add_le_add_left (by decide : 1 ≤ 64) _) hr.units))))
      (pss_cons (ps_set (i := 3) sc_law_next.nd rfl (.inl rfl) (pe_ix (ixL K) (pe_dget (Nat.lt_of_le_of_lt (Nat.add_le_add_left (by decide : 1 ≤ 64) _) hr.units) (pv 0) pe_str (fun _ _ => rfl)) (pe_op op_mod (pv 2) (pe_callB (kLen K) (by rfl) m_len PySem.boot_len (pa_cons (pe_dget (Nat.lt_of_le_of_lt (Nat.add_le_add_left (by decide : 1 ≤ 64) _) hr.units) (pv 0) pe_str (fun _ _ => rfl)) pa_nil))) (fun _ _ => rfl)))
      (pss_one (ps_ret (pe_op op_mod (pe_callTy kInt1 (by rfl) m_int (by decide +kernel) (pa_cons (pe_op op_add (pv 3) (pe_op op_mul pe_int (pe_op op_fdiv (pv 2) (pe_callB (kLen K) (by rfl) m_len PySem.boot_len (pa_cons (pe_dget (Nat.lt_of_le_of_lt (Nat.add_le_add_left (by decide : 1 ≤ 64) _) hr.units) (pv 0) pe_str (fun _ _ => rfl)) pa_nil))))) pa_nil)) (pv 1))))))), ?_⟩, hmg, F.kp, F.binds fun _ _ _ _ _ _ us hl => match us, hl with | [_, _], _ => rfl, Wk.Fun.lk F⟩
  intro rs O Q h
  obtain ⟨bx, row, k, m, O', rfl, rfl, hr, h0, h1, hm, q⟩ := h
  have hp := hr.pos
  have hl := hr.len
  have hlm : (row.map PyData.int).length = row.length := List.length_map ..
  show StW K _ (Box bx row k :: O') [.ad bx, iV m, .non, .non] _
  refine s_seq (s_asg (w_dget (w_vA rfl ⟨bx, _, iV k, rfl, List.mem_cons_self, rfl, ?_⟩)))
  refine s_seq (s_setD ?_)
  repeat' walk_at "e"
  refine ⟨bx, _, iV k, O', _, rfl, .refl _, Nat.le_of_ble_eq_true rfl, rfl, .refl _, ?_⟩
  show StW K _ (Box bx row (k + 1) :: O') [.ad bx, iV m, iV k, .non] _
  refine s_seq (s_asg (w_op (w_dget (w_vA rfl ⟨bx, _, .dat (lI row), rfl, List.mem_cons_self, rfl, ?_⟩))))
  refine w_op (w_vD rfl (w_cb (w_cons (w_dget (w_vA rfl ⟨bx, _, .dat (lI row), rfl, List.mem_cons_self, rfl, ?_⟩)))))
  repeat' walk_at "e"
  refine s_ret (w_op (w_cb (w_cons (w_op ?_))))
  repeat' walk_at "e"
  refine w_dget (w_vA rfl ⟨bx, _, .dat (lI row), rfl, List.mem_cons_self, rfl, ?_⟩)
  repeat' walk_at "e"
  exact q _ (by assumption) (by assumption)
def pre_law_sums : Pre := fun rs O Q => ∃ (bx : Addr) (row : List Int) (k t : Int) (O' : Own), rs = [.ad bx, iV t] ∧ O = Box bx row k :: O' ∧ BoxOk row ∧ 0 ≤ k ∧ k < 900000000 ∧ 0 ≤ t ∧ t ≤ 100 ∧ ∀ (R : List Int) (k2 : Int), (∀ x ∈ R, 0 ≤ x) → R.sum = t → 1 ≤ R.length → R.length ≤ 3 → k ≤ k2 → k2 ≤ k + 10 → Q (.dat (tI R)) (Box bx row k2 :: O')
theorem len_law_sums (rs : List SD) (O : Own) (Q : SD → Own → Prop) (h : pre_law_sums rs O Q) : rs.length = 2 := by
  obtain ⟨bx, row, k, t, O', rfl, _⟩ := h
  rfl
theorem at_snocS {α : Type} (xs : List α) (x : α) : atI (xs ++ [x]) (-1) = some x := by
  unfold atI ixN
  have hl : (xs ++ [x]).length = xs.length + 1 := by rw [List.length_append]; rfl
  rw [if_neg (by decide), if_pos (by omega), hl]
  show (xs ++ [x])[(-1 + ((xs.length + 1 : Nat) : Int)).toNat]? = some x
  rw [show (-1 + ((xs.length + 1 : Nat) : Int)).toNat = xs.length by omega, List.getElem?_append_right (Nat.le_refl _), Nat.sub_self]
  rfl
abbrev s_law_sums : Stmt := topS 20
theorem sc_law_sums : FnScope ["box", "total", "row", "left", "k"] ["box", "total"] (defScope s_law_sums) := ⟨rfl, rfl, rfl, by decide +kernel, rfl, by decide +kernel, by decide +kernel⟩
set_option maxHeartbeats 4000000 in
theorem ok_law_sums  (D : Def K mg "_law_sums" s_law_sums) (C_law_next : Callee P w K mg base "_law_next" ["box", "modulus"] 1 pre_law_next) (m_range : mg "range" = none) (m_tuple : mg "tuple" = none) : Callee P w K mg base "_law_sums" ["box", "total"] 2 pre_law_sums := by
  obtain ⟨f, fd, F, hmg⟩ := D
  obtain ⟨f_law_next, fd_law_next, G_law_next, g_law_next, kp_law_next, b_law_next, _⟩ := C_law_next
  refine ⟨f, fd, fn_ok F sc_law_sums len_law_sums fun cdv A outer s H E hr => ⟨_, (pss_cons (ps_set (i := 2) sc_law_sums.nd rfl (.inl rfl) (pe_lst pa_nil))
      (pss_cons (ps_set (i := 3) sc_law_sums.nd rfl (.inl rfl) (pv 1))
      (pss_cons (ps_for PassesOwn.never rfl (pi_range1 (by rfl) m_range (pa_cons (pe_call G_law_next (hr.mono (by decide)) (by rfl) g_law_next kp_law_next b_law_next .nil pass0 (pa_cons (pv 0) (pa_cons pe_int pa_nil))) pa_nil)) (pg_name (i := 4) sc_law_sums.nd rfl (.inl rfl)) (pss_cons (psApp K (ps_expr (pe_bm PySem.F.plainAttrs_list PySem.F.slot_list_append PySem.F.type_list_append mt_append (pv 2) (pa_cons (pe_call G_law_next (hr.mono (by decide)) (by rfl) g_law_next kp_law_next b_law_next .nil pass0 (pa_cons (pv 0) (pa_cons (pe_op op_add (pv 3) pe_int) pa_nil))) pa_nil))))
      (pss_one (ps_set (i := 3) sc_law_sums.nd rfl (.inl rfl) (pe_op op_sub (pv 3) (pe_ix (ixL K) (pv 2) (pe_un un_neg pe_int) (fun _ _ => rfl)))))))
      (pss_cons (psApp K (ps_expr (pe_bm PySem.F.plainAttrs_list PySem.F.slot_list_append PySem.F.type_list_append mt_append (pv 2) (pa_cons (pv 3) pa_nil))))
      (pss_one (ps_ret (pe_callTy (kTupOf K) (by rfl) m_tuple (by decide +kernel) (pa_cons (pv 2) pa_nil)))))))), ?_⟩, hmg, F.kp, F.binds fun _ _ _ _ _ _ us hl => match us, hl with | [_, _], _ => rfl, Wk.Fun.lk F⟩
  intro rs O Q h
  obtain ⟨bx, row, k, t, O', rfl, rfl, hbox, hk0, hk1, ht0, ht1, q⟩ := h
  show StW K _ _ [.ad bx, iV t, .non, .non, .non] _
  refine s_seq (s_asg (w_lstO1 (w_nil ⟨sz_ok rfl, _, _, rfl, fun p => ?_⟩)))
  refine s_seq (s_asg ?_)
  repeat' walk_at "e"
  refine s_seq (s_for1 ?_)
  repeat' walk_at "e"
  rename_i n hn0 hn1
  refine ⟨by omega, by omega, fun i O2 ds2 => ∃ (R : List Int) (l k2 : Int) (x4 : SD), (∀ x ∈ R, 0 ≤ x) ∧ R.length = i ∧ 0 ≤ l ∧ l + R.sum = t ∧ k ≤ k2 ∧ k2 ≤ k + 1 + i ∧ O2 = Box bx row k2 :: (p, .lst (R.map fun z => iV z)) :: O' ∧ ds2 = [.ad bx, iV t, .ad p, iV l, x4], ⟨[], t, k + 1, _, fun _ h => absurd h List.not_mem_nil, rfl, ht0, Int.add_zero t, by omega, by omega, rfl, rfl⟩, fun i O2 ds2 hi hI B hB => ?_, fun O2 ds2 hI => ?_⟩
  · obtain ⟨R, l, k2, x4, hR, hRl, hl0, hls, hk2, hk3, rfl, rfl⟩ := hI
    refine s_seq (s_drop (w_bm ?_))
    repeat' walk_at "e"
    rename_i a ha0 ha1
    refine s_asg ?_
    repeat' walk_at "e"
    refine o_ixO (List.mem_cons_of_mem _ List.mem_cons_self) (at_snocS _ _) ?_
    repeat' walk_at "e"
    refine hB.nx _ _ ⟨R ++ [a], l - a, k2 + 1, _, fun x hx => ?_, by rw [List.length_append, hRl]; rfl, by omega, by rw [List.sum_append]; simp only [List.sum_cons, List.sum_nil]; omega, by omega, by omega, ?_, rfl⟩
    · rcases List.mem_append.mp hx with hx | hx
      · exact hR x hx
      · rw [List.mem_singleton.mp hx]
        exact ha0
    · rw [List.map_append]
      rfl
  obtain ⟨R, l, k2, x4, hR, hRl, hl0, hls, hk2, hk3, rfl, rfl⟩ := hI
  refine s_seq (s_drop (w_bm ?_))
  repeat' walk_at "e"
  refine s_ret (w_cv ?_)
  repeat' walk_at "e"
  have e : (R.map fun z => iV z) ++ [iV l] = (R ++ [l]).map fun z => iV z := by rw [List.map_append]; rfl
  rw [e]
  refine g_tup (es := (R ++ [l]).map PyData.int) (.o (List.mem_cons_of_mem _ List.mem_cons_self) (Dats.ints _)) ?_
  refine ⟨_, Cv.sub (.cons₂ _ (List.sublist_cons_self ..)), q (R ++ [l]) k2 (fun x hx => ?_) (by rw [List.sum_append]; simp only [List.sum_cons, List.sum_nil]; omega) (by rw [List.length_append]; exact Nat.le_add_left _ _) (by rw [List.length_append, hRl]; simp only [List.length_cons, List.length_nil]; omega) hk2 (by omega)⟩
  rcases List.mem_append.mp hx with hx | hx
  · exact hR x hx
  · rw [List.mem_singleton.mp hx]
    exact hl0
abbrev dP (p : List Int × Int) : PyData := .tuple [tI p.1, .int p.2]
def pre_shared_out : Pre := fun rs O Q => ∃ (t : Int) (room : List Int), (rs = [iV t, .dat (lI room)] ∨ rs = [iV t, .dat (tI room)]) ∧ 0 ≤ t ∧ t ≤ 1000 ∧ (∀ m ∈ room, -1000 ≤ m ∧ m ≤ 1000) ∧ room.length ≤ 100 ∧ (room.length + 1) ^ t.toNat ≤ 10000000 ∧ Q (.dat (lS (shO t room))) O
theorem len_shared_out (rs : List SD) (O : Own) (Q : SD → Own → Prop) (h : pre_shared_out rs O Q) : rs.length = 2 := by
  obtain ⟨t, room, h | h, _⟩ := h
  · rw [h]; rfl
  · rw [h]; rfl
theorem shF_ok {t : Int} (ht : 0 ≤ t) {room : List Int} {p : List Int × Int} (h : p ∈ shF t room) : p.1.length = room.length ∧ 0 ≤ p.2 ∧ p.2 ≤ t := by
  obtain ⟨q, hq, s, hs, h0, rfl⟩ := (mem_shFold (F := [([], t)]) fun p hp => by rw [List.mem_singleton.mp hp]; exact ht).mp h
  obtain rfl := List.mem_singleton.mp hq
  have := hs.nn
  refine ⟨hs.len, h0, ?_⟩
  show t - s.sum ≤ t
  omega
theorem shF_take {t : Int} {room : List Int} {i : Nat} {m : Int} (h : room[i]? = some m) : shF t (room.take (i + 1)) = shStep (shF t (room.take i)) m := by
  unfold shF
  rw [take_next h, List.foldl_append]
  rfl
theorem flat_take {α β : Type} (f : α → List β) (F : List α) (a : Nat) : ((F.take a).flatMap f).length ≤ (F.flatMap f).length := by
  conv => rhs; rw [← List.take_append_drop a F]
  rw [List.flatMap_append, List.length_append]
  exact Nat.le_add_right _ _
theorem rg_map {α : Type} {f : Nat → α} {n i : Nat} (h : i < n) : ((List.range n).map f)[i]? = some (f i) := by
  rw [List.getElem?_map, List.getElem?_range h]
  rfl
abbrev s_shared_out : Stmt := topS 7
theorem sc_shared_out : FnScope ["total", "room", "found", "most", "shares", "left", "share"] ["total", "room"] (defScope s_shared_out) := ⟨rfl, rfl, rfl, by decide +kernel, rfl, by decide +kernel, by decide +kernel⟩
set_option maxHeartbeats 4000000 in
theorem ok_shared_out  (D : Def K mg "_shared_out" s_shared_out) (m_min : mg "min" = none) (m_range : mg "range" = none) : Callee P w K mg base "_shared_out" ["total", "room"] 1 pre_shared_out := by
  obtain ⟨f, fd, F, hmg⟩ := D
  refine ⟨f, fd, fn_ok F sc_shared_out len_shared_out fun cdv A outer s H E hr => ⟨_, (pss_cons (ps_set (i := 2) sc_shared_out.nd rfl (.inl rfl) (pe_lst (pa_cons (pe_tup (pa_cons (pe_tup pa_nil) (pa_cons (pv 0) pa_nil))) pa_nil)))
      (pss_cons (ps_for PassesOwn.never rfl (pi_seq K (pv 1)) (pg_name (i := 3) sc_shared_out.nd rfl (.inr rfl)) (pss_one (ps_setLc2 (i := 2) (own := [("shares", 4), ("left", 5), ("share", 6)]) (vs1 := [6]) (g := gTup K 2 (gCons (gName 4) (gCons (gName 5) gNil))) (g1 := gName 6) rfl sc_shared_out.nd rfl rfl (sw_true rfl rfl rfl (by decide +kernel)) (piL K (pv 2)) (blkOk_by (own := [("shares", 4), ("left", 5), ("share", 6)]) (N := ["total", "room", "found", "most", "shares", "left", "share"]) (by first | (show blkC _ (defScope s_shared_out) _ _ = true; decide +kernel) | kernel_rfl | rfl)) (by decide) (fun _ _ _ _ _ => pgTup (n := 2) K rfl (pgs_cons (pg_name (i := 4) sc_shared_out.nd rfl (by first | exact Or.inl rfl | exact Or.inr rfl)) (pgs_cons (pg_name (i := 5) sc_shared_out.nd rfl (by first | exact Or.inl rfl | exact Or.inr rfl)) pgs_nil))) (fun _ _ _ _ _ => pts_nil) (fun _ _ _ _ _ => (pi_range1 (by rfl) m_range (pa_cons (pe_op op_add (pe_callB (kMin2 rfl) (by rfl) m_min (by decide +kernel) (pa_cons (pv 5) (pa_cons (pv 3) pa_nil))) pe_int) pa_nil))) (fun _ _ _ _ _ => pg_name (i := 6) sc_shared_out.nd rfl (by first | exact Or.inl rfl | exact Or.inr rfl)) (fun _ _ _ _ _ => pts_nil) (fun _ _ _ _ _ => (pe_tup (pa_cons (pe_tup (paStar K (pv 4) (pa_cons (pv 6) pa_nil))) (pa_cons (pe_op op_sub (pv 5) (pv 6)) pa_nil)))))))
      (pss_one (ps_ret (pe_lc (own := [("shares", 4), ("left", 5)]) (g := gTup K 2 (gCons (gName 4) (gCons (gName 5) gNil))) rfl sc_shared_out.nd (piL K (pv 2)) (blkOk_by (own := [("shares", 4), ("left", 5)]) (N := ["total", "room", "found", "most", "shares", "left", "share"]) (by first | (show blkC _ (defScope s_shared_out) _ _ = true; decide +kernel) | kernel_rfl | rfl)) (fun _ _ _ _ _ => pgTup (n := 2) K rfl (pgs_cons (pg_name (i := 4) sc_shared_out.nd rfl (by first | exact Or.inl rfl | exact Or.inr rfl)) (pgs_cons (pg_name (i := 5) sc_shared_out.nd rfl (by first | exact Or.inl rfl | exact Or.inr rfl)) pgs_nil))) (fun _ _ _ _ _ => (pts_one (pt_cmpR op_eq (pv 5) pe_int (nomark _)))) (fun _ _ _ _ _ => (pv 4))))))), ?_⟩, hmg, F.kp, F.binds fun _ _ _ _ _ _ us hl => match us, hl with | [_, _], _ => rfl, Wk.Fun.lk F⟩
  intro rs O Q h
  obtain ⟨t, room, hrs, ht0, ht1, hr, hl, hpw, q⟩ := h
  obtain ⟨R, hR, hR2⟩ : ∃ R : SD, rs = [iV t, R] ∧ (R = .dat (lI room) ∨ R = .dat (tI room)) := by
    rcases hrs with h | h
    · exact ⟨_, h, .inl rfl⟩
    · exact ⟨_, h, .inr rfl⟩
  subst hR
  have hz : ∀ i, (shF t (room.take i)).length ≤ 10000000 := fun i => Nat.le_trans (len_shF ht0 room i) hpw
  show StW K _ O [iV t, R, .non, .non, .non, .non, .non] _
  refine s_seq (s_asg ?_)
  repeat' walk_at "e"
  refine s_seq (s_forW (it_seq (w_var (r := R) rfl (by rcases hR2 with h | h <;> (rw [h]; exact fun z => nomatch z)) ?_)))
  refine ⟨room.map PyData.int, hR2, fun i O2 ds2 => ∃ x3 : SD, O2 = O ∧ ds2 = [iV t, R, .dat (.list ((shF t (room.take i)).map dP)), x3, .non, .non, .non], ⟨_, rfl, rfl⟩, fun i d O2 ds2 hd hI B hB => ?_, fun O2 ds2 hI => ?_⟩
  · obtain ⟨x3, rfl, rfl⟩ := hI
    obtain ⟨m, hm, rfl⟩ := map_get hd
    have hmb := hr m (List.mem_of_getElem? hm)
    have hi := (List.getElem?_eq_some_iff.mp hm).1
    have hzi := hz (i + 1)
    have e1 := shF_take (t := t) hm
    have hF : ∀ p ∈ shF t (room.take i), p.1.length ≤ 100 ∧ 0 ≤ p.2 ∧ p.2 ≤ 1000 := fun p hp => by
      obtain ⟨h1, h2, h3⟩ := shF_ok ht0 hp
      rw [List.length_take] at h1
      omega
    rw [e1] at hzi
    refine s_asg (w_frz (w_lcc (it_lst ?_)))
    repeat' walk_at "e"
    generalize shF t (room.take i) = F at *
    refine ⟨fun a acc O3 => acc = ((shStep (F.take a) m).map fun p => SD.dat (dP p)) ∧ O3 = O2, ⟨rfl, rfl⟩, fun a dd acc O3 hd hJ => ?_, fun acc O3 Dl hJ => ?_⟩
    · obtain ⟨rfl, rfl⟩ := hJ
      obtain ⟨p, hp, rfl⟩ := map_get hd
      obtain ⟨p1, p2, p3⟩ := hF p (List.mem_of_getElem? hp)
      have estep : shStep (F.take (a + 1)) m = shStep (F.take a) m ++ (List.range (min p.2 m + 1).toNat).map fun (s : Nat) => (p.1 ++ [(s : Int)], p.2 - (s : Int)) := by
        unfold shStep
        rw [take_next hp, List.flatMap_append, List.flatMap_singleton]
      have hlen : (shStep (F.take (a + 1)) m).length ≤ 10000000 := Nat.le_trans (flat_take _ _ _) hzi
      refine ⟨_, tg_tup2 (by decide) (by decide), fun Dl => it_rng1 ?_⟩
      repeat' walk_at "e"
      refine ⟨by omega, by omega, O3, .refl _, fun j acc O5 => acc = ((shStep (F.take a) m ++ ((List.range (min p.2 m + 1).toNat).map fun (s : Nat) => (p.1 ++ [(s : Int)], p.2 - (s : Int))).take j).map fun p => SD.dat (dP p)) ∧ O5 = O3, ⟨by rw [List.take_zero, List.append_nil], rfl⟩, fun j acc O5 hJ => ?_, fun j d1 acc O5 hd1 hJ => ?_, fun acc O5 hJ => ?_⟩
      · obtain ⟨rfl, rfl⟩ := hJ
        rw [List.length_map]
        rw [estep] at hlen
        refine Nat.lt_of_le_of_lt (Nat.le_trans (List.Sublist.length_le ((List.take_sublist _ _).append_left _)) hlen) (by decide)
      · obtain ⟨rfl, rfl⟩ := hJ
        obtain ⟨hj, rfl⟩ := rg_get hd1
        refine ⟨_, tg_name (by decide), fun Dl1 => t_yes ⟨fun _ => ?_, fun z => nomatch z⟩⟩
        refine w_tup (w_cons (w_tup (w_star ?_)))
        repeat' walk_at "e"
        refine ⟨(p.1 ++ [(j : Int)]).map PyData.int, ?_, ?_, ?_⟩
        · have := Dats.map ((p.1 ++ [(j : Int)]).map PyData.int)
          simpa [List.map_append] using this
        · rw [List.length_map, List.length_append]
          exact Nat.le_trans (show _ ≤ 200 by simp only [List.length_cons, List.length_nil]; omega) (by decide)
        repeat' walk_at "e"
        refine ⟨O5, .refl _, ?_, rfl⟩
        rw [take_next (rg_map hj), ← List.append_assoc, Int.zero_add]
        refine Eq.trans ?_ (List.map_append ..).symm
        rfl
      · obtain ⟨rfl, rfl⟩ := hJ
        refine ⟨?_, rfl⟩
        rw [estep, List.length_map, List.length_range]
        congr 2
        exact List.take_of_length_le (by rw [List.length_map, List.length_range]; exact Nat.le_refl _)
    · obtain ⟨rfl, rfl⟩ := hJ
      rw [List.length_map, List.take_length]
      refine ⟨Dl, _, (shStep F m).map dP, _, rfl, .refl _, ?_, ?_⟩
      · have := Dats.map ((shStep F m).map dP)
        rw [List.map_map] at this
        exact this
      refine hB.nx _ _ ⟨.dat (.int m), rfl, ?_⟩
      rw [e1]
      rfl
  obtain ⟨x3, rfl, rfl⟩ := hI
  rw [List.length_map, List.take_length]
  have hzl := hz room.length
  rw [List.take_length] at hzl
  have hqe : shO t room = ((shF t room).filter fun p => decide (p.2 = 0)).map (·.1) := rfl
  generalize shF t room = F at *
  refine s_ret (w_frz (w_lcI (it_lst ?_)))
  repeat' walk_at "e"
  refine ⟨fun i acc O3 => acc = ((F.take i).filter fun p => decide (p.2 = 0)).map (fun p => SD.dat (tI p.1)) ∧ O3 = O2, ⟨rfl, rfl⟩, fun i acc O3 hJ => ?_, fun i d acc O3 hd hJ => ?_, fun acc O3 Dl hJ => ?_⟩
  · obtain ⟨rfl, rfl⟩ := hJ
    rw [List.length_map]
    refine Nat.lt_of_le_of_lt (Nat.le_trans (List.length_filter_le _ _) (Nat.le_trans (List.take_sublist _ _).length_le hzl)) (by decide)
  · obtain ⟨rfl, rfl⟩ := hJ
    obtain ⟨p, hp, rfl⟩ := map_get hd
    refine ⟨_, tg_tup2 (by decide) (by decide), fun Dl => ?_⟩
    repeat' walk_at "e"
    · rename_i hd0
      have hd0 : p.2 = 0 := by simpa using hd0
      refine ⟨O3, .refl _, ?_, rfl⟩
      rw [take_next hp, List.filter_append, List.map_append, List.filter_cons, decide_eq_true hd0, if_pos rfl]
      rfl
    · rename_i hd0
      have hd0 : ¬ p.2 = 0 := by simpa using hd0
      refine ⟨O3, .refl _, ?_, rfl⟩
      rw [take_next hp, List.filter_append, List.filter_cons, decide_eq_false hd0, if_neg Bool.false_ne_true, List.filter_nil, List.append_nil]
  obtain ⟨rfl, rfl⟩ := hJ
  rw [List.length_map, List.take_length]
  refine ⟨Dl, _, ((F.filter fun p => decide (p.2 = 0)).map (·.1)).map fun c => tI c, _, rfl, .refl _, ?_, ?_⟩
  · have := Dats.map (((F.filter fun p => decide (p.2 = 0)).map (·.1)).map fun c => tI c)
    rw [List.map_map, List.map_map] at this
    exact this
  rw [hqe] at q
  exact q
abbrev dB (p : List (List Int) × List Int) : PyData := .tuple [tS p.1, tI p.2]
def brO (rows cols : List Int) : List (List (List Int)) := if rows.sum = cols.sum then srtT ((brF rows cols).map (·.1)) else []
def pre_boards_of : Pre := fun rs O Q => ∃ (rows cols : List Int), rs = [.dat (tI rows), .dat (tI cols)] ∧ rows.length ≤ 20 ∧ cols.length ≤ 20 ∧ (∀ x ∈ rows, 0 ≤ x ∧ x ≤ 100) ∧ (∀ x ∈ cols, 0 ≤ x ∧ x ≤ 100) ∧ (cols.length + 1) ^ rows.sum.toNat ≤ 10000000 ∧ Q (.dat (lF (brO rows cols))) O
theorem len_boards_of (rs : List SD) (O : Own) (Q : SD → Own → Prop) (h : pre_boards_of rs O Q) : rs.length = 2 := by
  obtain ⟨rows, cols, rfl, _⟩ := h
  rfl
def zsub (a b : List Int) : List Int := List.zipWith (fun x y => x - y) a b
theorem zsub_ok : ∀ {a l : List Int}, Bnd a l → (∀ x ∈ l, x ≤ 100) → (zsub l a).length = l.length ∧ ∀ x ∈ zsub l a, 0 ≤ x ∧ x ≤ 100
  | [], [], _, _ => ⟨rfl, fun _ h => absurd h List.not_mem_nil⟩
  | x :: a, y :: l, h, hl => by
    obtain ⟨h1, h2⟩ := zsub_ok h.2 fun z hz => hl z (List.mem_cons_of_mem _ hz)
    have h3 := hl y List.mem_cons_self
    have h4 := h.1
    refine ⟨?_, fun z hz => ?_⟩
    · show (zsub l a).length + 1 = l.length + 1
      rw [h1]
    · rcases List.mem_cons.mp (show z ∈ (y - x) :: zsub l a from hz) with rfl | hz
      · omega
      · exact h2 z hz
  | [], _ :: _, h, _ => h.elim
  | _ :: _, [], h, _ => h.elim
structure BrOk (n k : Nat) (p : List (List Int) × List Int) : Prop where
  len : p.2.length = n
  num : p.1.length = k
  ent : ∀ x ∈ p.2, 0 ≤ x ∧ x ≤ 100
  row : ∀ r ∈ p.1, r.length = n
theorem br_step {n k : Nat} {F : List (List (List Int) × List Int)} {t : Int} (ht : 0 ≤ t) (h : ∀ p ∈ F, BrOk n k p) : ∀ p ∈ brStep F t, BrOk n (k + 1) p := fun p hp => by
  unfold brStep at hp
  obtain ⟨p', hp', h2⟩ := List.mem_flatMap.mp hp
  obtain ⟨a, ha, rfl⟩ := List.mem_map.mp h2
  obtain ⟨hb, _⟩ := (mem_shO ht).mp ha
  have h3 := h p' hp'
  obtain ⟨z1, z2⟩ := zsub_ok hb fun x hx => (h3.ent x hx).2
  refine ⟨z1.trans h3.len, ?_, z2, fun r hr => ?_⟩
  · show (p'.1 ++ [a]).length = k + 1
    rw [List.length_append, h3.num]
    rfl
  · rcases List.mem_append.mp (show r ∈ p'.1 ++ [a] from hr) with hr | hr
    · exact h3.row r hr
    · rw [List.mem_singleton.mp hr, hb.len, h3.len]
theorem br_take {rows cols : List Int} {i : Nat} {t : Int} (h : rows[i]? = some t) : brF (rows.take (i + 1)) cols = brStep (brF (rows.take i) cols) t := by
  unfold brF
  rw [take_next h, List.foldl_append]
  rfl
theorem br_all {rows cols : List Int} (hr : ∀ x ∈ rows, 0 ≤ x) (hc : ∀ x ∈ cols, 0 ≤ x ∧ x ≤ 100) : ∀ i, i ≤ rows.length → (∀ p ∈ brF (rows.take i) cols, BrOk cols.length i p) ∧ (brF (rows.take i) cols).length ≤ cols.length ^ ((rows.take i).map Int.toNat).sum
  | 0, _ => ⟨fun p hp => by
    rw [List.mem_singleton.mp (show p ∈ [([], cols)] from hp)]
    exact ⟨rfl, rfl, hc, fun _ h => absurd h List.not_mem_nil⟩, Nat.le_refl 1⟩
  | i + 1, hi => by
    obtain ⟨h1, h2⟩ := br_all hr hc i (by omega)
    have ht : rows[i]? = some rows[i] := List.getElem?_eq_getElem hi
    have ht0 := hr _ (List.getElem_mem hi)
    rw [br_take ht]
    refine ⟨br_step ht0 h1, ?_⟩
    have h3 : (brStep (brF (rows.take i) cols) rows[i]).length ≤ (brF (rows.take i) cols).length * cols.length ^ (rows[i]).toNat := len_flat fun p hp => by
      rw [List.length_map]
      have := len_shO ht0 p.2
      rwa [(h1 p hp).len] at this
    refine Nat.le_trans h3 (Nat.le_trans (Nat.mul_le_mul_right _ h2) ?_)
    rw [← Nat.pow_add, take_next ht, List.map_append, List.sum_append, List.map_singleton, List.sum_singleton]
    exact Nat.le_refl _
abbrev s_boards_of : Stmt := topS 8
theorem sc_boards_of : FnScope ["rows", "columns", "found", "total", "board", "left", "amounts", "most", "amount"] ["rows", "columns"] (defScope s_boards_of) := ⟨rfl, rfl, rfl, by decide +kernel, rfl, by decide +kernel, by decide +kernel⟩
set_option maxHeartbeats 4000000 in
theorem ok_boards_of  (D : Def K mg "boards_of" s_boards_of) (C_shared_out : Callee P w K mg base "_shared_out" ["total", "room"] 1 pre_shared_out) (m_sorted : mg "sorted" = none) (m_sum : mg "sum" = none) (m_tuple : mg "tuple" = none) (m_zip : mg "zip" = none) : Callee P w K mg base "boards_of" ["rows", "columns"] 2 pre_boards_of := by
  obtain ⟨f, fd, F, hmg⟩ := D
  obtain ⟨f_shared_out, fd_shared_out, G_shared_out, g_shared_out, kp_shared_out, b_shared_out, _⟩ := C_shared_out
  refine ⟨f, fd, fn_ok F sc_boards_of len_boards_of fun cdv A outer s H E hr => ⟨_, (pss_cons (ps_if (pt_cmpR op_ne (pe_callB (kSumT K rfl) (by rfl) m_sum (by decide +kernel) (pa_cons (pv 0) pa_nil)) (pe_callB (kSumT K rfl) (by rfl) m_sum (by decide +kernel) (pa_cons (pv 1) pa_nil)) (nomark _)) (pss_one (ps_ret (pe_lst pa_nil))) pss_nil)
      (pss_cons (ps_set (i := 2) sc_boards_of.nd rfl (.inl rfl) (pe_lst (pa_cons (pe_tup (pa_cons (pe_tup pa_nil) (pa_cons (pv 1) pa_nil))) pa_nil)))
      (pss_cons (ps_for PassesOwn.never rfl (piT K (pv 0)) (pg_name (i := 3) sc_boards_of.nd rfl (.inr rfl)) (pss_one (ps_setLc2 (i := 2) (own := [("board", 4), ("left", 5), ("amounts", 6)]) (vs1 := [6]) (g := gTup K 2 (gCons (gName 4) (gCons (gName 5) gNil))) (g1 := gName 6) rfl sc_boards_of.nd rfl rfl (sw_true rfl rfl rfl (by decide +kernel)) (piL K (pv 2)) (blkOk_by (own := [("board", 4), ("left", 5), ("amounts", 6)]) (N := ["rows", "columns", "found", "total", "board", "left", "amounts", "most", "amount"]) (by first | (show blkC _ (defScope s_boards_of) _ _ = true; decide +kernel) | kernel_rfl | rfl)) (by decide) (fun _ _ _ _ _ => pgTup (n := 2) K rfl (pgs_cons (pg_name (i := 4) sc_boards_of.nd rfl (by first | exact Or.inl rfl | exact Or.inr rfl)) (pgs_cons (pg_name (i := 5) sc_boards_of.nd rfl (by first | exact Or.inl rfl | exact Or.inr rfl)) pgs_nil))) (fun _ _ _ _ _ => pts_nil) (fun _ _ _ _ _ => (piL K (pe_call G_shared_out (hr.mono (by decide)) (by rfl) g_shared_out kp_shared_out b_shared_out .nil pass0 (pa_cons (pv 3) (pa_cons (pv 5) pa_nil))))) (fun _ _ _ _ _ => pg_name (i := 6) sc_boards_of.nd rfl (by first | exact Or.inl rfl | exact Or.inr rfl)) (fun _ _ _ _ _ => pts_nil) (fun _ _ _ _ _ => (pe_tup (pa_cons (pe_tup (paStar K (pv 4) (pa_cons (pv 6) pa_nil))) (pa_cons (pe_callTy (kTupOf K) (by rfl) m_tuple (by decide +kernel) (pa_cons (pe_lc (own := [("most", 7), ("amount", 8)]) (g := gTup K 2 (gCons (gName 7) (gCons (gName 8) gNil))) rfl sc_boards_of.nd (pi_zipT K (by rfl) m_zip (pa_cons (pv 5) (pa_cons (pv 6) pa_nil))) (blkOk_by (own := [("most", 7), ("amount", 8)]) (N := ["rows", "columns", "found", "total", "board", "left", "amounts", "most", "amount"]) (by first | (show blkC _ (defScope s_boards_of) _ _ = true; decide +kernel) | kernel_rfl | rfl)) (fun _ _ _ _ _ => pgTup (n := 2) K rfl (pgs_cons (pg_name (i := 7) sc_boards_of.nd rfl (by first | exact Or.inl rfl | exact Or.inr rfl)) (pgs_cons (pg_name (i := 8) sc_boards_of.nd rfl (by first | exact Or.inl rfl | exact Or.inr rfl)) pgs_nil))) (fun _ _ _ _ _ => pts_nil) (fun _ _ _ _ _ => (pe_op op_sub (pv 7) (pv 8)))) pa_nil)) pa_nil)))))))
      (pss_one (ps_ret (pe_callB (kSortD (K := K) hr.units) (by rfl) m_sorted (by decide +kernel) (pa_cons (pe_lc (own := [("board", 4), ("left", 5)]) (g := gTup K 2 (gCons (gName 4) (gCons (gName 5) gNil))) rfl sc_boards_of.nd (piL K (pv 2)) (blkOk_by (own := [("board", 4), ("left", 5)]) (N := ["rows", "columns", "found", "total", "board", "left", "amounts", "most", "amount"]) (by first | (show blkC _ (defScope s_boards_of) _ _ = true; decide +kernel) | kernel_rfl | rfl)) (fun _ _ _ _ _ => pgTup (n := 2) K rfl (pgs_cons (pg_name (i := 4) sc_boards_of.nd rfl (by first | exact Or.inl rfl | exact Or.inr rfl)) (pgs_cons (pg_name (i := 5) sc_boards_of.nd rfl (by first | exact Or.inl rfl | exact Or.inr rfl)) pgs_nil))) (fun _ _ _ _ _ => pts_nil) (fun _ _ _ _ _ => (pv 4))) pa_nil))))))), ?_⟩, hmg, F.kp, F.binds fun _ _ _ _ _ _ us hl => match us, hl with | [_, _], _ => rfl, Wk.Fun.lk F⟩
  intro rs O Q h
  obtain ⟨rows, cols, rfl, hrl, hcl, hr, hc, hpw, q⟩ := h
  show StW K _ O [.dat (tI rows), .dat (tI cols), .non, .non, .non, .non, .non, .non, .non] _
  refine s_seq (s_if ?_)
  repeat' walk_at "e"
  · rename_i hne
    repeat' walk_at "w"
    repeat' walk_at "e"
    have e : brO rows cols = [] := if_neg hne
    rw [e] at q
    exact q
  rename_i heq
  have eq : brO rows cols = srtT ((brF rows cols).map (·.1)) := if_pos heq
  rw [eq] at q
  clear eq
  with_reducible refine s_next ?_
  have hall := br_all (fun x hx => (hr x hx).1) hc
  have hcs : ∀ i, ((rows.take i).map Int.toNat).sum ≤ rows.sum.toNat := fun i => by
    rw [← (sumN_sum fun x hx => (hr x hx).1).1]
    conv => rhs; rw [← List.take_append_drop i rows]
    rw [List.map_append, List.sum_append]
    exact Nat.le_add_right _ _
  have hlen : ∀ i, i ≤ rows.length → (brF (rows.take i) cols).length ≤ 10000000 := fun i hi => by
    refine Nat.le_trans (hall i hi).2 (Nat.le_trans (Nat.pow_le_pow_left (Nat.le_succ _) _) (Nat.le_trans (Nat.pow_le_pow_right (Nat.succ_pos _) (hcs i)) hpw))
  refine s_seq (s_asg ?_)
  repeat' walk_at "e"
  refine s_seq (s_forT ?_)
  repeat' walk_at "e"
  refine ⟨fun i O2 ds2 => ∃ x3 : SD, O2 = O ∧ ds2 = [.dat (tI rows), .dat (tI cols), .dat (.list ((brF (rows.take i) cols).map dB)), x3, .non, .non, .non, .non, .non], ⟨_, rfl, rfl⟩, fun i d O2 ds2 hd hI B hB => ?_, fun O2 ds2 hI => ?_⟩
  · obtain ⟨x3, rfl, rfl⟩ := hI
    obtain ⟨t, ht, rfl⟩ := map_get hd
    obtain ⟨hi, _⟩ := List.getElem?_eq_some_iff.mp ht
    have htb := hr t (List.mem_of_getElem? ht)
    have hok := (hall i (by omega)).1
    have hlen1 := hlen (i + 1) (by omega)
    have e1 := br_take (cols := cols) ht
    rw [e1] at hlen1
    have htpw : (cols.length + 1) ^ t.toNat ≤ 10000000 := by
      refine Nat.le_trans (Nat.pow_le_pow_right (Nat.succ_pos _) ?_) hpw
      have h1 := hcs (i + 1)
      rw [take_next ht, List.map_append, List.sum_append, List.map_singleton, List.sum_singleton] at h1
      omega
    refine s_asg (w_frz (w_lcc (it_lst ?_)))
    repeat' walk_at "e"
    generalize brF (rows.take i) cols = F at *
    refine ⟨fun a acc O3 => acc = ((brStep (F.take a) t).map fun p => SD.dat (dB p)) ∧ O3 = O2, ⟨rfl, rfl⟩, fun a dd acc O3 hd hJ => ?_, fun acc O3 Dl hJ => ?_⟩
    · obtain ⟨rfl, rfl⟩ := hJ
      obtain ⟨p, hp, rfl⟩ := map_get hd
      have hpo := hok p (List.mem_of_getElem? hp)
      have hpl := hpo.len
      have hpn := hpo.num
      have hil : i < rows.length := hi
      have estep : brStep (F.take (a + 1)) t = brStep (F.take a) t ++ (shO t p.2).map fun a => (p.1 ++ [a], zsub p.2 a) := by
        unfold brStep
        rw [take_next hp, List.flatMap_append, List.flatMap_singleton]
        rfl
      have hlen2 : (brStep (F.take (a + 1)) t).length ≤ 10000000 := Nat.le_trans (flat_take _ _ _) hlen1
      have hmem := fun s h => (mem_shO (t := t) (room := p.2) (s := s) htb.1).mp h
      refine ⟨_, tg_tup2 (by decide) (by decide), fun Dl => it_lst ?_⟩
      repeat' walk_at "e"
      refine ⟨t, p.2, .inr rfl, htb.1, by omega, fun m hm => by have := hpo.ent m hm; omega, by omega, by rw [hpl]; exact htpw, ?_⟩
      generalize shO t p.2 = S at *
      refine ⟨_, rfl, O3, .refl _, fun j acc O5 => acc = (brStep (F.take a) t ++ ((S.map fun a => (p.1 ++ [a], zsub p.2 a)).take j)).map (fun p => SD.dat (dB p)) ∧ O5 = O3, ⟨by rw [List.take_zero, List.append_nil], rfl⟩, fun j acc O5 hJ => ?_, fun j d1 acc O5 hd1 hJ => ?_, fun acc O5 hJ => ?_⟩
      · obtain ⟨rfl, rfl⟩ := hJ
        rw [List.length_map]
        rw [estep] at hlen2
        exact Nat.lt_of_le_of_lt (Nat.le_trans (List.Sublist.length_le ((List.take_sublist _ _).append_left _)) hlen2) (by decide)
      · obtain ⟨rfl, rfl⟩ := hJ
        obtain ⟨s, hs, rfl⟩ := map_get hd1
        obtain ⟨hb, _⟩ := hmem s (List.mem_of_getElem? hs)
        have hsl := hb.len
        refine ⟨_, tg_name (by decide), fun Dl1 => t_yes ⟨fun _ => ?_, fun z => nomatch z⟩⟩
        refine w_tup (w_cons (w_tup (w_star ?_)))
        repeat' walk_at "e"
        refine ⟨(p.1 ++ [s]).map fun c => tI c, ?_, ?_, ?_⟩
        · have := Dats.map ((p.1 ++ [s]).map fun c => tI c)
          simpa [List.map_append] using this
        · rw [List.length_map, List.length_append]
          exact Nat.le_trans (show _ ≤ 200 by simp only [List.length_cons, List.length_nil]; omega) (by decide)
        repeat' walk_at "e"
        refine w_frz (w_lcZT (by decide) ?_)
        repeat' walk_at "e"
        refine ⟨_, _, rfl, by rw [List.length_map]; omega, fun u acc O6 => acc = ((zsub p.2 s).take u).map (fun z => iV z) ∧ O6 = (Dl1, OD.lst ((brStep (F.take a) t ++ ((S.map fun a => (p.1 ++ [a], zsub p.2 a)).take j)).map fun p => SD.dat (dB p))) :: O5, ⟨rfl, rfl⟩, fun u d e acc O6 hd2 he2 hl2 hJ => ?_, fun acc O6 Dl2 hJ => ?_⟩
        · obtain ⟨rfl, rfl⟩ := hJ
          intro Dl2
          obtain ⟨y, hy, rfl⟩ := map_get hd2
          obtain ⟨z, hz, rfl⟩ := map_get he2
          refine t_yes ⟨fun _ => ?_, fun z => nomatch z⟩
          repeat' walk_at "e"
          refine ⟨_, .refl _, ?_, rfl⟩
          have e : (zsub p.2 s)[u]? = some (y - z) := by
            unfold zsub
            rw [List.getElem?_zipWith, hy, hz]
          rw [take_next e, List.map_append]
          rfl
        obtain ⟨rfl, rfl⟩ := hJ
        rw [List.length_map, List.length_map, hsl, Nat.min_self, List.take_of_length_le (by unfold zsub; rw [List.length_zipWith]; omega)]
        refine ⟨Dl2, _, _, _, rfl, .refl _, Dats.ints _, ?_⟩
        repeat' walk_at "e"
        have e2 : (S.map fun a => (p.1 ++ [a], zsub p.2 a))[j]? = some (p.1 ++ [s], zsub p.2 s) := by rw [List.getElem?_map, hs]; rfl
        refine ⟨O5, .refl _, ?_, rfl⟩
        rw [take_next e2, ← List.append_assoc]
        refine Eq.trans ?_ (List.map_append ..).symm
        rfl
      · obtain ⟨rfl, rfl⟩ := hJ
        refine ⟨?_, rfl⟩
        rw [estep, List.length_map]
        congr 2
        exact List.take_of_length_le (by rw [List.length_map]; exact Nat.le_refl _)
    · obtain ⟨rfl, rfl⟩ := hJ
      rw [List.length_map, List.take_length]
      refine ⟨Dl, _, (brStep F t).map dB, _, rfl, .refl _, ?_, ?_⟩
      · have := Dats.map ((brStep F t).map dB)
        rw [List.map_map] at this
        exact this
      refine hB.nx _ _ ⟨.dat (.int t), rfl, ?_⟩
      rw [e1]
      rfl
  obtain ⟨x3, rfl, rfl⟩ := hI
  rw [List.length_map, List.take_length]
  have hl2 := hlen rows.length (Nat.le_refl _)
  have hok2 := (hall rows.length (Nat.le_refl _)).1
  have hn2 := (hall rows.length (Nat.le_refl _)).2
  rw [List.take_length] at hl2 hok2 hn2
  generalize brF rows cols = F at *
  refine s_ret (w_cb (w_cons (w_frz (w_lcI (it_lst ?_)))))
  repeat' walk_at "e"
  refine ⟨fun i acc O3 => acc = (F.take i).map (fun p => SD.dat (tS p.1)) ∧ O3 = O2, ⟨rfl, rfl⟩, fun i acc O3 hJ => ?_, fun i d acc O3 hd hJ => ?_, fun acc O3 Dl hJ => ?_⟩
  · obtain ⟨rfl, rfl⟩ := hJ
    rw [List.length_map]
    exact Nat.lt_of_le_of_lt (Nat.le_trans (List.take_sublist _ _).length_le hl2) (by decide)
  · obtain ⟨rfl, rfl⟩ := hJ
    obtain ⟨p, hp, rfl⟩ := map_get hd
    refine ⟨_, tg_tup2 (by decide) (by decide), fun Dl => t_yes ⟨fun _ => ?_, fun z => nomatch z⟩⟩
    repeat' walk_at "e"
    refine ⟨O3, .refl _, ?_, rfl⟩
    rw [take_next hp, List.map_append]
    rfl
  obtain ⟨rfl, rfl⟩ := hJ
  rw [List.length_map, List.take_length]
  refine ⟨Dl, _, (F.map (·.1)).map fun X => tS X, _, rfl, .refl _, ?_, ?_⟩
  · have := Dats.map ((F.map (·.1)).map fun X => tS X)
    rw [List.map_map, List.map_map] at this
    exact this
  repeat' walk_at "e"
  refine g_sortD .d (tS_all _) ?_ (fun e he => ?_) ?_
  · by_cases z : rows.length = 0
    · refine .inr ?_
      rw [List.length_map, List.length_map]
      have h0 : rows = [] := List.length_eq_zero_iff.mp z
      rw [h0] at hn2
      exact hn2
    · refine .inl (.inl fun d hd => ?_)
      obtain ⟨X, hX, rfl⟩ := List.mem_map.mp hd
      obtain ⟨p, hp, rfl⟩ := List.mem_map.mp hX
      have h1 := (hok2 p hp).num
      match hp1 : p.1, h1 with
      | [], h1 => exact absurd h1.symm z
      | r :: T, _ => exact ⟨tI r, T.map fun c => tI c, rfl⟩
  · obtain ⟨X, _, rfl⟩ := List.mem_map.mp he
    have := dep_tS X
    show PyData.depth (.tuple (X.map fun c => tI c)) ≤ 60
    rw [PyData.depth]
    omega
  rw [srtT_dat]
  exact q
theorem flat_cong {α β : Type} {l : List α} {f g : α → List β} (h : ∀ a ∈ l, f a = g a) : l.flatMap f = l.flatMap g := by
  rw [List.flatMap_def, List.flatMap_def, List.map_congr_left h]
theorem shpM_s (f : Nat) (t m : Int) : shpM (f + 1) t m = if t = 0 then [[]] else (List.range (min t m).toNat).flatMap fun (a : Nat) => (shpM f (t - ((a : Int) + 1)) ((a : Int) + 1)).map fun r => ((a : Int) + 1) :: r := rfl
theorem shpM_fuel : ∀ (f g : Nat) {t m : Int}, 0 ≤ t → t ≤ (f : Int) → t ≤ (g : Int) → shpM f t m = shpM g t m
  | 0, g, t, m, h0, hf, hg => by
    obtain rfl : t = 0 := by omega
    cases g with
    | zero => rfl
    | succ g => exact (if_pos rfl).symm
  | f + 1, 0, t, m, h0, hf, hg => by
    obtain rfl : t = 0 := by omega
    exact if_pos rfl
  | f + 1, g + 1, t, m, h0, hf, hg => by
    rw [shpM_s, shpM_s]
    split
    · rfl
    · refine flat_cong fun a ha => ?_
      have := List.mem_range.mp ha
      rw [shpM_fuel f g (by omega) (by omega) (by omega)]
theorem len_shpM : ∀ (f : Nat) {t m : Int}, t ≤ 5 → (shpM f t m).length ≤ 5 ^ f
  | 0, _, _, _ => Nat.le_refl 1
  | f + 1, t, m, h => by
    rw [shpM_s]
    split
    · exact Nat.pos_of_ne_zero (by simp)
    · refine Nat.le_trans (len_flat (n := 5 ^ f) fun a ha => ?_) ?_
      · rw [List.length_map]
        exact len_shpM f (by omega)
      · rw [List.length_range, Nat.pow_succ, Nat.mul_comm]
        exact Nat.mul_le_mul_left _ (by omega)
def shpA (t m : Int) : List (List Int) := shpM t.toNat t m
theorem shpA_s {t m : Int} (h : 0 < t) : shpA t m = (List.range (min t m).toNat).flatMap fun (a : Nat) => (shpA (t - ((a : Int) + 1)) ((a : Int) + 1)).map fun r => ((a : Int) + 1) :: r := by
  unfold shpA
  obtain ⟨f, hf⟩ : ∃ f, t.toNat = f + 1 := ⟨t.toNat - 1, by omega⟩
  rw [hf, shpM_s, if_neg (by omega)]
  refine flat_cong fun a ha => ?_
  have := List.mem_range.mp ha
  rw [shpM_fuel f (t - ((a : Int) + 1)).toNat (by omega) (by omega) (by omega)]
theorem len_shpA {t m : Int} (h : t ≤ 5) : (shpA t m).length ≤ 3125 := by
  refine Nat.le_trans (len_shpM _ h) ?_
  exact Nat.le_trans (Nat.pow_le_pow_right (by decide) (show t.toNat ≤ 5 by omega)) (by decide)
theorem mem_shpA {t m : Int} {r : List Int} (h0 : 0 ≤ t) (h : r ∈ shpA t m) : (∀ x ∈ r, 1 ≤ x) ∧ r.sum = t := mem_shpM h0 (by omega) h
theorem len_le_sum : ∀ {r : List Int}, (∀ x ∈ r, 1 ≤ x) → (r.length : Int) ≤ r.sum ∧ ∀ x ∈ r, x ≤ r.sum
  | [], _ => ⟨Int.le_refl _, fun _ h => absurd h List.not_mem_nil⟩
  | x :: r, h => by
    obtain ⟨h1, h2⟩ := len_le_sum (r := r) fun y hy => h y (List.mem_cons_of_mem _ hy)
    have hx := h x List.mem_cons_self
    rw [List.sum_cons, List.length_cons]
    refine ⟨by omega, fun y hy => ?_⟩
    rcases List.mem_cons.mp hy with rfl | hy
    · omega
    · have := h2 y hy
      omega
def pre_law_shapes_of (n : Nat) : Pre := fun rs O Q => ∃ (t m : Int), rs = [iV t, iV m] ∧ t ≤ (n : Int) ∧ 0 ≤ t ∧ t ≤ 5 ∧ 0 ≤ m ∧ m ≤ 100 ∧ Q (.dat (lS (shpA t m))) O
theorem len_law_shapes_of (n : Nat) (rs : List SD) (O : Own) (Q : SD → Own → Prop) (h : pre_law_shapes_of n rs O Q) : rs.length = 2 := by
  obtain ⟨t, c, rfl, _⟩ := h
  rfl
abbrev s_law_shapes_of : Stmt := topS 23
theorem sc_law_shapes_of : FnScope ["total", "most", "found", "first", "rest"] ["total", "most"] (defScope s_law_shapes_of) := ⟨rfl, rfl, rfl, by decide +kernel, rfl, by decide +kernel, by decide +kernel⟩
set_option maxHeartbeats 4000000 in
theorem ok_law_shapes_of  (D : Def K mg "_law_shapes_of" s_law_shapes_of) (m_min : mg "min" = none) (m_range : mg "range" = none) : ∀ n : Nat, Callee P w K mg base "_law_shapes_of" ["total", "most"] (n + 1) (pre_law_shapes_of n) := by
  obtain ⟨f, fd, F, hmg⟩ := D
  have g_law_shapes_of := hmg
  have kp_law_shapes_of := F.kp
  have b_law_shapes_of : Binds K fd ["total", "most"] [] := F.binds fun _ _ _ _ _ _ us hl => match us, hl with | [_, _], _ => rfl
  have step : ∀ n, FnOk P w K mg base CX0 (n + 0) f fd ["total", "most"] (spW K (preM pre_law_shapes_of n)) → FnOk P w K mg base CX0 (n + 1) f fd ["total", "most"] (spW K (pre_law_shapes_of n)) := by
    intro n G_law_shapes_of
    refine fn_ok F sc_law_shapes_of (len_law_shapes_of n) fun cdv A outer s H E hr => ⟨_, (pss_cons (ps_if (pt_cmpR op_eq (pv 0) pe_int (nomark _)) (pss_one (ps_ret (pe_lst (pa_cons (pe_tup pa_nil) pa_nil)))) pss_nil)
      (pss_cons (ps_set (i := 2) sc_law_shapes_of.nd rfl (.inl rfl) (pe_lst pa_nil))
      (pss_cons (ps_for PassesOwn.never rfl (pi_range2 (by rfl) m_range (pa_cons pe_int (pa_cons (pe_op op_add (pe_callB (kMin2 rfl) (by rfl) m_min (by decide +kernel) (pa_cons (pv 0) (pa_cons (pv 1) pa_nil))) pe_int) pa_nil))) (pg_name (i := 3) sc_law_shapes_of.nd rfl (.inl rfl)) (pss_one (ps_for PassesOwn.never rfl (piL K (pe_call G_law_shapes_of (hr.mono (by omega)) (by rfl) g_law_shapes_of kp_law_shapes_of b_law_shapes_of .nil pass0 (pa_cons (pe_op op_sub (pv 0) (pv 3)) (pa_cons (pv 3) pa_nil)))) (pg_name (i := 4) sc_law_shapes_of.nd rfl (.inl rfl)) (pss_one (psApp K (ps_expr (pe_bm PySem.F.plainAttrs_list PySem.F.slot_list_append PySem.F.type_list_append mt_append (pv 2) (pa_cons (pe_op (kCatT K) (pe_tup (pa_cons (pv 3) pa_nil)) (pv 4)) pa_nil))))))))
      (pss_one (ps_ret (pv 2)))))), ?_⟩
    intro rs O Q h
    obtain ⟨t, m, rfl, hn, ht0, ht5, hm0, hm1, q⟩ := h
    show StW K _ O [iV t, iV m, .non, .non, .non] _
    refine s_seq (s_if ?_)
    repeat' walk_at "e"
    · rename_i h0
      subst h0
      repeat' walk_at "w"
      exact q
    rename_i h0
    with_reducible refine s_next ?_
    obtain ⟨n, rfl⟩ : ∃ n', n = n' + 1 := ⟨n - 1, by omega⟩
    rw [shpA_s (by omega)] at q
    refine s_seq (s_asg (w_lstO (w_nil ⟨sz_ok rfl, fun p => ?_⟩)))
    refine s_seq (s_for2 ?_)
    repeat' walk_at "e"
    refine ⟨_, _, rfl, by omega, fun a O2 ds2 => ∃ (x y : SD), O2 = (p, .lst (dS ((List.range a).flatMap fun (a : Nat) => (shpA (t - ((a : Int) + 1)) ((a : Int) + 1)).map fun r => ((a : Int) + 1) :: r))) :: O ∧ ds2 = [iV t, iV m, .ad p, x, y], ⟨_, _, rfl, rfl⟩, fun a O2 ds2 hk hI B hB => ?_, fun O2 ds2 hI => ?_⟩
    · obtain ⟨x, y, rfl, rfl⟩ := hI
      have hpre : ((List.range a).flatMap fun (a : Nat) => (shpA (t - ((a : Int) + 1)) ((a : Int) + 1)).map fun r => ((a : Int) + 1) :: r).length ≤ a * 3125 := by
        have := len_flat (f := fun (a : Nat) => (shpA (t - ((a : Int) + 1)) ((a : Int) + 1)).map fun r => ((a : Int) + 1) :: r) (n := 3125) (l := List.range a) fun b _ => by
          rw [List.length_map]
          exact len_shpA (by omega)
        rwa [List.length_range] at this
      have hMt := len_shpA (t := t - ((a : Int) + 1)) (m := (a : Int) + 1) (by omega)
      refine s_forL ?_
      repeat' walk_at "e"
      refine ⟨t - ((a : Int) + 1), (a : Int) + 1, by rw [Int.add_comm 1 (a : Int)], by omega, by omega, by omega, by omega, by omega, ?_⟩
      refine ⟨_, rfl, fun j O3 ds3 => ∃ (y : SD), O3 = (p, .lst (dS (((List.range a).flatMap fun (a : Nat) => (shpA (t - ((a : Int) + 1)) ((a : Int) + 1)).map fun r => ((a : Int) + 1) :: r) ++ ((shpA (t - ((a : Int) + 1)) ((a : Int) + 1)).take j).map fun r => ((a : Int) + 1) :: r))) :: O ∧ ds3 = [iV t, iV m, .ad p, iV (1 + (a : Int)), y], ⟨_, by rw [List.take_zero, List.map_nil, List.append_nil], rfl⟩, fun j d O3 ds3 hd hJ B2 hB2 => ?_, fun O3 ds3 hJ => ?_⟩
      · obtain ⟨y, rfl, rfl⟩ := hJ
        obtain ⟨r, hr, rfl⟩ := map_get hd
        obtain ⟨hj, _⟩ := List.getElem?_eq_some_iff.mp hr
        have hsz : (dS (((List.range a).flatMap fun (a : Nat) => (shpA (t - ((a : Int) + 1)) ((a : Int) + 1)).map fun r => ((a : Int) + 1) :: r) ++ ((shpA (t - ((a : Int) + 1)) ((a : Int) + 1)).take j).map fun r => ((a : Int) + 1) :: r)).length ≤ 100000 := by
          rw [List.length_map, List.length_append, List.length_map, List.length_take]
          omega
        obtain ⟨hr1, hr2⟩ := mem_shpA (by omega) (List.mem_of_getElem? hr)
        have hrl := (len_le_sum hr1).1
        refine s_drop (w_bm ?_)
        repeat' walk_at "e"
        refine hB2.nx _ _ ⟨.dat (tI r), ?_, rfl⟩
        rw [take_next hr, List.map_append, ← List.append_assoc, show List.map (fun r => ((a : Int) + 1) :: r) [r] = [((a : Int) + 1) :: r] from rfl]
        rw [show ∀ (L : List (List Int)) (u : List Int), dS (L ++ [u]) = dS L ++ [SD.dat (tI u)] from fun L u => List.map_append]
        rw [Int.add_comm 1 (a : Int)]
        rfl
      · obtain ⟨y, rfl, rfl⟩ := hJ
        refine hB.nx _ _ ⟨_, _, ?_, rfl⟩
        rw [List.length_map, List.take_length, List.range_succ, List.flatMap_append, List.flatMap_singleton]
    obtain ⟨x, y, rfl, rfl⟩ := hI
    refine s_ret (w_frz ?_)
    repeat' walk_at "e"
    refine ⟨p, _, _, O, rfl, .refl _, tS_dats _, ?_⟩
    rw [show (min t m + 1 - 1).toNat = (min t m).toNat by omega]
    exact q
  intro n
  refine ⟨f, fd, ?_, g_law_shapes_of, kp_law_shapes_of, b_law_shapes_of, Wk.Fun.lk F⟩
  induction n with
  | zero => exact step 0 FnOk.never
  | succ n ih => exact step (n + 1) (ih.mono (by omega))
def pre_with_letter : Pre := fun rs O Q => ∃ (T : List (List Int)) (shape : List Int) (l many : Int), rs = [.dat (tS T), .dat (tI shape), iV l, iV many] ∧ T.length = shape.length ∧ T.length ≤ 20 ∧ (∀ r ∈ T, r.length ≤ 100) ∧ (∀ x ∈ shape, 0 ≤ x ∧ x ≤ 100) ∧ 0 ≤ l ∧ l ≤ 1000 ∧ 0 ≤ many ∧ many ≤ 100 ∧ (T.length + 1) ^ many.toNat ≤ 10000000 ∧ Q (.dat (lF (wlM T shape l many))) O
theorem len_with_letter (rs : List SD) (O : Own) (Q : SD → Own → Prop) (h : pre_with_letter rs O Q) : rs.length = 4 := by
  obtain ⟨T, shape, l, many, rfl, _⟩ := h
  rfl
theorem getD_len {T : List (List Int)} (h : ∀ r ∈ T, r.length ≤ 100) (i : Nat) : (T.getD i []).length ≤ 100 := by
  rcases Nat.lt_or_ge i T.length with z | z
  · rw [List.getD_eq_getElem?_getD, List.getElem?_eq_getElem z]
    exact h _ (List.getElem_mem z)
  · rw [List.getD_eq_getElem?_getD, List.getElem?_eq_none z]
    exact Nat.zero_le _
theorem roomL_at {T : List (List Int)} {shape : List Int} {i : Nat} (hi : i < T.length) : (roomL T shape)[i]? = some ((if 0 < i then min (shape.getD i 0) ((T.getD (i - 1) []).length : Int) else shape.getD i 0) - ((T.getD i []).length : Int)) := rg_map hi
abbrev s_with_letter : Stmt := topS 6
theorem sc_with_letter : FnScope ["rows", "shape", "letter", "many", "room", "r", "row", "end", "shares", "held", "more"] ["rows", "shape", "letter", "many"] (defScope s_with_letter) := ⟨rfl, rfl, rfl, by decide +kernel, rfl, by decide +kernel, by decide +kernel⟩
set_option maxHeartbeats 4000000 in
theorem ok_with_letter  (D : Def K mg "_with_letter" s_with_letter) (C_shared_out : Callee P w K mg base "_shared_out" ["total", "room"] 1 pre_shared_out) (m_enumerate : mg "enumerate" = none) (m_len : mg "len" = none) (m_min : mg "min" = none) (m_tuple : mg "tuple" = none) (m_zip : mg "zip" = none) : Callee P w K mg base "_with_letter" ["rows", "shape", "letter", "many"] 2 pre_with_letter := by
  obtain ⟨f, fd, F, hmg⟩ := D
  obtain ⟨f_shared_out, fd_shared_out, G_shared_out, g_shared_out, kp_shared_out, b_shared_out, _⟩ := C_shared_out
  refine ⟨f, fd, fn_ok F sc_with_letter len_with_letter fun cdv A outer s H E hr => ⟨_, (pss_cons (ps_set (i := 4) sc_with_letter.nd rfl (.inl rfl) (pe_lst pa_nil))
      (pss_cons (ps_for PassesOwn.never rfl (pi_enumT K (by rfl) m_enumerate (pa_cons (pv 0) pa_nil)) (pgTup K rfl (pgs_cons (pg_name (i := 5) sc_with_letter.nd rfl (.inl rfl)) (pgs_cons (pg_name (i := 6) sc_with_letter.nd rfl (.inl rfl)) pgs_nil))) (pss_cons (ps_set (i := 7) sc_with_letter.nd rfl (.inl rfl) (pe_ifExp (pt_cmpR op_gt (pv 5) pe_int (nomark _)) (pe_callB (kMin2 rfl) (by rfl) m_min (by decide +kernel) (pa_cons (pe_ix (ixT K) (pv 1) (pv 5) (fun _ _ => rfl)) (pa_cons (pe_callB (kLen K) (by rfl) m_len PySem.boot_len (pa_cons (pe_ix (ixT K) (pv 0) (pe_op op_sub (pv 5) pe_int) (fun _ _ => rfl)) pa_nil)) pa_nil))) (pe_ix (ixT K) (pv 1) (pv 5) (fun _ _ => rfl))))
      (pss_one (psApp K (ps_expr (pe_bm PySem.F.plainAttrs_list PySem.F.slot_list_append PySem.F.type_list_append mt_append (pv 4) (pa_cons (pe_op op_sub (pv 7) (pe_callB (kLen K) (by rfl) m_len PySem.boot_len (pa_cons (pv 6) pa_nil))) pa_nil)))))))
      (pss_one (ps_ret (pe_lc (own := [("shares", 8)]) (g := gName 8) rfl sc_with_letter.nd (piL K (pe_call G_shared_out (hr.mono (by decide)) (by rfl) g_shared_out kp_shared_out b_shared_out .nil pass0 (pa_cons (pv 3) (pa_cons (pv 4) pa_nil)))) (blkOk_by (own := [("shares", 8)]) (N := ["rows", "shape", "letter", "many", "room", "r", "row", "end", "shares", "held", "more"]) (by first | (show blkC _ (defScope s_with_letter) _ _ = true; decide +kernel) | kernel_rfl | rfl)) (fun _ _ _ _ _ => pg_name (i := 8) sc_with_letter.nd rfl (by first | exact Or.inl rfl | exact Or.inr rfl)) (fun _ _ _ _ _ => pts_nil) (fun _ _ _ _ _ => (pe_callTy (kTupOf K) (by rfl) m_tuple (by decide +kernel) (pa_cons (pe_lc (own := [("held", 9), ("more", 10)]) (g := gTup K 2 (gCons (gName 9) (gCons (gName 10) gNil))) rfl sc_with_letter.nd (pi_zipT K (by rfl) m_zip (pa_cons (pv 0) (pa_cons (pv 8) pa_nil))) (blkOk_by (own := [("held", 9), ("more", 10)]) (N := ["rows", "shape", "letter", "many", "room", "r", "row", "end", "shares", "held", "more"]) (by first | (show blkC _ (defScope s_with_letter) _ _ = true; decide +kernel) | kernel_rfl | rfl)) (fun _ _ _ _ _ => pgTup (n := 2) K rfl (pgs_cons (pg_name (i := 9) sc_with_letter.nd rfl (by first | exact Or.inl rfl | exact Or.inr rfl)) (pgs_cons (pg_name (i := 10) sc_with_letter.nd rfl (by first | exact Or.inl rfl | exact Or.inr rfl)) pgs_nil))) (fun _ _ _ _ _ => pts_nil) (fun _ _ _ _ _ => (pe_op (kCatT K) (pv 9) (pe_op (kRep2 K) (pe_tup (pa_cons (pv 2) pa_nil)) (pv 10))))) pa_nil)))))))), ?_⟩, hmg, F.kp, F.binds fun _ _ _ _ _ _ us hl => match us, hl with | [_, _, _, _], _ => rfl, Wk.Fun.lk F⟩
  intro rs O Q h
  obtain ⟨T, shape, l, many, rfl, hTs, hT, hTr, hsh, hl0, hl1, hm0, hm1, hpw, q⟩ := h
  have hshg : ∀ i, i < shape.length → 0 ≤ shape.getD i 0 ∧ shape.getD i 0 ≤ 100 := fun i hi => hsh _ (getD_mem1 hi)
  have hTg := getD_len hTr
  show StW K _ O [.dat (tS T), .dat (tI shape), iV l, iV many, .non, .non, .non, .non, .non, .non, .non] _
  refine s_seq (s_asg (w_lstO (w_nil ⟨sz_ok rfl, fun p => ?_⟩)))
  refine s_seq (s_forET ?_)
  repeat' walk_at "e"
  refine ⟨fun i O2 ds2 => ∃ (x5 x6 x7 : SD), O2 = (p, .lst (((roomL T shape).take i).map fun z => iV z)) :: O ∧ ds2 = [.dat (tS T), .dat (tI shape), iV l, iV many, .ad p, x5, x6, x7, .non, .non, .non], ⟨_, _, _, rfl, rfl⟩, fun i d O2 ds2 hd hI B hB => ?_, fun O2 ds2 hI => ?_⟩
  · obtain ⟨x5, x6, x7, rfl, rfl⟩ := hI
    obtain ⟨r, hr, rfl⟩ := map_get hd
    obtain ⟨hi, her⟩ := List.getElem?_eq_some_iff.mp hr
    have egr : T.getD i [] = r := by rw [List.getD_eq_getElem?_getD, hr]; rfl
    have h1 := hshg i (by omega)
    have h2 := hTg (i - 1)
    have h3 := hTr r (List.mem_of_getElem? hr)
    refine s_seq (s_asg ?_)
    repeat' walk_at "e"
    · rename_i hp
      refine s_drop (w_bm ?_)
      repeat' walk_at "e"
      refine m_app0 (by rw [List.length_map, List.length_take]; omega) ?_
      refine hB.nx _ _ ⟨_, _, _, ?_, rfl⟩
      rw [take_next (roomL_at hi), if_pos (by omega), egr, List.map_append, List.length_map, List.length_map, Int.toNat_natCast, show ((i : Int) - 1).toNat = i - 1 by omega]
      rfl
    · rename_i hp
      refine s_drop (w_bm ?_)
      repeat' walk_at "e"
      refine m_app0 (by rw [List.length_map, List.length_take]; omega) ?_
      refine hB.nx _ _ ⟨_, _, _, ?_, rfl⟩
      rw [take_next (roomL_at hi), if_neg (by omega), egr, List.map_append, List.length_map, Int.toNat_natCast]
      rfl
  obtain ⟨x5, x6, x7, rfl, rfl⟩ := hI
  have hrl := roomL_len T shape
  rw [List.length_map, List.take_of_length_le (by omega)]
  have hrb : ∀ m ∈ roomL T shape, -1000 ≤ m ∧ m ≤ 1000 := fun m hm => by
    obtain ⟨i, hi, rfl⟩ := List.mem_iff_getElem.mp hm
    rw [hrl] at hi
    have e := roomL_at (shape := shape) hi
    rw [List.getElem?_eq_getElem (by omega)] at e
    have e := Option.some.inj e
    have h1 := hshg i (by omega)
    have h2 := hTg (i - 1)
    have h3 := hTg i
    rw [e]
    split <;> omega
  have hlen := len_shO hm0 (roomL T shape)
  have hmem := fun sh h => (mem_shO (t := many) (room := roomL T shape) (s := sh) hm0).mp h
  have hbnd : ∀ sh ∈ shO many (roomL T shape), sh.length = T.length ∧ ∀ x ∈ sh, 0 ≤ x ∧ x ≤ 1000 := fun sh h => by
    obtain ⟨b1, _⟩ := hmem sh h
    obtain ⟨b2, b3⟩ := bnd_iff.mp b1
    refine ⟨by rw [b2, hrl], fun x hx => ?_⟩
    obtain ⟨i, hi, rfl⟩ := List.mem_iff_getElem.mp hx
    have b4 := b3 i (by omega)
    rw [List.getD_eq_getElem?_getD, List.getElem?_eq_getElem hi] at b4
    have b5 := (hrb _ (getD_mem1 (l := roomL T shape) (i := i) (by omega))).2
    have b4 : 0 ≤ sh[i] ∧ sh[i] ≤ (roomL T shape).getD i 0 := b4
    omega
  have hwl : wlM T shape l many = (shO many (roomL T shape)).map fun sh => extT T sh l := rfl
  refine s_frz (i := 4) rfl (.refl _) (Dats.ints _) ?_
  refine s_ret (w_frz (w_lcI (it_lst ?_)))
  repeat' walk_at "e"
  refine ⟨many, roomL T shape, .inl rfl, hm0, by omega, hrb, by omega, by rw [hrl]; exact hpw, ?_⟩
  have hpz : (shO many (roomL T shape)).length ≤ 10000000 := by
    refine Nat.le_trans hlen (Nat.le_trans (Nat.pow_le_pow_left ?_ _) hpw)
    omega
  generalize shO many (roomL T shape) = S at *
  refine ⟨_, rfl, fun i acc O3 => acc = ((S.take i).map fun sh => extT T sh l).map (fun X => SD.dat (tS X)) ∧ O3 = O, ⟨rfl, rfl⟩, fun i acc O3 hJ => ?_, fun i d acc O3 hd hJ => ?_, fun acc O3 Dl hJ => ?_⟩
  · obtain ⟨rfl, rfl⟩ := hJ
    rw [List.length_map, List.length_map]
    exact Nat.lt_of_le_of_lt (Nat.le_trans (List.take_sublist _ _).length_le hpz) (by decide)
  · obtain ⟨rfl, rfl⟩ := hJ
    obtain ⟨sh, hs, rfl⟩ := map_get hd
    obtain ⟨hsl, hsb⟩ := hbnd sh (List.mem_of_getElem? hs)
    refine ⟨_, tg_name (by decide), fun Dl => t_yes ⟨fun _ => ?_, fun z => nomatch z⟩⟩
    refine w_cb (w_cons (w_frz (w_lcZT (by decide) ?_)))
    repeat' walk_at "e"
    refine ⟨_, _, rfl, by rw [List.length_map]; omega, fun j acc O4 => acc = ((extT T sh l).take j).map (fun c => SD.dat (tI c)) ∧ O4 = (Dl, OD.lst (((S.take i).map fun sh => extT T sh l).map (fun X => SD.dat (tS X)))) :: O3, ⟨rfl, rfl⟩, fun j d e acc O4 hd he hl hJ => ?_, fun acc O4 Dl2 hJ => ?_⟩
    · obtain ⟨rfl, rfl⟩ := hJ
      intro Dl2
      obtain ⟨r, hr, rfl⟩ := map_get hd
      obtain ⟨x, hx, rfl⟩ := map_get he
      have hxb := hsb x (List.mem_of_getElem? hx)
      have hrl2 := hTr r (List.mem_of_getElem? hr)
      refine t_yes ⟨fun _ => ?_, fun z => nomatch z⟩
      repeat' walk_at "e"
      refine ⟨_, .refl _, ?_, rfl⟩
      have e : (extT T sh l)[j]? = some (r ++ List.replicate x.toNat l) := by
        unfold extT
        rw [List.getElem?_zipWith, hr, hx]
      have e2 : PyData.tuple (r.map PyData.int ++ List.replicate x.toNat (.int l)) = tI (r ++ List.replicate x.toNat l) := by
        show _ = PyData.tuple ((r ++ List.replicate x.toNat l).map PyData.int)
        rw [List.map_append, List.map_replicate]
      rw [take_next e, e2, List.map_append]
      rfl
    obtain ⟨rfl, rfl⟩ := hJ
    rw [List.length_map, List.length_map, hsl, Nat.min_self, List.take_of_length_le (by rw [extT_len hsl]; exact Nat.le_refl _)]
    refine ⟨Dl2, _, _, _, rfl, .refl _, tS_dats _, ?_⟩
    repeat' walk_at "e"
    refine ⟨_, .refl _, ?_, rfl⟩
    rw [take_next hs, List.map_append, List.map_append]
    rfl
  obtain ⟨rfl, rfl⟩ := hJ
  rw [List.length_map, List.take_length]
  refine ⟨Dl, _, (S.map fun sh => extT T sh l).map (fun X => tS X), _, rfl, .refl _, ?_, ?_⟩
  · have := Dats.map ((S.map fun sh => extT T sh l).map fun X => tS X)
    rw [List.map_map] at this
    exact this
  rw [hwl] at q
  exact q
def tabO (shape content : List Int) : List (List (List Int)) := if shape.sum = content.sum then srtT (tabK shape content content.length) else []
def pre_tableaux_of : Pre := fun rs O Q => ∃ (shape content : List Int), rs = [.dat (tI shape), .dat (tI content)] ∧ shape.length ≤ 20 ∧ (∀ x ∈ shape, 1 ≤ x ∧ x ≤ 100) ∧ content.length ≤ 60 ∧ (∀ x ∈ content, 0 ≤ x ∧ x ≤ 100) ∧ (shape.length + 1) ^ content.sum.toNat ≤ 10000000 ∧ Q (.dat (lF (tabO shape content))) O
theorem len_tableaux_of (rs : List SD) (O : Own) (Q : SD → Own → Prop) (h : pre_tableaux_of rs O Q) : rs.length = 2 := by
  obtain ⟨shape, content, rfl, _⟩ := h
  rfl
abbrev s_tableaux_of : Stmt := topS 5
theorem sc_tableaux_of : FnScope ["shape", "content", "found", "k", "many", "rows", "further"] ["shape", "content"] (defScope s_tableaux_of) := ⟨rfl, rfl, rfl, by decide +kernel, rfl, by decide +kernel, by decide +kernel⟩
set_option maxHeartbeats 4000000 in
theorem ok_tableaux_of  (D : Def K mg "tableaux_of" s_tableaux_of) (C_with_letter : Callee P w K mg base "_with_letter" ["rows", "shape", "letter", "many"] 2 pre_with_letter) (m_enumerate : mg "enumerate" = none) (m_len : mg "len" = none) (m_sorted : mg "sorted" = none) (m_sum : mg "sum" = none) : Callee P w K mg base "tableaux_of" ["shape", "content"] 3 pre_tableaux_of := by
  obtain ⟨f, fd, F, hmg⟩ := D
  obtain ⟨f_with_letter, fd_with_letter, G_with_letter, g_with_letter, kp_with_letter, b_with_letter, _⟩ := C_with_letter
  refine ⟨f, fd, fn_ok F sc_tableaux_of len_tableaux_of fun cdv A outer s H E hr => ⟨_, (pss_cons (ps_if (pt_cmpR op_ne (pe_callB (kSumT K rfl) (by rfl) m_sum (by decide +kernel) (pa_cons (pv 0) pa_nil)) (pe_callB (kSumT K rfl) (by rfl) m_sum (by decide +kernel) (pa_cons (pv 1) pa_nil)) (nomark _)) (pss_one (ps_ret (pe_lst pa_nil))) pss_nil)
      (pss_cons (ps_set (i := 2) sc_tableaux_of.nd rfl (.inl rfl) (pe_lst (pa_cons (pe_op (kRep2 K) (pe_tup (pa_cons (pe_tup pa_nil) pa_nil)) (pe_callB (kLen K) (by rfl) m_len PySem.boot_len (pa_cons (pv 0) pa_nil))) pa_nil)))
      (pss_cons (ps_for PassesOwn.never rfl (pi_enumT K (by rfl) m_enumerate (pa_cons (pv 1) pa_nil)) (pgTup K rfl (pgs_cons (pg_name (i := 3) sc_tableaux_of.nd rfl (.inr rfl)) (pgs_cons (pg_name (i := 4) sc_tableaux_of.nd rfl (.inr rfl)) pgs_nil))) (pss_one (ps_setLc2 (i := 2) (own := [("rows", 5), ("further", 6)]) (vs1 := [6]) (g := gName 5) (g1 := gName 6) rfl sc_tableaux_of.nd rfl rfl (sw_true rfl rfl rfl (by decide +kernel)) (piL K (pv 2)) (blkOk_by (own := [("rows", 5), ("further", 6)]) (N := ["shape", "content", "found", "k", "many", "rows", "further"]) (by first | (show blkC _ (defScope s_tableaux_of) _ _ = true; decide +kernel) | kernel_rfl | rfl)) (by decide) (fun _ _ _ _ _ => pg_name (i := 5) sc_tableaux_of.nd rfl (by first | exact Or.inl rfl | exact Or.inr rfl)) (fun _ _ _ _ _ => pts_nil) (fun _ _ _ _ _ => (piL K (pe_call G_with_letter (hr.mono (by decide)) (by rfl) g_with_letter kp_with_letter b_with_letter .nil pass0 (pa_cons (pv 5) (pa_cons (pv 0) (pa_cons (pe_op op_add (pv 3) pe_int) (pa_cons (pv 4) pa_nil))))))) (fun _ _ _ _ _ => pg_name (i := 6) sc_tableaux_of.nd rfl (by first | exact Or.inl rfl | exact Or.inr rfl)) (fun _ _ _ _ _ => pts_nil) (fun _ _ _ _ _ => (pv 6)))))
      (pss_one (ps_ret (pe_callB (kSortD (K := K) hr.units) (by rfl) m_sorted (by decide +kernel) (pa_cons (pv 2) pa_nil))))))), ?_⟩, hmg, F.kp, F.binds fun _ _ _ _ _ _ us hl => match us, hl with | [_, _], _ => rfl, Wk.Fun.lk F⟩
  intro rs O Q h
  obtain ⟨shape, content, rfl, hsl, hs, hcl, hc, hpw, q⟩ := h
  show StW K _ O [.dat (tI shape), .dat (tI content), .non, .non, .non, .non, .non] _
  refine s_seq (s_if ?_)
  repeat' walk_at "e"
  · rename_i hne
    repeat' walk_at "w"
    repeat' walk_at "e"
    have e : tabO shape content = [] := if_neg hne
    rw [e] at q
    exact q
  rename_i heq
  have eq : tabO shape content = srtT (tabK shape content content.length) := if_pos heq
  rw [eq] at q
  clear eq
  with_reducible refine s_next ?_
  have hs0 : ∀ i, i < shape.length → 0 ≤ shape.getD i 0 := fun i hi => by have := (hs _ (getD_mem1 hi)).1; omega
  have hc0 : ∀ i, 0 ≤ content.getD i 0 := fun i => by
    rcases Nat.lt_or_ge i content.length with z | z
    · exact (hc _ (getD_mem1 z)).1
    · rw [List.getD_eq_getElem?_getD, List.getElem?_eq_none z]
      exact Int.le_refl 0
  have hcs : ∀ i, ((content.take i).map Int.toNat).sum ≤ content.sum.toNat := fun i => by
    rw [← (sumN_sum fun x hx => (hc x hx).1).1]
    conv => rhs; rw [← List.take_append_drop i content]
    rw [List.map_append, List.sum_append]
    exact Nat.le_add_right _ _
  have hlen : ∀ i, (tabK shape content i).length ≤ 10000000 := fun i => by
    refine Nat.le_trans (len_tabK hc0 i) (Nat.le_trans (Nat.pow_le_pow_left (Nat.le_succ _) _) (Nat.le_trans (Nat.pow_le_pow_right (Nat.succ_pos _) (hcs i)) hpw))
  have hT : ∀ i, ∀ T ∈ tabK shape content i, T.length = shape.length ∧ ∀ r ∈ T, r.length ≤ 100 := fun i T hT => by
    obtain ⟨hm, _⟩ := (mem_tabK hs0 hc0).mp hT
    refine ⟨hm.len, fun r hr => ?_⟩
    obtain ⟨j, hj, rfl⟩ := List.mem_iff_getElem.mp hr
    have h1 := hm.le j hj
    rw [List.getD_eq_getElem?_getD, List.getElem?_eq_getElem hj] at h1
    have h1 : ((T[j].length : Nat) : Int) ≤ shape.getD j 0 := h1
    have h2 := (hs _ (getD_mem1 (l := shape) (i := j) (by rw [← hm.len]; exact hj))).2
    omega
  refine s_seq (s_asg ?_)
  repeat' walk_at "e"
  rw [List.length_map]
  refine g_rep2 (by omega) (by omega) ?_
  rw [Int.toNat_natCast]
  repeat' walk_at "e"
  have e0 : PyData.list [PyData.tuple (List.replicate shape.length (PyData.tuple []))] = lF (tabK shape content 0) := by
    show _ = PyData.list [PyData.tuple ((List.replicate shape.length []).map fun c => tI c)]
    rw [List.map_replicate]
    rfl
  rw [e0]
  refine s_seq (s_forET ?_)
  repeat' walk_at "e"
  refine ⟨fun i O2 ds2 => ∃ (x3 x4 : SD), O2 = O ∧ ds2 = [.dat (tI shape), .dat (tI content), .dat (lF (tabK shape content i)), x3, x4, .non, .non], ⟨_, _, rfl, rfl⟩, fun i d O2 ds2 hd hI B hB => ?_, fun O2 ds2 hI => ?_⟩
  · obtain ⟨x3, x4, rfl, rfl⟩ := hI
    obtain ⟨c, hcc, rfl⟩ := map_get hd
    obtain ⟨hi, _⟩ := List.getElem?_eq_some_iff.mp hcc
    have hcb := hc c (List.mem_of_getElem? hcc)
    have ecc : content.getD i 0 = c := by rw [List.getD_eq_getElem?_getD, hcc]; rfl
    have hTi := hT i
    have hlen1 := hlen (i + 1)
    have hcpw : (shape.length + 1) ^ c.toNat ≤ 10000000 := by
      refine Nat.le_trans (Nat.pow_le_pow_right (Nat.succ_pos _) ?_) hpw
      have h1 := hcs (i + 1)
      rw [take_next hcc, List.map_append, List.sum_append, List.map_singleton, List.sum_singleton] at h1
      omega
    have estep : tabK shape content (i + 1) = (tabK shape content i).flatMap fun T => wlM T shape ((i + 1 : Nat) : Int) c := by
      rw [← ecc]
      rfl
    refine s_asg (w_frz (w_lcc (it_lst ?_)))
    repeat' walk_at "e"
    rw [estep] at hlen1
    generalize tabK shape content i = F at *
    refine ⟨fun a acc O3 => acc = (((F.take a).flatMap fun T => wlM T shape ((i + 1 : Nat) : Int) c).map fun X => SD.dat (tS X)) ∧ O3 = O2, ⟨rfl, rfl⟩, fun a dd acc O3 hd hJ => ?_, fun acc O3 Dl hJ => ?_⟩
    · obtain ⟨rfl, rfl⟩ := hJ
      obtain ⟨T, hTa, rfl⟩ := map_get hd
      obtain ⟨t1, t2⟩ := hTi T (List.mem_of_getElem? hTa)
      have estep2 : (F.take (a + 1)).flatMap (fun T => wlM T shape ((i + 1 : Nat) : Int) c) = (F.take a).flatMap (fun T => wlM T shape ((i + 1 : Nat) : Int) c) ++ wlM T shape ((i + 1 : Nat) : Int) c := by
        rw [take_next hTa, List.flatMap_append, List.flatMap_singleton]
      have hlen2 : ((F.take (a + 1)).flatMap fun T => wlM T shape ((i + 1 : Nat) : Int) c).length ≤ 10000000 := Nat.le_trans (flat_take _ _ _) hlen1
      refine ⟨_, tg_name (by decide), fun Dl => it_lst ?_⟩
      repeat' walk_at "e"
      refine ⟨T, shape, ((i + 1 : Nat) : Int), c, by rw [show ((i + 1 : Nat) : Int) = (i : Int) + 1 by omega], t1, by omega, t2, fun x hx => by have := hs x hx; omega, by omega, by omega, hcb.1, hcb.2, by rw [t1]; exact hcpw, ?_⟩
      generalize wlM T shape ((i + 1 : Nat) : Int) c = W at *
      refine ⟨_, rfl, O3, .refl _, fun j acc O5 => acc = (((F.take a).flatMap fun T => wlM T shape ((i + 1 : Nat) : Int) c) ++ W.take j).map (fun X => SD.dat (tS X)) ∧ O5 = O3, ⟨by rw [List.take_zero, List.append_nil], rfl⟩, fun j acc O5 hJ => ?_, fun j d1 acc O5 hd1 hJ => ?_, fun acc O5 hJ => ?_⟩
      · obtain ⟨rfl, rfl⟩ := hJ
        rw [List.length_map]
        rw [estep2] at hlen2
        exact Nat.lt_of_le_of_lt (Nat.le_trans (List.Sublist.length_le ((List.take_sublist _ _).append_left _)) hlen2) (by decide)
      · obtain ⟨rfl, rfl⟩ := hJ
        obtain ⟨X, hX, rfl⟩ := map_get hd1
        refine ⟨_, tg_name (by decide), fun Dl1 => t_yes ⟨fun _ => ?_, fun z => nomatch z⟩⟩
        repeat' walk_at "e"
        refine ⟨O5, .refl _, ?_, rfl⟩
        rw [take_next hX, ← List.append_assoc]
        refine Eq.trans ?_ (List.map_append ..).symm
        rfl
      · obtain ⟨rfl, rfl⟩ := hJ
        refine ⟨?_, rfl⟩
        rw [estep2, List.length_map, List.take_length]
    · obtain ⟨rfl, rfl⟩ := hJ
      rw [List.length_map, List.take_length]
      refine ⟨Dl, _, (F.flatMap fun T => wlM T shape ((i + 1 : Nat) : Int) c).map (fun X => tS X), _, rfl, .refl _, ?_, ?_⟩
      · have := Dats.map ((F.flatMap fun T => wlM T shape ((i + 1 : Nat) : Int) c).map (fun X => tS X))
        rw [List.map_map] at this
        exact this
      refine hB.nx _ _ ⟨iV (i : Int), iV c, rfl, ?_⟩
      rw [estep]
      rfl
  obtain ⟨x3, x4, rfl, rfl⟩ := hI
  rw [List.length_map]
  have hTl := hT content.length
  have hn := len_tabK (shape := shape) hc0 content.length
  refine s_ret ?_
  repeat' walk_at "e"
  refine g_sortD .d (tS_all _) ?_ (fun e he => ?_) ?_
  · by_cases z : shape.length = 0
    · refine .inr ?_
      rw [List.length_map]
      have h0 : shape = [] := List.length_eq_zero_iff.mp z
      rw [h0] at heq
      have heq : (0 : Int) = content.sum := heq
      rw [List.take_length, (sumN_sum fun x hx => (hc x hx).1).1, ← heq, z] at hn
      exact hn
    · refine .inl (.inl fun d hd => ?_)
      obtain ⟨T, hTm, rfl⟩ := List.mem_map.mp hd
      have h1 := (hTl T hTm).1
      match T, h1 with
      | [], h1 => exact absurd h1.symm z
      | r :: T, _ => exact ⟨tI r, T.map fun c => tI c, rfl⟩
  · obtain ⟨T, _, rfl⟩ := List.mem_map.mp he
    have := dep_tS T
    show PyData.depth (.tuple (T.map fun c => tI c)) ≤ 60
    rw [PyData.depth]
    omega
  rw [srtT_dat]
  exact q
abbrev lR (T : List (List Int)) : PyData := .list (T.map fun r => lI r)
def pre_law_inserted : Pre := fun rs O Q => ∃ (T : List (List Int)) (x : Int), rs = [.dat (lR T), iV x] ∧ T.length ≤ 1000 ∧ (∀ r ∈ T, r.length ≤ 1000) ∧ Q (.dat (lR (insT T x).1)) O
theorem len_law_inserted (rs : List SD) (O : Own) (Q : SD → Own → Prop) (h : pre_law_inserted rs O Q) : rs.length = 2 := by
  obtain ⟨Ts, s, rfl, _⟩ := h
  rfl
theorem ownL_app : ∀ {as : List Addr} {Ls : List (List Int)} (a : Addr) (l : List Int), as.length = Ls.length → ownL (as ++ [a]) (Ls ++ [l]) = ownL as Ls ++ [(a, OD.lst (l.map fun n => iV n))]
  | [], [], _, _, _ => rfl
  | b :: as, L :: Ls, a, l, h => by
    show _ :: ownL (as ++ [a]) (Ls ++ [l]) = _ :: (ownL as Ls ++ _)
    rw [ownL_app a l (by simpa using h)]
  | [], _ :: _, _, _, h => absurd h (by simp)
  | _ :: _, [], _, _, h => absurd h (by simp)
theorem cv_rows {K : PySem.W.Frag} {f : Addr} {O : Own} : ∀ (as : List Addr) (Ls : List (List Int)) (us : List SD), as.length = Ls.length → Cv K ((f, .lst (us ++ as.map SD.ad)) :: (ownL as Ls ++ O)) ((f, .lst (us ++ Ls.map fun l => .dat (lI l))) :: O)
  | [], [], us, _ => Cv.refl
  | a :: as, L :: Ls, us, h => by
    have h1 : Cv K ((f, OD.lst (us ++ SD.ad a :: as.map SD.ad)) :: (a, OD.lst (L.map fun n => iV n)) :: (ownL as Ls ++ O)) ((f, OD.lst (us ++ .dat (lI L) :: as.map SD.ad)) :: (ownL as Ls ++ O)) := Cv.frzIn (Dats.ints L)
    have h2 := cv_rows (K := K) (f := f) (O := O) as Ls (us ++ [.dat (lI L)]) (by simpa using h)
    rw [List.append_assoc, List.append_assoc] at h2
    exact h1.trans h2
  | [], _ :: _, _, h => absurd h (by simp)
  | _ :: _, [], _, h => absurd h (by simp)
theorem lR_dats (T : List (List Int)) : Dats (T.map fun l => SD.dat (lI l)) (T.map fun r => lI r) := by
  have := Dats.map (T.map fun r => lI r)
  rw [List.map_map] at this
  exact this
abbrev s_law_inserted : Stmt := topS 26
theorem sc_law_inserted : FnScope ["rows", "letter", "row", "found", "greater", "old", "k"] ["rows", "letter"] (defScope s_law_inserted) := ⟨rfl, rfl, rfl, by decide +kernel, rfl, by decide +kernel, by decide +kernel⟩
set_option maxHeartbeats 4000000 in
theorem ok_law_inserted  (D : Def K mg "_law_inserted" s_law_inserted) (m_len : mg "len" = none) (m_list : mg "list" = none) (m_range : mg "range" = none) : Callee P w K mg base "_law_inserted" ["rows", "letter"] 1 pre_law_inserted := by
  obtain ⟨f, fd, F, hmg⟩ := D
  refine ⟨f, fd, fn_ok F sc_law_inserted len_law_inserted fun cdv A outer s H E hr => ⟨_, (pss_cons (ps_setLc (i := 3) (own := [("row", 2)]) (g := gName 2) rfl sc_law_inserted.nd rfl rfl (sw_true rfl rfl rfl (by decide +kernel)) (piL K (pv 0)) (blkOk_by (own := [("row", 2)]) (N := ["rows", "letter", "row", "found", "greater", "old", "k"]) (by first | (show blkC _ (defScope s_law_inserted) _ _ = true; decide +kernel) | kernel_rfl | rfl)) (fun _ _ _ _ _ => pg_name (i := 2) sc_law_inserted.nd rfl (by first | exact Or.inl rfl | exact Or.inr rfl)) (fun _ _ _ _ _ => pts_nil) (fun _ _ _ _ _ => (pe_callTy (kListOf K) (by rfl) m_list (by decide +kernel) (pa_cons (pv 2) pa_nil))))
      (pss_cons (ps_for PassesOwn.never rfl (piL K (pv 3)) (pg_name (i := 2) sc_law_inserted.nd rfl (.inr rfl)) (pss_cons (ps_setLc (i := 4) (own := [("k", 6)]) (g := gName 6) rfl sc_law_inserted.nd rfl rfl (sw_true rfl rfl rfl (by decide +kernel)) (pi_range1 (by rfl) m_range (pa_cons (pe_callB (kLen K) (by rfl) m_len PySem.boot_len (pa_cons (pv 2) pa_nil)) pa_nil)) (blkOk_by (own := [("k", 6)]) (N := ["rows", "letter", "row", "found", "greater", "old", "k"]) (by first | (show blkC _ (defScope s_law_inserted) _ _ = true; decide +kernel) | kernel_rfl | rfl)) (fun _ _ _ _ _ => pg_name (i := 6) sc_law_inserted.nd rfl (by first | exact Or.inl rfl | exact Or.inr rfl)) (fun _ _ _ _ _ => (pts_one (pt_cmpR op_gt (pe_ix (ixL K) (pv 2) (pv 6) (fun _ _ => rfl)) (pv 1) (nomark _)))) (fun _ _ _ _ _ => (pv 6)))
      (pss_cons (ps_if (pt_cmpR op_eq (pe_callB (kLen K) (by rfl) m_len PySem.boot_len (pa_cons (pv 4) pa_nil)) pe_int (nomark _)) (pss_cons (psApp K (ps_expr (pe_bm PySem.F.plainAttrs_list PySem.F.slot_list_append PySem.F.type_list_append mt_append (pv 2) (pa_cons (pv 1) pa_nil))))
      (pss_one (ps_ret (pv 3)))) pss_nil)
      (pss_cons (ps_set (i := 5) sc_law_inserted.nd rfl (.inl rfl) (pe_ix (ixL K) (pv 2) (pe_ix (ixL K) (pv 4) pe_int (fun _ _ => rfl)) (fun _ _ => rfl)))
      (pss_cons (ps_asg (pv 1) (pg_sub (pv 2) (pe_ix (ixL K) (pv 4) pe_int (fun _ _ => rfl)) set_list))
      (pss_one (ps_set (i := 1) sc_law_inserted.nd rfl (.inr rfl) (pv 5))))))))
      (pss_one (ps_ret (pe_op op_cat (pv 3) (pe_lst (pa_cons (pe_lst (pa_cons (pv 1) pa_nil)) pa_nil))))))), ?_⟩, hmg, F.kp, F.binds fun _ _ _ _ _ _ us hl => match us, hl with | [_, _], _ => rfl, Wk.Fun.lk F⟩
  intro rs O Q h
  obtain ⟨T, x, rfl, hTl, hTr, q⟩ := h
  show StW K _ O [.dat (lR T), iV x, .non, .non, .non, .non, .non] _
  refine s_seq (s_asg (w_lcL ?_))
  repeat' walk_at "e"
  have hTm : (T.map fun r => lI r).length = T.length := List.length_map ..
  refine ⟨by omega, fun i acc O2 => ∃ as : List Addr, acc = as.map SD.ad ∧ as.length = i ∧ i ≤ T.length ∧ O2 = (ownL as (T.take i)).reverse ++ O, ⟨[], rfl, rfl, Nat.zero_le _, rfl⟩, fun i d acc O2 hd hl hI => ?_, fun acc O2 Dl hI => ?_⟩
  · obtain ⟨as, rfl, hal, _, rfl⟩ := hI
    intro Dl
    obtain ⟨r, hr, rfl⟩ := map_get hd
    obtain ⟨hi, _⟩ := List.getElem?_eq_some_iff.mp hr
    refine t_yes ⟨fun _ => ?_, fun z => nomatch z⟩
    refine w_cb (w_cons (w_vD rfl (w_nil ?_)))
    refine g_listO .d fun l => ?_
    refine ⟨(l, OD.lst ((r.map PyData.int).map SD.dat)) :: ((ownL as (T.take i)).reverse ++ O), .swap .., as ++ [l], by rw [List.map_append]; rfl, by rw [List.length_append, hal]; rfl, hi, ?_⟩
    rw [take_next hr, ownL_app l r (by rw [hal, List.length_take]; omega), List.reverse_append, List.map_map]
    rfl
  obtain ⟨as, rfl, hal, _, rfl⟩ := hI
  rw [hTm] at hal
  rw [hTm, List.take_of_length_le (Nat.le_refl _)]
  refine s_cv (Cv.perm ((((List.reverse_perm (ownL as T)).append_right O).cons (Dl, OD.lst (as.map SD.ad))))) ?_
  refine s_seq (s_forOL ?_)
  repeat' walk_at "e"
  refine ⟨Dl, as.map SD.ad, rfl, fun n O2 ds2 => ∃ (fd : List (List Int)) (y : Int) (x2 x4 x5 : SD), InsAt T x n fd y ∧ n ≤ T.length ∧ O2 = (Dl, OD.lst (as.map SD.ad)) :: (ownL as (fd ++ T.drop n) ++ O) ∧ ds2 = [.dat (lR T), iV y, x2, .ad Dl, x4, x5, .non], fun n O2 ds2 hI => ?_, ⟨[], x, _, _, _, InsAt.zero T x, Nat.zero_le _, rfl, rfl⟩, fun n d O2 ds2 hd hI B hB => ?_, fun O2 ds2 hI => ?_⟩
  · obtain ⟨fd, y, x2, x4, x5, _, _, rfl, _⟩ := hI
    exact List.mem_cons_self
  · obtain ⟨fd, y, x2, x4, x5, hins, _, rfl, rfl⟩ := hI
    have hn : n < as.length := by
      have := (List.getElem?_eq_some_iff.mp hd).1
      rwa [List.length_map] at this
    have hnT : n < T.length := by omega
    obtain rfl : d = .ad as[n] := by
      rw [List.getElem?_map, List.getElem?_eq_getElem hn] at hd
      exact (Option.some.inj hd).symm
    have hfl : (fd ++ T.drop n).length = T.length := by
      rw [List.length_append, hins.len, List.length_drop]
      omega
    have hget : (fd ++ T.drop n)[n]? = some (T.getD n []) := by
      rw [List.getElem?_append_right (by rw [hins.len]; exact Nat.le_refl _), hins.len, Nat.sub_self, List.getElem?_drop, Nat.add_zero, List.getD_eq_getElem?_getD, List.getElem?_eq_getElem hnT]
      rfl
    have hat : (ownL as (fd ++ T.drop n))[n]? = some (as[n], OD.lst ((T.getD n []).map fun n => iV n)) := by
      rw [ownL_at hn (by rw [hfl]; exact hnT)]
      have := List.getElem?_eq_some_iff.mp hget
      rw [this.2]
    have hrl : (T.getD n []).length ≤ 1000 := hTr _ (getD_mem2 hnT [])
    have hp1 := perm_era hat
    have hset := ownL_set as (fd ++ T.drop n) n
    have hins2 := hins.set hnT
    have hat2 : ∀ l, (ownL as ((fd ++ T.drop n).set n l))[n]? = some (as[n], OD.lst (l.map fun n => iV n)) := fun l => by
      rw [ownL_at hn (by rw [List.length_set, hfl]; exact hnT), List.getElem_set_self]
    generalize has : as[n] = a at *
    generalize hrn : T.getD n [] = r at *
    generalize hE : (ownL as (fd ++ T.drop n)).eraseIdx n = Er at *
    have hback : ∀ l, ((a, OD.lst (l.map fun n => iV n)) :: (Dl, OD.lst (as.map SD.ad)) :: (Er ++ O)).Perm ((Dl, OD.lst (as.map SD.ad)) :: (ownL as (fd ++ [l] ++ T.drop (n + 1)) ++ O)) := fun l => by
      have h1 := perm_era (hat2 l)
      rw [hset l, hins2] at h1
      exact (List.Perm.swap ..).trans ((h1.symm.append_right O).cons _)
    refine s_cv (O' := (a, OD.lst (r.map fun n => iV n)) :: (Dl, OD.lst (as.map SD.ad)) :: (Er ++ O)) (Cv.perm ((((hp1.append_right O)).cons _).trans (.swap ..))) ?_
    refine s_seq (s_asg (w_frz (w_lc1 ?_)))
    repeat' walk_at "e"
    rw [List.length_map]
    refine ⟨by omega, by omega, fun k acc O3 => acc = (gtL r y k).map (fun z => iV z) ∧ O3 = (a, OD.lst (r.map fun n => iV n)) :: (Dl, OD.lst (as.map SD.ad)) :: (Er ++ O), ⟨rfl, rfl⟩, fun k acc O3 hk hl hJ => ?_, fun acc O3 Dl2 hJ => ?_⟩
    · obtain ⟨rfl, rfl⟩ := hJ
      intro Dl2
      have hk : k < r.length := by omega
      repeat' walk_at "e"
      refine g_nthO (List.mem_cons_of_mem _ List.mem_cons_self) (by omega) (by omega) ?_
      repeat' walk_at "e"
      · rename_i hd
        rw [Int.toNat_natCast] at hd
        refine ⟨_, .refl _, ?_, rfl⟩
        have e : gtL r y (k + 1) = gtL r y k ++ [(k : Int)] := by
          show gtL r y k ++ (if y < r.getD k 0 then [(k : Int)] else []) = _
          rw [if_pos hd]
        rw [e, List.map_append]
        rfl
      · rename_i hd
        rw [Int.toNat_natCast] at hd
        refine ⟨_, .refl _, ?_, rfl⟩
        have e : gtL r y (k + 1) = gtL r y k := by
          show gtL r y k ++ (if y < r.getD k 0 then [(k : Int)] else []) = _
          rw [if_neg hd, List.append_nil]
        rw [e]
    obtain ⟨rfl, rfl⟩ := hJ
    rw [Int.toNat_natCast]
    refine ⟨Dl2, _, _, _, rfl, .refl _, Dats.ints _, ?_⟩
    by_cases hf : fg r y = r.length
    · have hG : gtL r y r.length = [] := gtL_none (by omega)
      have hfull := hins.full hnT (by rw [hrn]; exact hf)
      rw [hrn] at hfull
      rw [hG]
      refine s_seq (s_if ?_)
      repeat' walk_at "e"
      · refine s_seq (s_drop (w_bm ?_))
        repeat' walk_at "e"
        have e : (r.map fun n => iV n) ++ [iV y] = (r ++ [y]).map fun n => iV n := by rw [List.map_append]; rfl
        rw [e]
        refine s_cv (Cv.perm (hback (r ++ [y]))) ?_
        have hll : as.length = (fd ++ [r ++ [y]] ++ T.drop (n + 1)).length := by
          rw [← hins2, List.length_set, hfl, hal]
        refine s_cv (cv_rows as (fd ++ [r ++ [y]] ++ T.drop (n + 1)) [] hll) ?_
        refine s_frz (i := 3) rfl (.refl _) (lR_dats _) ?_
        refine s_ret ?_
        repeat' walk_at "e"
        rw [hfull] at q
        exact hB.rt _ _ q
      · rename_i hd
        exact absurd rfl hd
    · have hlt : fg r y < r.length := by have := fg_le r y; omega
      obtain ⟨tl, hG⟩ := gtL_some hlt hlt
      have hnext := hins.next hnT (by rw [hrn]; exact hlt)
      rw [hrn] at hnext
      have hGl := gtL_len r y r.length
      rw [hG] at hGl
      rw [hG]
      refine s_seq (s_if ?_)
      repeat' walk_at "e"
      · rename_i hd
        exfalso
        rw [List.length_map, List.length_cons] at hd
        omega
      with_reducible refine s_next ?_
      refine s_seq (s_asg ?_)
      repeat' walk_at "e"
      have eg0 : ((fg r y : Int) :: tl).getD (Int.toNat 0) 0 = (fg r y : Int) := rfl
      rw [eg0]
      refine g_nthO List.mem_cons_self (by omega) (by omega) ?_
      rw [Int.toNat_natCast]
      refine s_seq (s_setL ?_)
      repeat' walk_at "e"
      rw [eg0]
      refine ⟨a, _, _, fg r y, _, _, rfl, rfl, .refl _, ?_, .refl _, ?_⟩
      · rw [List.length_map]
        unfold ixN
        rw [if_pos (by omega), if_pos (by omega), Int.toNat_natCast]
      have e : (r.map fun n => iV n).set (fg r y) (iV y) = (r.set (fg r y) y).map fun n => iV n := by rw [List.map_set]
      rw [e]
      refine s_cv (Cv.perm (hback (r.set (fg r y) y))) ?_
      refine s_asg ?_
      repeat' walk_at "e"
      exact hB.nx _ _ ⟨_, _, _, _, _, hnext, hnT, rfl, rfl⟩
  obtain ⟨fd, y, x2, x4, x5, hins, _, rfl, rfl⟩ := hI
  have hins2 := hins
  rw [List.length_map, hal] at hins2
  have hdone := hins2.done
  rw [List.length_map, hal, List.drop_eq_nil_of_le (Nat.le_refl _), List.append_nil]
  refine s_cv (cv_rows as fd [] (by rw [hal, hins2.len])) ?_
  refine s_frz (i := 3) rfl (.refl _) (lR_dats _) ?_
  rw [hdone] at q
  have hfl := hins2.len
  refine s_ret ?_
  repeat' walk_at "e"
  have e : fd.map (fun r => lI r) ++ [PyData.list [PyData.int y]] = (fd ++ [[y]]).map fun r => lI r := by
    rw [List.map_append]
    rfl
  rw [e]
  exact q
def pre_size : Pre := fun rs O Q => ∃ T : List (List Int), rs = [.dat (tS T)] ∧ T.length ≤ 100000 ∧ Q (iV (szT T : Nat)) O
theorem len_size (rs : List SD) (O : Own) (Q : SD → Own → Prop) (h : pre_size rs O Q) : rs.length = 1 := by
  obtain ⟨T, rfl, _⟩ := h
  rfl
theorem lens_sum (T : List (List Int)) : (T.map fun r => (r.length : Int)).sum = (szT T : Nat) := by
  induction T with
  | nil => rfl
  | cons r t ih =>
    rw [List.map_cons, List.sum_cons, ih]
    show _ = (((r.length + szT t : Nat)) : Int)
    omega
local macro_rules | `(tactic| walk_at "e") => `(tactic| ((with_reducible show pre_size _ _ _); refine ⟨_, rfl, by omega, ?_⟩))
abbrev s_size : Stmt := topS 13
theorem sc_size : FnScope ["rows", "row"] ["rows"] (defScope s_size) := ⟨rfl, rfl, rfl, by decide +kernel, rfl, by decide +kernel, by decide +kernel⟩
set_option maxHeartbeats 4000000 in
theorem ok_size  (D : Def K mg "_size" s_size) (m_len : mg "len" = none) (m_sum : mg "sum" = none) : Callee P w K mg base "_size" ["rows"] 1 pre_size := by
  obtain ⟨f, fd, F, hmg⟩ := D
  refine ⟨f, fd, fn_ok F sc_size len_size fun cdv A outer s H E hr => ⟨_, (pss_one (ps_ret (pe_callB (kSum K rfl) (by rfl) m_sum (by decide +kernel) (pa_cons (pe_lc (own := [("row", 1)]) (g := gName 1) rfl sc_size.nd (piT K (pv 0)) (blkOk_by (own := [("row", 1)]) (N := ["rows", "row"]) (by first | (show blkC _ (defScope s_size) _ _ = true; decide +kernel) | kernel_rfl | rfl)) (fun _ _ _ _ _ => pg_name (i := 1) sc_size.nd rfl (by first | exact Or.inl rfl | exact Or.inr rfl)) (fun _ _ _ _ _ => pts_nil) (fun _ _ _ _ _ => (pe_callB (kLen K) (by rfl) m_len PySem.boot_len (pa_cons (pv 1) pa_nil)))) pa_nil)))), ?_⟩, hmg, F.kp, F.binds fun _ _ _ _ _ _ us hl => match us, hl with | [_], _ => rfl, Wk.Fun.lk F⟩
  intro rs O Q h
  obtain ⟨T, rfl, hn, q⟩ := h
  show StW K _ O [.dat (tS T), .non] _
  refine s_ret (w_cb (w_cons (w_frz (w_lcT ?_))))
  repeat' walk_at "e"
  refine ⟨by rw [List.length_map]; omega, fun i acc O2 => acc = ((T.take i).map fun r => (r.length : Int)).map (fun n => iV n) ∧ O2 = O, ⟨rfl, rfl⟩, fun i d acc O2 hd hl hI Dl => ?_, fun acc O2 Dl hI => ?_⟩
  · obtain ⟨rfl, rfl⟩ := hI
    obtain ⟨v, hv, rfl⟩ := map_get hd
    repeat' walk_at "e"
    refine ⟨_, .refl _, ?_, rfl⟩
    rw [take_next hv, List.map_append, List.map_append, List.length_map]
    rfl
  · obtain ⟨rfl, rfl⟩ := hI
    refine ⟨Dl, _, _, _, rfl, .refl _, Dats.ints _, ?_⟩
    rw [List.length_map, List.take_length]
    repeat' walk_at "e"
    rw [lens_sum]
    exact q
def pre_is_row : Pre := fun rs O Q => ∃ r : List Int, rs = [.dat (tI r)] ∧ r.length ≤ 100000 ∧ ∀ b : Bool, (b = true ↔ IsRow r) → Q (bV b) O
theorem len_is_row (rs : List SD) (O : Own) (Q : SD → Own → Prop) (h : pre_is_row rs O Q) : rs.length = 1 := by
  obtain ⟨T, rfl, _⟩ := h
  rfl
local macro_rules | `(tactic| walk_at "e") => `(tactic| ((with_reducible show pre_is_row _ _ _); refine ⟨_, rfl, by omega, ?_⟩; intro _ _))
abbrev s_is_row : Stmt := topS 14
theorem sc_is_row : FnScope ["row", "least", "letter"] ["row"] (defScope s_is_row) := ⟨rfl, rfl, rfl, by decide +kernel, rfl, by decide +kernel, by decide +kernel⟩
set_option maxHeartbeats 4000000 in
theorem ok_is_row  (D : Def K mg "_is_row" s_is_row) (m_len : mg "len" = none) {t_GREATEST_LETTER : Tok} (m_GREATEST_LETTER : mg "GREATEST_LETTER" = some (.int 60 t_GREATEST_LETTER)) : Callee P w K mg base "_is_row" ["row"] 1 pre_is_row := by
  obtain ⟨f, fd, F, hmg⟩ := D
  refine ⟨f, fd, fn_ok F sc_is_row len_is_row fun cdv A outer s H E hr => ⟨_, (pss_cons (ps_if (pt_cmpR op_eq (pe_callB (kLen K) (by rfl) m_len PySem.boot_len (pa_cons (pv 0) pa_nil)) pe_int (nomark _)) (pss_one (ps_ret pe_bl)) pss_nil)
      (pss_cons (ps_set (i := 1) sc_is_row.nd rfl (.inl rfl) pe_int)
      (pss_cons (ps_for PassesOwn.never rfl (piT K (pv 0)) (pg_name (i := 2) sc_is_row.nd rfl (.inl rfl)) (pss_cons (ps_if (PW.pt (pw_or (pt_cmpR op_lt (pv 2) (pv 1) (nomark _)) (pw_or1 (pt_cmpR op_gt (pv 2) (pe_glob (v := .int 60) rfl m_GREATEST_LETTER ⟨_, rfl⟩) (nomark _))))) (pss_one (ps_ret pe_bl)) pss_nil)
      (pss_one (ps_set (i := 1) sc_is_row.nd rfl (.inl rfl) (pv 2)))))
      (pss_one (ps_ret pe_bl))))), ?_⟩, hmg, F.kp, F.binds fun _ _ _ _ _ _ us hl => match us, hl with | [_], _ => rfl, Wk.Fun.lk F⟩
  intro rs O Q h
  obtain ⟨r, rfl, hn, q⟩ := h
  show StW K _ O [.dat (tI r), .non, .non] _
  walk_at "w"
  walk_at "w"
  repeat' walk_at "e"
  · rename_i hd
    rw [List.length_map] at hd
    repeat' walk_at "w"
    exact q false ⟨fun z => (nomatch z), fun z => absurd (List.length_eq_zero_iff.mp (by omega)) z.1⟩
  rename_i hd
  rw [List.length_map] at hd
  with_reducible refine s_next ?_
  repeat' walk_at "w"
  refine s_forT ?_
  repeat' walk_at "e"
  refine ⟨fun i O2 ds2 => ∃ (a : SD) (m : Int), RowTo r i ∧ (0 < i → m = r.getD (i - 1) 0) ∧ (i = 0 → m = 1) ∧ O2 = O ∧ ds2 = [.dat (tI r), iV m, a], ⟨_, 1, fun _ h => absurd h (Nat.not_lt_zero _), fun h => absurd h (Nat.lt_irrefl _), fun _ => rfl, rfl, rfl⟩, fun i d O2 ds2 hd hI B hB => ?_, fun O2 ds2 hI => ?_⟩
  · obtain ⟨a, m, h1, h2, h3, rfl, rfl⟩ := hI
    obtain ⟨v, hv, rfl⟩ := map_get hd
    obtain ⟨hi, _⟩ := List.getElem?_eq_some_iff.mp hv
    have ev : r.getD i 0 = v := by rw [List.getD_eq_getElem?_getD, hv]; rfl
    have hbad : ¬ ((1 ≤ v ∧ v ≤ 60) ∧ (0 < i → r.getD (i - 1) 0 ≤ v)) → B.rt (bV false) O2 := fun hb => by
      refine hB.rt _ _ (q false ⟨fun z => (nomatch z), fun z => ?_⟩)
      have := RowTo.of z.2.1 z.2.2 i hi
      rw [ev] at this
      exact (hb this).elim
    have hm : 1 ≤ m := by
      rcases Nat.eq_zero_or_pos i with e | hp
      · rw [h3 e]
        omega
      · rw [h2 hp]
        exact (h1 (i - 1) (by omega)).1.1
    have hmv : (0 < i → r.getD (i - 1) 0 ≤ v) ↔ (i = 0 ∨ m ≤ v) := by
      constructor
      · intro h
        rcases Nat.eq_zero_or_pos i with e | hp
        · exact .inl e
        · exact .inr (by rw [h2 hp]; exact h hp)
      · rintro (e | h) hp
        · omega
        · rw [← h2 hp]
          exact h
    repeat' walk_at "w"
    · rename_i hx
      refine hbad fun z => ?_
      rcases hmv.mp z.2 with e | h
      · have := h3 e
        omega
      · omega
    · rename_i hx
      exact hbad fun z => by omega
    · rename_i hx hy
      refine hB.nx _ _ ⟨_, v, fun j hj => ?_, fun _ => by rw [show i + 1 - 1 = i from rfl, ev], fun z => absurd z (Nat.succ_ne_zero _), rfl, rfl⟩
      rcases Nat.lt_or_ge j i with z | z
      · exact h1 j z
      · have e : j = i := by omega
        subst e
        rw [ev]
        exact ⟨by omega, hmv.mpr (.inr (by omega))⟩
  · obtain ⟨a, m, h1, h2, h3, rfl, rfl⟩ := hI
    rw [List.length_map] at h1
    repeat' walk_at "w"
    refine q true ⟨fun _ => ⟨fun z => ?_, h1.all.1, h1.all.2⟩, fun _ => rfl⟩
    rw [z] at hd
    exact hd rfl
def pre_fits_below : Pre := fun rs O Q => ∃ r s : List Int, rs = [.dat (tI r), .dat (tI s)] ∧ r.length ≤ 100000 ∧ s.length ≤ 100000 ∧ ∀ b : Bool, (b = true ↔ Fit s r) → Q (bV b) O
theorem len_fits_below (rs : List SD) (O : Own) (Q : SD → Own → Prop) (h : pre_fits_below rs O Q) : rs.length = 2 := by
  obtain ⟨T, s, rfl, _⟩ := h
  rfl
local macro_rules | `(tactic| walk_at "e") => `(tactic| ((with_reducible show pre_fits_below _ _ _); refine ⟨_, _, rfl, by omega, by omega, ?_⟩; intro _ _))
abbrev s_fits_below : Stmt := topS 15
theorem sc_fits_below : FnScope ["row", "above", "letter", "over"] ["row", "above"] (defScope s_fits_below) := ⟨rfl, rfl, rfl, by decide +kernel, rfl, by decide +kernel, by decide +kernel⟩
set_option maxHeartbeats 4000000 in
theorem ok_fits_below  (D : Def K mg "_fits_below" s_fits_below) (m_len : mg "len" = none) (m_zip : mg "zip" = none) : Callee P w K mg base "_fits_below" ["row", "above"] 1 pre_fits_below := by
  obtain ⟨f, fd, F, hmg⟩ := D
  refine ⟨f, fd, fn_ok F sc_fits_below len_fits_below fun cdv A outer s H E hr => ⟨_, (pss_cons (ps_if (pt_cmpR op_gt (pe_callB (kLen K) (by rfl) m_len PySem.boot_len (pa_cons (pv 0) pa_nil)) (pe_callB (kLen K) (by rfl) m_len PySem.boot_len (pa_cons (pv 1) pa_nil)) (nomark _)) (pss_one (ps_ret pe_bl)) pss_nil)
      (pss_cons (ps_for PassesOwn.never rfl (pi_zipT K (by rfl) m_zip (pa_cons (pv 0) (pa_cons (pv 1) pa_nil))) (pgTup K rfl (pgs_cons (pg_name (i := 2) sc_fits_below.nd rfl (.inl rfl)) (pgs_cons (pg_name (i := 3) sc_fits_below.nd rfl (.inl rfl)) pgs_nil))) (pss_one (ps_if (pt_cmpR op_le (pv 2) (pv 3) (nomark _)) (pss_one (ps_ret pe_bl)) pss_nil)))
      (pss_one (ps_ret pe_bl)))), ?_⟩, hmg, F.kp, F.binds fun _ _ _ _ _ _ us hl => match us, hl with | [_, _], _ => rfl, Wk.Fun.lk F⟩
  intro rs O Q h
  obtain ⟨r, s, rfl, hn, hn2, q⟩ := h
  show StW K _ O [.dat (tI r), .dat (tI s), .non, .non] _
  walk_at "w"
  walk_at "w"
  repeat' walk_at "e"
  · rename_i hd
    simp only [List.length_map] at hd
    repeat' walk_at "w"
    exact q false ⟨fun z => (nomatch z), fun z => absurd z.1 (by omega)⟩
  rename_i hd
  simp only [List.length_map] at hd
  have hd2 : r.length ≤ s.length := by omega
  with_reducible refine s_next ?_
  refine s_seq (s_forZT ?_)
  repeat' walk_at "e"
  refine ⟨_, _, rfl, fun i O2 ds2 => ∃ (a b : SD), (∀ j, j < i → s.getD j 0 < r.getD j 0) ∧ O2 = O ∧ ds2 = [.dat (tI r), .dat (tI s), a, b], ⟨_, _, fun _ h => absurd h (Nat.not_lt_zero _), rfl, rfl⟩, fun i d e O2 ds2 hd he hI B hB => ?_, fun O2 ds2 hI => ?_⟩
  · obtain ⟨a, b, h1, rfl, rfl⟩ := hI
    obtain ⟨v, hv, rfl⟩ := map_get hd
    obtain ⟨u, hu, rfl⟩ := map_get he
    obtain ⟨hi, _⟩ := List.getElem?_eq_some_iff.mp hv
    have ev : r.getD i 0 = v := by rw [List.getD_eq_getElem?_getD, hv]; rfl
    have eu : s.getD i 0 = u := by rw [List.getD_eq_getElem?_getD, hu]; rfl
    repeat' walk_at "w"
    · rename_i hx
      refine hB.rt _ _ (q false ⟨fun z => (nomatch z), fun z => ?_⟩)
      have := z.2 i hi
      omega
    · rename_i hx
      refine hB.nx _ _ ⟨_, _, fun j hj => ?_, rfl, rfl⟩
      rcases Nat.lt_or_ge j i with z | z
      · exact h1 j z
      · have e : j = i := by omega
        subst e
        omega
  · obtain ⟨a, b, h1, rfl, rfl⟩ := hI
    repeat' walk_at "w"
    refine q true ⟨fun _ => ⟨hd2, fun j hj => h1 j ?_⟩, fun _ => rfl⟩
    rw [List.length_map, List.length_map]
    omega
def pre_is_tableau : Pre := fun rs O Q => ∃ T : List (List Int), rs = [.dat (tS T)] ∧ Sm 90000 90000 T ∧ ∀ b : Bool, (b = true ↔ TabOk T) → Q (bV b) O
theorem len_is_tableau (rs : List SD) (O : Own) (Q : SD → Own → Prop) (h : pre_is_tableau rs O Q) : rs.length = 1 := by
  obtain ⟨T, rfl, _⟩ := h
  rfl
local macro_rules | `(tactic| walk_at "e") => `(tactic| ((with_reducible show pre_is_tableau _ _ _); refine ⟨_, rfl, by assumption, ?_⟩; intro _ _))
abbrev s_is_tableau : Stmt := topS 12
theorem sc_is_tableau : FnScope ["rows", "r", "row"] ["rows"] (defScope s_is_tableau) := ⟨rfl, rfl, rfl, by decide +kernel, rfl, by decide +kernel, by decide +kernel⟩
set_option maxHeartbeats 4000000 in
theorem ok_is_tableau  (D : Def K mg "is_tableau" s_is_tableau) (C_size : Callee P w K mg base "_size" ["rows"] 1 pre_size) (C_is_row : Callee P w K mg base "_is_row" ["row"] 1 pre_is_row) (C_fits_below : Callee P w K mg base "_fits_below" ["row", "above"] 1 pre_fits_below) (m_enumerate : mg "enumerate" = none) {t_MOST_LETTERS : Tok} (m_MOST_LETTERS : mg "MOST_LETTERS" = some (.int 200 t_MOST_LETTERS)) : Callee P w K mg base "is_tableau" ["rows"] 2 pre_is_tableau := by
  obtain ⟨f, fd, F, hmg⟩ := D
  obtain ⟨f_size, fd_size, G_size, g_size, kp_size, b_size, _⟩ := C_size
  obtain ⟨f_is_row, fd_is_row, G_is_row, g_is_row, kp_is_row, b_is_row, _⟩ := C_is_row
  obtain ⟨f_fits_below, fd_fits_below, G_fits_below, g_fits_below, kp_fits_below, b_fits_below, _⟩ := C_fits_below
  refine ⟨f, fd, fn_ok F sc_is_tableau len_is_tableau fun cdv A outer s H E hr => ⟨_, (pss_cons (ps_if (pt_cmpR op_gt (pe_call G_size (hr.mono (by decide)) (by rfl) g_size kp_size b_size .nil pass0 (pa_cons (pv 0) pa_nil)) (pe_glob (v := .int 200) rfl m_MOST_LETTERS ⟨_, rfl⟩) (nomark _)) (pss_one (ps_ret pe_bl)) pss_nil)
      (pss_cons (ps_for PassesOwn.never rfl (pi_enumT K (by rfl) m_enumerate (pa_cons (pv 0) pa_nil)) (pgTup K rfl (pgs_cons (pg_name (i := 1) sc_is_tableau.nd rfl (.inl rfl)) (pgs_cons (pg_name (i := 2) sc_is_tableau.nd rfl (.inl rfl)) pgs_nil))) (pss_cons (ps_if (pt_not (pt_val (pe_call G_is_row (hr.mono (by decide)) (by rfl) g_is_row kp_is_row b_is_row .nil pass0 (pa_cons (pv 2) pa_nil)))) (pss_one (ps_ret pe_bl)) pss_nil)
      (pss_one (ps_if (PW.pt (pw_and (pt_cmpR op_gt (pv 1) pe_int (nomark _)) (pw_and1 (pt_not (pt_val (pe_call G_fits_below (hr.mono (by decide)) (by rfl) g_fits_below kp_fits_below b_fits_below .nil pass0 (pa_cons (pv 2) (pa_cons (pe_ix (ixT K) (pv 0) (pe_op op_sub (pv 1) pe_int) (fun _ _ => rfl)) pa_nil)))))))) (pss_one (ps_ret pe_bl)) pss_nil))))
      (pss_one (ps_ret pe_bl)))), ?_⟩, hmg, F.kp, F.binds fun _ _ _ _ _ _ us hl => match us, hl with | [_], _ => rfl, Wk.Fun.lk F⟩
  intro rs O Q h
  obtain ⟨T, rfl, hT, q⟩ := h
  have hT1 := hT.len
  show StW K _ O [.dat (tS T), .non, .non] _
  walk_at "w"
  walk_at "w"
  repeat' walk_at "e"
  · rename_i hd
    repeat' walk_at "w"
    exact q false ⟨fun z => (nomatch z), fun z => absurd z.2.2 (by omega)⟩
  rename_i hsz
  with_reducible refine s_next ?_
  refine s_seq (s_forET ?_)
  repeat' walk_at "e"
  refine ⟨fun i O2 ds2 => ∃ (a b : SD), (∀ j, j < i → RowGood T j) ∧ O2 = O ∧ ds2 = [.dat (tS T), a, b], ⟨_, _, fun _ h => absurd h (Nat.not_lt_zero _), rfl, rfl⟩, fun i d O2 ds2 hd hI B hB => ?_, fun O2 ds2 hI => ?_⟩
  · obtain ⟨a, b, h1, rfl, rfl⟩ := hI
    obtain ⟨v, hv, rfl⟩ := map_get hd
    obtain ⟨hi, _⟩ := List.getElem?_eq_some_iff.mp hv
    have ev : T.getD i [] = v := by rw [List.getD_eq_getElem?_getD, hv]; rfl
    have hvl := hT.get i
    rw [ev] at hvl
    have hbad : ¬ RowGood T i → B.rt (bV false) O2 := fun hb => by
      refine hB.rt _ _ (q false ⟨fun z => (nomatch z), fun z => ?_⟩)
      exact (hb (((tabOk_iff T).mp z).1 i hi)).elim
    have hgood : IsRow v → (0 < i → Fit (T.getD (i - 1) []) v) → ∃ (a b : SD), (∀ j, j < i + 1 → RowGood T j) ∧ O2 = O2 ∧ [SD.dat (tS T), iV (i : Int), .dat (tI v)] = [.dat (tS T), a, b] := fun g1 g2 => ⟨_, _, fun j hj => by
      rcases Nat.lt_or_ge j i with z | z
      · exact h1 j z
      · have e : j = i := by omega
        subst e
        unfold RowGood
        rw [ev]
        exact ⟨g1, g2⟩, rfl, rfl⟩
    have hpl := hT.get ((i : Int) - 1).toNat
    have eq1 : ((i : Int) - 1).toNat = i - 1 := by omega
    repeat' walk_at "w"
    · rename_i b hb hx
      refine hbad fun z => ?_
      unfold RowGood at z
      rw [ev] at z
      have : b = false := by simpa using hx
      rw [hb.mpr z.1] at this
      cases this
    · rename_i b hb hx hp b2 hb2 hx2
      rw [eq1] at hb2
      refine hbad fun z => ?_
      unfold RowGood at z
      rw [ev] at z
      have : b2 = false := by simpa using hx2
      rw [hb2.mpr (z.2 (by omega))] at this
      cases this
    · rename_i b hb hx hp b2 hb2 hx2
      rw [eq1] at hb2
      have : b = true := by simpa using hx
      have h2 : b2 = true := by simpa using hx2
      exact hB.nx _ _ (hgood (hb.mp this) fun _ => hb2.mp h2)
    · rename_i b hb hx hp
      have : b = true := by simpa using hx
      exact hB.nx _ _ (hgood (hb.mp this) fun z => absurd z (by omega))
  · obtain ⟨a, b, h1, rfl, rfl⟩ := hI
    rw [List.length_map] at h1
    repeat' walk_at "w"
    exact q true ⟨fun _ => (tabOk_iff T).mpr ⟨h1, by omega⟩, fun _ => rfl⟩
def pre_content_of (C : Addr) : PreX := fun rs O Q Qx => ∃ (T : List (List Int)) (n : Nat), rs = [.dat (tS T), iV (n : Int)] ∧ Sm 1000 1000 T ∧ n ≤ 1000 ∧ szT T ≤ 1000 ∧ (∀ r ∈ T, ∀ v ∈ r, 1 ≤ v ∧ v ≤ 1000000) ∧ ((∃ r ∈ T, ∃ v ∈ r, (n : Int) < v) → Qx C none O) ∧ ((∀ r ∈ T, ∀ v ∈ r, v ≤ (n : Int)) → Q (.dat (tI (cntT T n))) O)
theorem len_content_of {C : Addr} (rs : List SD) (O : Own) (Q : SD → Own → Prop) (Qx : Addr → Option (Str × PyData) → Own → Prop) (h : pre_content_of C rs O Q Qx) : rs.length = 2 := by
  obtain ⟨mu, nu, rfl, _⟩ := h
  rfl
theorem rep_fl1 {α : Type} (k : Nat) (x : α) : (List.replicate k [x]).flatten = List.replicate k x := by
  induction k with
  | zero => rfl
  | succ k ih => rw [List.replicate_succ, List.flatten_cons, ih, List.replicate_succ]; rfl
theorem take_flat {T : List (List Int)} {i : Nat} {r : List Int} (h : T[i]? = some r) : (T.take (i + 1)).flatten = (T.take i).flatten ++ r := by
  rw [take_next h, List.flatten_append, List.flatten_singleton]
abbrev s_content_of : Stmt := topS 4
theorem sc_content_of : FnScope ["tableau", "letters", "counts", "row", "letter"] ["tableau", "letters"] (defScope s_content_of) := ⟨rfl, rfl, rfl, by decide +kernel, rfl, by decide +kernel, by decide +kernel⟩
set_option maxHeartbeats 4000000 in
theorem ok_content_of  {C_LetterTooGreat : Addr} (D : Def K mg "content_of" s_content_of) (m_tuple : mg "tuple" = none) (N_LetterTooGreat : ExN K mg "LetterTooGreat" C_LetterTooGreat) : CalleeX P w K mg base "content_of" ["tableau", "letters"] 1 (pre_content_of C_LetterTooGreat) := by
  obtain ⟨f, fd, F, hmg⟩ := D
  refine ⟨f, fd, fnx_ok F sc_content_of len_content_of fun cdv A outer s H E hr => ⟨_, (pss_cons (ps_set (i := 2) sc_content_of.nd rfl (.inl rfl) (pe_op op_rep (pe_lst (pa_cons pe_int pa_nil)) (pv 1)))
      (pss_cons (ps_for (passes_of rfl) rfl (piT K (pv 0)) (pg_name (i := 3) sc_content_of.nd rfl (.inl rfl)) (pss_one (ps_for (passes_of rfl) rfl (piT K (pv 3)) (pg_name (i := 4) sc_content_of.nd rfl (.inl rfl)) (pss_cons (ps_if (pt_cmpR op_gt (pv 4) (pv 1) (nomark _)) (pss_one (psRz1 (K := K) N_LetterTooGreat rfl (by exact takes_of rfl rfl rfl rfl : Takes _ (wE E)) rfl (psJf (.cons pe_str (.cons (pe_fmt (pv 4)) (.cons pe_str (.cons (pe_fmt (pv 1)) .nil))))))) pss_nil)
      (pss_one (ps_augS (pv 2) (pe_op op_sub (pv 4) pe_int) (pget_list K) pe_int ip_add set_list))))))
      (pss_one (ps_ret (pe_callTy (kTupOf K) (by rfl) m_tuple (by decide +kernel) (pa_cons (pv 2) pa_nil)))))), ?_⟩, hmg, F.kp, F.binds fun _ _ _ _ _ _ us hl => match us, hl with | [_, _], _ => rfl, Wk.Fun.lk F⟩
  intro rs O Q Qx h
  obtain ⟨T, n, rfl, hT, hn, hsz, hlet, qx, q⟩ := h
  have hT1 := hT.len
  show StW K _ O [.dat (tS T), iV (n : Int), .non, .non, .non] _
  refine s_seq (s_asg ?_)
  repeat' walk_at "e"
  refine g_repO .d (by omega) (by omega) (by decide) fun p => ?_
  rw [Int.toNat_natCast, rep_fl1]
  refine s_seq (s_forT ?_)
  repeat' walk_at "e"
  refine ⟨fun i O2 ds2 => ∃ x y : SD, (∀ r ∈ T.take i, ∀ v ∈ r, v ≤ (n : Int)) ∧ O2 = (p, .lst ((cntW (T.take i).flatten n).map fun z => iV z)) :: O ∧ ds2 = [.dat (tS T), iV (n : Int), .ad p, x, y], ⟨_, _, fun _ h => absurd h List.not_mem_nil, ?_, rfl⟩, fun i d O2 ds2 hd hI B hB => ?_, fun O2 ds2 hI => ?_⟩
  · rw [List.take_zero, show ([] : List (List Int)).flatten = [] from rfl, cntW_nil, List.map_replicate, List.map_replicate]
  · obtain ⟨x, y, h1, rfl, rfl⟩ := hI
    obtain ⟨r, hr, rfl⟩ := map_get hd
    have hrm := List.mem_of_getElem? hr
    refine s_forT ?_
    repeat' walk_at "e"
    refine ⟨fun j O3 ds3 => ∃ y : SD, (∀ v ∈ r.take j, v ≤ (n : Int)) ∧ O3 = (p, .lst ((cntW ((T.take i).flatten ++ r.take j) n).map fun z => iV z)) :: O ∧ ds3 = [.dat (tS T), iV (n : Int), .ad p, .dat (tI r), y], ⟨_, fun _ h => absurd h List.not_mem_nil, ?_, rfl⟩, fun j d O3 ds3 hd2 hI C hC => ?_, fun O3 ds3 hI => ?_⟩
    · rw [List.take_zero, List.append_nil]
    · obtain ⟨y, h2, rfl, rfl⟩ := hI
      obtain ⟨v, hv, rfl⟩ := map_get hd2
      have hvm := List.mem_of_getElem? hv
      have hvb := hlet r hrm v hvm
      refine s_seq (s_if ?_)
      repeat' walk_at "e"
      · rename_i hgt
        refine s_cv (Cv.sub (List.sublist_cons_self ..)) ?_
        refine s_rz1 (fun Hk hx => (hB.xt Hk (hC.xt Hk hx))) ?_
        repeat' walk_at "e"
        exact fun _ => qx ⟨r, hrm, v, hvm, by omega⟩
      · rename_i hgt
        with_reducible refine s_next ?_
        refine s_augL ?_
        repeat' walk_at "e"
        have hi : (v - 1).toNat < n := by omega
        refine ⟨p, v - 1, (cntW ((T.take i).flatten ++ r.take j) n).getD (v - 1).toNat 0, _, rfl, rfl, List.mem_cons_self, by omega, ?_, ?_⟩
        · rw [List.getElem?_map, List.getD_eq_getElem?_getD, List.getElem?_eq_getElem (by rw [cntW_len]; exact hi)]
          rfl
        repeat' walk_at "e"
        refine ⟨_, _, _, rfl, .refl _, .refl _, hC.nx _ _ ⟨_, fun u hu => ?_, ?_, rfl⟩⟩
        · rw [take_next hv] at hu
          rcases List.mem_append.mp hu with hu | hu
          · exact h2 u hu
          · rw [List.mem_singleton.mp hu]
            omega
        · rw [take_next hv, ← List.append_assoc, cntW_snoc hvb.1 (by omega), List.map_set]
    · obtain ⟨y, h2, rfl, rfl⟩ := hI
      rw [List.length_map, List.take_length] at h2
      refine hB.nx _ _ ⟨_, _, fun s hs => ?_, ?_, rfl⟩
      · rw [take_next hr] at hs
        rcases List.mem_append.mp hs with hs | hs
        · exact h1 s hs
        · rw [List.mem_singleton.mp hs]
          exact h2
      · rw [List.length_map, List.take_length, take_flat hr]
  obtain ⟨x, y, h1, rfl, rfl⟩ := hI
  rw [List.length_map, List.take_length] at h1
  rw [List.length_map, List.take_length]
  refine s_ret (w_cv ?_)
  repeat' walk_at "e"
  refine g_tup (es := (cntW T.flatten n).map PyData.int) (.o List.mem_cons_self (Dats.ints _)) ?_
  exact ⟨O, Cv.sub (List.sublist_cons_self ..), q h1⟩
def pre_law_content : Pre := fun rs O Q => ∃ (T : List (List Int)) (n : Nat), rs = [.dat (tS T), iV (n : Int)] ∧ Sm 1000 1000 T ∧ n ≤ 1000 ∧ szT T ≤ 1000 ∧ (∀ r ∈ T, ∀ v ∈ r, 1 ≤ v ∧ v ≤ 1000000) ∧ ((∃ r ∈ T, ∃ v ∈ r, (n : Int) < v) → Q (.dat .none) O) ∧ ((∀ r ∈ T, ∀ v ∈ r, v ≤ (n : Int)) → Q (.dat (tI (cntT T n))) O)
theorem len_law_content (rs : List SD) (O : Own) (Q : SD → Own → Prop) (h : pre_law_content rs O Q) : rs.length = 2 := by
  obtain ⟨mu, nu, rfl, _⟩ := h
  rfl
abbrev s_law_content : Stmt := topS 24
theorem sc_law_content : FnScope ["tableau", "letters", "e"] ["tableau", "letters"] (defScope s_law_content) := ⟨rfl, rfl, rfl, by decide +kernel, rfl, by decide +kernel, by decide +kernel⟩
set_option maxHeartbeats 4000000 in
theorem ok_law_content  {C_LetterTooGreat : Addr} (D : Def K mg "_law_content" s_law_content) (C_content_of : CalleeX P w K mg base "content_of" ["tableau", "letters"] 1 (pre_content_of C_LetterTooGreat)) (S_LetterTooGreat : ExS K mg "LetterTooGreat" C_LetterTooGreat) (e_LetterTooGreat_LetterTooGreat : PySem.W.exmOne K (.ref C_LetterTooGreat) (.ref C_LetterTooGreat) = some true) : Callee P w K mg base "_law_content" ["tableau", "letters"] 2 pre_law_content := by
  obtain ⟨f, fd, F, hmg⟩ := D
  obtain ⟨f_content_of, fd_content_of, G_content_of, g_content_of, kp_content_of, b_content_of, _⟩ := C_content_of
  refine ⟨f, fd, fn_ok F sc_law_content len_law_content fun cdv A outer s H E hr => ⟨_, (pss_one (psTry (K := K) (i := 2) (fun W pn xe tk => (pss_one (ps_ret (by exact (pe_callS G_content_of (hr.mono (by decide)) (by rfl) g_content_of kp_content_of b_content_of (fun σ => passAt tk σ) (pa_cons (pv 0) (pa_cons (pv 1) pa_nil))))))) (fun a oe cls d pn hz hf => (pss_one (ps_ret pe_non))) rfl rfl sc_law_content.nd rfl rfl (S_LetterTooGreat.names rfl rfl (by decide)) takes0)), ?_⟩, hmg, F.kp, F.binds fun _ _ _ _ _ _ us hl => match us, hl with | [_, _], _ => rfl, Wk.Fun.lk F⟩
  intro rs O Q h
  obtain ⟨T, n, rfl, hT, hn, hsz, hlet, qx, q⟩ := h
  show StW K _ O [.dat (tS T), iV (n : Int), .non] _
  refine s_try (fun C fs O2 ds2 => O2 = O ∧ ds2 = [.dat (tS T), iV (n : Int), .non] ∧ fs = none ∧ C = C_LetterTooGreat ∧ ∃ r ∈ T, ∃ v ∈ r, (n : Int) < v) (fun W => ?_) ?_
  · refine sx_ret (fun _ hx => hx) (x_call ?_)
    repeat' walk_at "e"
    exact ⟨T, n, rfl, hT, hn, hsz, hlet, fun a => ⟨rfl, rfl, rfl, rfl, a⟩, q⟩
  · rintro C fs O2 ds2 ⟨rfl, rfl, rfl, rfl, hno⟩
    refine ⟨e_LetterTooGreat_LetterTooGreat, fun a cls d B nx rt bk ct => ?_⟩
    show StW K _ O2 [.dat (tS T), iV (n : Int), .exc a cls d C none] _
    repeat' walk_at "w"
    exact rt _ _ (qx hno)
def pre_law_fine : Pre := fun rs O Q => ∃ (Ts : List (List (List Int))) (shape content : List Int), rs = [.dat (lF Ts), .dat (tI shape), .dat (tI content)] ∧ Ts.length ≤ 100000000 ∧ content.length ≤ 60 ∧ (∀ T ∈ Ts, TabOk T ∧ lenT T = shape ∧ cntT T content.length = content ∧ ∀ v ∈ T.flatten, v ≤ (content.length : Int)) ∧ (Ts.Pairwise fun a b => ltT a b = true) ∧ Q (bV true) O
theorem len_law_fine (rs : List SD) (O : Own) (Q : SD → Own → Prop) (h : pre_law_fine rs O Q) : rs.length = 3 := by
  obtain ⟨Ts, s, c, rfl, _⟩ := h
  rfl
abbrev s_law_fine : Stmt := topS 25
theorem sc_law_fine : FnScope ["tableaux", "shape", "content", "k", "tableau", "most", "row"] ["tableaux", "shape", "content"] (defScope s_law_fine) := ⟨rfl, rfl, rfl, by decide +kernel, rfl, by decide +kernel, by decide +kernel⟩
set_option maxHeartbeats 4000000 in
theorem ok_law_fine  (D : Def K mg "_law_fine" s_law_fine) (C_is_tableau : Callee P w K mg base "is_tableau" ["rows"] 2 pre_is_tableau) (C_law_content : Callee P w K mg base "_law_content" ["tableau", "letters"] 2 pre_law_content) (m_len : mg "len" = none) (m_max : mg "max" = none) (m_range : mg "range" = none) (m_tuple : mg "tuple" = none) : Callee P w K mg base "_law_fine" ["tableaux", "shape", "content"] 3 pre_law_fine := by
  obtain ⟨f, fd, F, hmg⟩ := D
  obtain ⟨f_is_tableau, fd_is_tableau, G_is_tableau, g_is_tableau, kp_is_tableau, b_is_tableau, _⟩ := C_is_tableau
  obtain ⟨f_law_content, fd_law_content, G_law_content, g_law_content, kp_law_content, b_law_content, _⟩ := C_law_content
  refine ⟨f, fd, fn_ok F sc_law_fine len_law_fine fun cdv A outer s H E hr => ⟨_, (pss_cons (ps_for PassesOwn.never rfl (pi_range1 (by rfl) m_range (pa_cons (pe_callB (kLen K) (by rfl) m_len PySem.boot_len (pa_cons (pv 0) pa_nil)) pa_nil)) (pg_name (i := 3) sc_law_fine.nd rfl (.inl rfl)) (pss_cons (ps_set (i := 4) sc_law_fine.nd rfl (.inl rfl) (pe_ix (ixL K) (pv 0) (pv 3) (fun _ _ => rfl)))
      (pss_cons (ps_if (PW.pt (pw_or (pt_not (pt_val (pe_call G_is_tableau (hr.mono (by decide)) (by rfl) g_is_tableau kp_is_tableau b_is_tableau .nil pass0 (pa_cons (pv 4) pa_nil)))) (pw_or1 (pt_cmpR (kNeD K hr.units) (pe_callTy (kTupOf K) (by rfl) m_tuple (by decide +kernel) (pa_cons (pe_lc (own := [("row", 6)]) (g := gName 6) rfl sc_law_fine.nd (piT K (pv 4)) (blkOk_by (own := [("row", 6)]) (N := ["tableaux", "shape", "content", "k", "tableau", "most", "row"]) (by first | (show blkC _ (defScope s_law_fine) _ _ = true; decide +kernel) | kernel_rfl | rfl)) (fun _ _ _ _ _ => pg_name (i := 6) sc_law_fine.nd rfl (by first | exact Or.inl rfl | exact Or.inr rfl)) (fun _ _ _ _ _ => pts_nil) (fun _ _ _ _ _ => (pe_callB (kLen K) (by rfl) m_len PySem.boot_len (pa_cons (pv 6) pa_nil)))) pa_nil)) (pv 1) (nomark _))))) (pss_one (ps_ret pe_bl)) pss_nil)
      (pss_cons (ps_if (PW.pt (pw_or (pt_cmpR (kNeD K hr.units) (pe_call G_law_content (hr.mono (by decide)) (by rfl) g_law_content kp_law_content b_law_content .nil pass0 (pa_cons (pv 4) (pa_cons (pe_callB (kLen K) (by rfl) m_len PySem.boot_len (pa_cons (pv 2) pa_nil)) pa_nil))) (pv 2) (nomark _)) (pw_or1 (PW.pt (pw_and (pt_cmpR op_gt (pv 3) pe_int (nomark _)) (pw_and1 (pt_not (pt_cmpR (kLtD K hr.units) (pe_ix (ixL K) (pv 0) (pe_op op_sub (pv 3) pe_int) (fun _ _ => rfl)) (pv 4) (nomark _))))))))) (pss_one (ps_ret pe_bl)) pss_nil)
      (pss_cons (ps_set (i := 5) sc_law_fine.nd rfl (.inl rfl) (pe_callB (kMax K rfl) (by rfl) m_max (by decide +kernel) (pa_cons (pe_op op_cat (pe_lst (pa_cons pe_int pa_nil)) (pe_lc (own := [("row", 6)]) (g := gName 6) rfl sc_law_fine.nd (piT K (pv 4)) (blkOk_by (own := [("row", 6)]) (N := ["tableaux", "shape", "content", "k", "tableau", "most", "row"]) (by first | (show blkC _ (defScope s_law_fine) _ _ = true; decide +kernel) | kernel_rfl | rfl)) (fun _ _ _ _ _ => pg_name (i := 6) sc_law_fine.nd rfl (by first | exact Or.inl rfl | exact Or.inr rfl)) (fun _ _ _ _ _ => pts_nil) (fun _ _ _ _ _ => (pe_callB (kMaxT K rfl) (by rfl) m_max (by decide +kernel) (pa_cons (pv 6) pa_nil))))) pa_nil)))
      (pss_one (ps_if (PW.pt (pw_or (PW.pt (pw_and (pt_cmpR op_gt (pv 5) pe_int (nomark _)) (pw_and1 (pt_cmpR op_notN (pe_call G_law_content (hr.mono (by decide)) (by rfl) g_law_content kp_law_content b_law_content .nil pass0 (pa_cons (pv 4) (pa_cons (pe_op op_sub (pv 5) pe_int) pa_nil))) pe_non (nomark _))))) (pw_or1 (PW.pt (pw_and (pt_cmpR op_gt (pv 5) pe_int (nomark _)) (pw_and1 (pt_cmpR op_notN (pe_call G_law_content (hr.mono (by decide)) (by rfl) g_law_content kp_law_content b_law_content .nil pass0 (pa_cons (pv 4) (pa_cons pe_int pa_nil))) pe_non (nomark _)))))))) (pss_one (ps_ret pe_bl)) pss_nil)))))))
      (pss_one (ps_ret pe_bl))), ?_⟩, hmg, F.kp, F.binds fun _ _ _ _ _ _ us hl => match us, hl with | [_, _, _], _ => rfl, Wk.Fun.lk F⟩
  intro rs O Q h
  obtain ⟨Ts, shape, content, rfl, hTl, hcl, hT, hpw, q⟩ := h
  show StW K _ O [.dat (lF Ts), .dat (tI shape), .dat (tI content), .non, .non, .non, .non] _
  refine s_seq (s_for1 ?_)
  repeat' walk_at "e"
  have hlT : (Ts.map fun f => tS f).length = Ts.length := List.length_map ..
  refine ⟨by omega, by omega, fun i O2 ds2 => ∃ (x3 x4 x5 x6 : SD), O2 = O ∧ ds2 = [.dat (lF Ts), .dat (tI shape), .dat (tI content), x3, x4, x5, x6], ⟨_, _, _, _, rfl, rfl⟩, fun i O2 ds2 hi hI B hB => ?_, fun O2 ds2 hI => ?_⟩
  · obtain ⟨x3, x4, x5, x6, rfl, rfl⟩ := hI
    have hi : i < Ts.length := by omega
    have hg : Ts[i]? = some Ts[i] := List.getElem?_eq_getElem hi
    refine s_seq (s_asg ?_)
    repeat' walk_at "e"
    generalize hTe : Ts[i] = T at *
    have hTm := List.mem_of_getElem? hg
    obtain ⟨tok, tln, tcn, tlt⟩ := hT T hTm
    refine o_ixL (at_nthL (by omega) (show (Ts.map fun f => tS f)[((i : Int)).toNat]? = some (tS T) by rw [Int.toNat_natCast, List.getElem?_map, hg]; rfl)) ?_
    have hsm : Sm 1000 1000 T := (tok.1.sm).up (by have := tok.2.2; omega) (by have := tok.2.2; omega)
    have hsm2 : Sm 90000 90000 T := hsm.up (by omega) (by omega)
    have hsz := tok.2.2
    have hTl1 := hsm.len
    have hmem : ∀ r ∈ T, ∀ v ∈ r, 1 ≤ v ∧ v ≤ 60 := tok.2.1
    have hle : ∀ r ∈ T, ∀ v ∈ r, v ≤ (content.length : Int) := fun r hr v hv => tlt v (List.mem_flatten.mpr ⟨r, hr, hv⟩)
    refine s_seq (s_if ?_)
    repeat' walk_at "e"
    · rename_i bb hbb hbt
      exfalso
      rw [hbb.mpr tok] at hbt
      exact nomatch hbt
    refine w_frz (w_lcT ?_)
    repeat' walk_at "e"
    refine ⟨by rw [List.length_map]; omega, fun j acc O3 => acc = ((lenT T).take j).map (fun z => iV z) ∧ O3 = O2, ⟨rfl, rfl⟩, fun j d acc O3 hd hl hJ => ?_, fun acc O3 Dl hJ => ?_⟩
    · obtain ⟨rfl, rfl⟩ := hJ
      intro Dl
      obtain ⟨r, hr, rfl⟩ := map_get hd
      have hrl := hsm.row r (List.mem_of_getElem? hr)
      refine t_yes ⟨fun _ => ?_, fun z => nomatch z⟩
      repeat' walk_at "e"
      refine ⟨_, .refl _, ?_, rfl⟩
      have e : (lenT T)[j]? = some (r.length : Int) := by
        unfold lenT
        rw [List.getElem?_map, hr]
        rfl
      rw [take_next e, List.map_append, List.length_map]
      rfl
    obtain ⟨rfl, rfl⟩ := hJ
    rw [List.length_map, List.take_of_length_le (by unfold lenT; rw [List.length_map]; exact Nat.le_refl _)]
    refine ⟨Dl, _, _, _, rfl, .refl _, Dats.ints _, ?_⟩
    repeat' walk_at "e"
    · rename_i bb hbb hbt
      exfalso
      rw [hbb.mpr (by rw [tln])] at hbt
      exact nomatch hbt
    with_reducible refine s_next ?_
    refine s_cut (fun O1 ds1 => O1 = O3 ∧ ds1 = [.dat (lF Ts), .dat (tI shape), .dat (tI content), iV (i : Int), .dat (tS T), x5, x6]) ?_ ?_
    · refine s_if ?_
      repeat' walk_at "e"
      refine ⟨T, content.length, by rw [List.length_map], hsm, by omega, by omega, fun r hr v hv => by have := hmem r hr v hv; omega, fun ⟨r, hr, v, hv, hgt⟩ => absurd (hle r hr v hv) (by omega), fun _ => ?_⟩
      rw [tcn]
      repeat' walk_at "e"
      · rename_i bb hbb hbt
        exfalso
        rw [hbb.mpr rfl] at hbt
        exact nomatch hbt
      · rename_i hi0
        have hg1 : Ts[i - 1]? = some (Ts[i - 1]'(by omega)) := List.getElem?_eq_getElem (by omega)
        have hlt : ltT (Ts[i - 1]'(by omega)) T = true := by
          rw [← hTe]
          exact (List.pairwise_iff_getElem.mp hpw) (i - 1) i (by omega) hi (by omega)
        generalize Ts[i - 1]'(by omega) = U at hg1 hlt
        refine o_ixL (at_nthL (by omega) (show (Ts.map fun f => tS f)[((i : Int) - 1).toNat]? = some (tS U) by rw [show ((i : Int) - 1).toNat = i - 1 by omega, List.getElem?_map, hg1]; rfl)) ?_
        repeat' walk_at "e"
        refine o_ltD (tS_al _ _) (fun z => (nomatch z)) ?_ ?_
        · have := dep_tS U
          show PyData.depth (.tuple (U.map fun c => tI c)) ≤ 64
          rw [PyData.depth]
          omega
        rw [show PySem.W.dataLt (tS U) (tS T) = true from hlt]
        refine ⟨_, rfl, (fun z => absurd z (by decide)), fun _ => ?_⟩
        with_reducible refine s_next ?_
        exact ⟨rfl, rfl⟩
      · with_reducible refine s_next ?_
        exact ⟨rfl, rfl⟩
    rintro OC _ ⟨rfl, rfl⟩
    refine s_seq (s_asg (w_cb (w_cons ?_)))
    repeat' walk_at "e"
    refine w_frz (w_lcT ?_)
    repeat' walk_at "e"
    refine ⟨by rw [List.length_map]; omega, fun j acc O3 => ∃ ms : List Int, acc = ms.map (fun z => iV z) ∧ ms.length = j ∧ (∀ m ∈ ms, ∃ r ∈ T, m ∈ r) ∧ O3 = OC, ⟨[], rfl, rfl, fun _ h => absurd h List.not_mem_nil, rfl⟩, fun j d acc O3 hd hl hJ => ?_, fun acc O3 Dl hJ => ?_⟩
    · obtain ⟨ms, rfl, hml, hms, rfl⟩ := hJ
      intro Dl
      obtain ⟨r, hr, rfl⟩ := map_get hd
      have hrm := List.mem_of_getElem? hr
      have hrg := ((tabOk_iff T).mp tok).1 j (List.getElem?_eq_some_iff.mp hr).1
      have hr0 : 0 < r.length := by
        have := hrg.1.1
        rw [List.getD_eq_getElem?_getD, hr] at this
        exact List.length_pos_iff.mpr this
      refine t_yes ⟨fun _ => ?_, fun z => nomatch z⟩
      repeat' walk_at "e"
      refine g_maxT hr0 fun m hm hmx => ?_
      refine ⟨_, .refl _, ms ++ [m], by rw [List.map_append]; rfl, by rw [List.length_append, hml]; rfl, fun x hx => ?_, rfl⟩
      rcases List.mem_append.mp hx with hx | hx
      · exact hms x hx
      · rw [List.mem_singleton.mp hx]
        exact ⟨r, hrm, hm⟩
    obtain ⟨ms, rfl, hml, hms, rfl⟩ := hJ
    rw [List.length_map] at hml
    refine ⟨Dl, _, _, _, rfl, .refl _, Dats.ints ms, ?_⟩
    refine g_cat .d .d (by rw [List.length_map, hml]; show 1 + T.length ≤ _; omega) ?_
    repeat' walk_at "e"
    refine g_max (ns := 0 :: ms) .d (Nat.zero_lt_succ _) fun m hm hmx => ?_
    have hm0 : 0 ≤ m := hmx 0 List.mem_cons_self
    have hmT : 0 < m → ∃ r ∈ T, m ∈ r := fun h => by
      rcases List.mem_cons.mp hm with h2 | h2
      · omega
      · exact hms m h2
    have hm60 : m ≤ 60 := by
      rcases Int.lt_or_le 0 m with z | z
      · obtain ⟨r, hr, hv⟩ := hmT z
        exact (hmem r hr m hv).2
      · omega
    refine s_if ?_
    repeat' walk_at "e"
    · rename_i hp
      obtain ⟨r, hr, hv⟩ := hmT hp
      have hlet : ∀ r ∈ T, ∀ v ∈ r, 1 ≤ v ∧ v ≤ 1000000 := fun r hr v hv => by
        have := hmem r hr v hv
        omega
      refine ⟨T, (m - 1).toNat, by rw [Int.toNat_of_nonneg (by omega)], hsm, by omega, by omega, hlet, fun _ => ?_, fun hall => absurd (hall r hr m hv) (by omega)⟩
      repeat' walk_at "e"
      · refine ⟨T, 0, rfl, hsm, by omega, by omega, hlet, fun _ => ?_, fun hall => absurd (hall r hr m hv) (by omega)⟩
        repeat' walk_at "e"
        with_reducible refine s_next ?_
        exact hB.nx _ _ ⟨_, _, _, _, rfl, rfl⟩
      · with_reducible refine s_next ?_
        exact hB.nx _ _ ⟨_, _, _, _, rfl, rfl⟩
    · exfalso
      omega
    · with_reducible refine s_next ?_
      exact hB.nx _ _ ⟨_, _, _, _, rfl, rfl⟩
  obtain ⟨x3, x4, x5, x6, rfl, rfl⟩ := hI
  repeat' walk_at "w"
  exact q
def pre_law_longer : Pre := fun rs O Q => ∃ (bx : Addr) (row : List Int) (k : Int) (O' : Own), rs = [.ad bx] ∧ O = Box bx row k :: O' ∧ BoxOk row ∧ 0 ≤ k ∧ k < 900000000 ∧ ∀ O2, Q (bV true) O2
theorem len_law_longer (rs : List SD) (O : Own) (Q : SD → Own → Prop) (h : pre_law_longer rs O Q) : rs.length = 1 := by
  obtain ⟨Ts, s, k, O', rfl, _⟩ := h
  rfl
theorem tabO_nil : tabO [] [] = [[]] := by
  unfold tabO
  rw [if_pos rfl]
  show srtT [[]] = [[]]
  unfold srtT
  exact List.mergeSort_singleton _
theorem tabO_nil2 : tabO [] [0, 0] = [[]] := by
  unfold tabO
  rw [if_pos (by decide)]
  have e : tabK [] [0, 0] ([0, 0] : List Int).length = [[]] := by decide +kernel
  rw [e]
  unfold srtT
  exact List.mergeSort_singleton _
theorem tabO_no {shape content : List Int} (h : shape.sum ≠ content.sum) : tabO shape content = [] := if_neg h
abbrev s_law_longer : Stmt := topS 27
theorem sc_law_longer : FnScope ["box", "letters", "rows", "counts", "k", "letter", "made", "shape", "found", "row"] ["box"] (defScope s_law_longer) := ⟨rfl, rfl, rfl, by decide +kernel, rfl, by decide +kernel, by decide +kernel⟩
set_option maxHeartbeats 4000000 in
theorem ok_law_longer  (D : Def K mg "_law_longer" s_law_longer) (C_law_next : Callee P w K mg base "_law_next" ["box", "modulus"] 1 pre_law_next) (C_tableaux_of : Callee P w K mg base "tableaux_of" ["shape", "content"] 3 pre_tableaux_of) (C_law_inserted : Callee P w K mg base "_law_inserted" ["rows", "letter"] 1 pre_law_inserted) (C_law_fine : Callee P w K mg base "_law_fine" ["tableaux", "shape", "content"] 3 pre_law_fine) (m_isinstance : mg "isinstance" = none) (m_len : mg "len" = none) (m_list : mg "list" = none) (m_range : mg "range" = none) (m_tuple : mg "tuple" = none) : Callee P w K mg base "_law_longer" ["box"] 4 pre_law_longer := by
  obtain ⟨f, fd, F, hmg⟩ := D
  obtain ⟨f_law_next, fd_law_next, G_law_next, g_law_next, kp_law_next, b_law_next, _⟩ := C_law_next
  obtain ⟨f_tableaux_of, fd_tableaux_of, G_tableaux_of, g_tableaux_of, kp_tableaux_of, b_tableaux_of, _⟩ := C_tableaux_of
  obtain ⟨f_law_inserted, fd_law_inserted, G_law_inserted, g_law_inserted, kp_law_inserted, b_law_inserted, _⟩ := C_law_inserted
  obtain ⟨f_law_fine, fd_law_fine, G_law_fine, g_law_fine, kp_law_fine, b_law_fine, _⟩ := C_law_fine
  refine ⟨f, fd, fn_ok F sc_law_longer len_law_longer fun cdv A outer s H E hr => ⟨_, (pss_cons (ps_if (PW.pt (pw_or (pt_cmpR (kNeD K hr.units) (pe_call G_tableaux_of (hr.mono (by decide)) (by rfl) g_tableaux_of kp_tableaux_of b_tableaux_of .nil pass0 (pa_cons (pe_tup pa_nil) (pa_cons (pe_tup pa_nil) pa_nil))) (pe_lst (pa_cons (pe_tup pa_nil) pa_nil)) (nomark _)) (pw_or (pt_cmpR (kNeD K hr.units) (pe_call G_tableaux_of (hr.mono (by decide)) (by rfl) g_tableaux_of kp_tableaux_of b_tableaux_of .nil pass0 (pa_cons (pe_tup pa_nil) (pa_cons (pe_tup (pa_cons pe_int (pa_cons pe_int pa_nil))) pa_nil))) (pe_lst (pa_cons (pe_tup pa_nil) pa_nil)) (nomark _)) (pw_or1 (pt_cmpR (kNeD K hr.units) (pe_call G_tableaux_of (hr.mono (by decide)) (by rfl) g_tableaux_of kp_tableaux_of b_tableaux_of .nil pass0 (pa_cons (pe_tup (pa_cons pe_int pa_nil)) (pa_cons (pe_tup pa_nil) pa_nil))) (pe_lst pa_nil) (nomark _)))))) (pss_one (ps_ret pe_bl)) pss_nil)
      (pss_cons (ps_set (i := 1) sc_law_longer.nd rfl (.inl rfl) (pe_op op_add pe_int (pe_call G_law_next (hr.mono (by decide)) (by rfl) g_law_next kp_law_next b_law_next .nil pass0 (pa_cons (pv 0) (pa_cons pe_int pa_nil)))))
      (pss_cons (ps_set (i := 2) sc_law_longer.nd rfl (.inl rfl) (pe_lst pa_nil))
      (pss_cons (ps_set (i := 3) sc_law_longer.nd rfl (.inl rfl) (pe_op op_rep (pe_lst (pa_cons pe_int pa_nil)) (pv 1)))
      (pss_cons (ps_for PassesOwn.never rfl (pi_range1 (by rfl) m_range (pa_cons (pe_call G_law_next (hr.mono (by decide)) (by rfl) g_law_next kp_law_next b_law_next .nil pass0 (pa_cons (pv 0) (pa_cons pe_int pa_nil))) pa_nil)) (pg_name (i := 4) sc_law_longer.nd rfl (.inl rfl)) (pss_cons (ps_set (i := 5) sc_law_longer.nd rfl (.inl rfl) (pe_call G_law_next (hr.mono (by decide)) (by rfl) g_law_next kp_law_next b_law_next .nil pass0 (pa_cons (pv 0) (pa_cons (pv 1) pa_nil))))
      (pss_cons (ps_asg (pe_op op_add (pe_ix (ixL K) (pv 3) (pv 5) (fun _ _ => rfl)) pe_int) (pg_sub (pv 3) (pv 5) set_list))
      (pss_one (ps_set (i := 2) sc_law_longer.nd rfl (.inl rfl) (pe_call G_law_inserted (hr.mono (by decide)) (by rfl) g_law_inserted kp_law_inserted b_law_inserted .nil pass0 (pa_cons (pv 2) (pa_cons (pe_op op_add (pv 5) pe_int) pa_nil))))))))
      (pss_cons (ps_set (i := 6) sc_law_longer.nd rfl (.inl rfl) (pe_callTy (kTupOf K) (by rfl) m_tuple (by decide +kernel) (pa_cons (pe_lc (own := [("row", 9)]) (g := gName 9) rfl sc_law_longer.nd (piL K (pv 2)) (blkOk_by (own := [("row", 9)]) (N := ["box", "letters", "rows", "counts", "k", "letter", "made", "shape", "found", "row"]) (by first | (show blkC _ (defScope s_law_longer) _ _ = true; decide +kernel) | kernel_rfl | rfl)) (fun _ _ _ _ _ => pg_name (i := 9) sc_law_longer.nd rfl (by first | exact Or.inl rfl | exact Or.inr rfl)) (fun _ _ _ _ _ => pts_nil) (fun _ _ _ _ _ => (pe_callTy (kTupOf K) (by rfl) m_tuple (by decide +kernel) (pa_cons (pv 9) pa_nil)))) pa_nil)))
      (pss_cons (ps_set (i := 7) sc_law_longer.nd rfl (.inl rfl) (pe_callTy (kTupOf K) (by rfl) m_tuple (by decide +kernel) (pa_cons (pe_lc (own := [("row", 9)]) (g := gName 9) rfl sc_law_longer.nd (piL K (pv 2)) (blkOk_by (own := [("row", 9)]) (N := ["box", "letters", "rows", "counts", "k", "letter", "made", "shape", "found", "row"]) (by first | (show blkC _ (defScope s_law_longer) _ _ = true; decide +kernel) | kernel_rfl | rfl)) (fun _ _ _ _ _ => pg_name (i := 9) sc_law_longer.nd rfl (by first | exact Or.inl rfl | exact Or.inr rfl)) (fun _ _ _ _ _ => pts_nil) (fun _ _ _ _ _ => (pe_callB (kLen K) (by rfl) m_len PySem.boot_len (pa_cons (pv 9) pa_nil)))) pa_nil)))
      (pss_cons (ps_set (i := 8) sc_law_longer.nd rfl (.inl rfl) (pe_call G_tableaux_of (hr.mono (by decide)) (by rfl) g_tableaux_of kp_tableaux_of b_tableaux_of .nil pass0 (pa_cons (pv 7) (pa_cons (pe_callTy (kTupOf K) (by rfl) m_tuple (by decide +kernel) (pa_cons (pv 3) pa_nil)) pa_nil))))
      (pss_one (ps_ret (pe_and (pe_callB (kIsi K) (by rfl) m_isinstance (by decide +kernel) (pa_cons (pv 8) (pa_cons (pe_bltn (v := .ty "list") (by rfl) m_list (by decide +kernel) rfl) pa_nil))) (pe_and (pe_cmpR (kInD K hr.units) (pv 6) (pv 8) (by with_unfolding_all rfl)) (pe_one (pe_call G_law_fine (hr.mono (by decide)) (by rfl) g_law_fine kp_law_fine b_law_fine .nil pass0 (pa_cons (pv 8) (pa_cons (pv 7) (pa_cons (pe_callTy (kTupOf K) (by rfl) m_tuple (by decide +kernel) (pa_cons (pv 3) pa_nil)) pa_nil))))))))))))))))), ?_⟩, hmg, F.kp, F.binds fun _ _ _ _ _ _ us hl => match us, hl with | [_], _ => rfl, Wk.Fun.lk F⟩
  intro rs O Q h
  obtain ⟨bx, row, k, O', rfl, rfl, hbox, hk0, hk1, q⟩ := h
  show StW K _ _ [.ad bx, .non, .non, .non, .non, .non, .non, .non, .non, .non] _
  refine s_seq (s_if ?_)
  repeat' walk_at "e"
  refine ⟨[], [], rfl, by decide, fun _ h => absurd h List.not_mem_nil, by decide, fun _ h => absurd h List.not_mem_nil, by decide, ?_⟩
  rw [tabO_nil]
  repeat' walk_at "e"
  · rename_i bb hbb hbt
    exfalso
    rw [hbb.mpr rfl] at hbt
    exact nomatch hbt
  refine ⟨[], [0, 0], rfl, by decide, fun _ h => absurd h List.not_mem_nil, by decide, fun x hx => ?_, by decide, ?_⟩
  · have : x = 0 := by simpa using hx
    omega
  rw [tabO_nil2]
  repeat' walk_at "e"
  · rename_i bb hbb hbt
    exfalso
    rw [hbb.mpr rfl] at hbt
    exact nomatch hbt
  refine ⟨[1], [], rfl, by decide, fun x hx => ?_, by decide, fun _ h => absurd h List.not_mem_nil, by decide, ?_⟩
  · have : x = 1 := by simpa using hx
    omega
  rw [tabO_no (shape := [1]) (content := []) (by decide)]
  repeat' walk_at "e"
  · rename_i bb hbb hbt
    exfalso
    rw [hbb.mpr rfl] at hbt
    exact nomatch hbt
  with_reducible refine s_next ?_
  refine s_seq (s_asg ?_)
  repeat' walk_at "e"
  rename_i l0 hl0 hl1
  obtain ⟨L, hLe⟩ : ∃ L : Nat, 4 + l0 = (L : Int) := ⟨(4 + l0).toNat, by omega⟩
  rw [hLe]
  have hL4 : 4 ≤ L := by omega
  have hL6 : L ≤ 6 := by omega
  refine s_seq (s_asg ?_)
  repeat' walk_at "e"
  refine s_seq (s_asg ?_)
  repeat' walk_at "e"
  refine g_repO .d (by omega) (by omega) (by decide) fun p => ?_
  rw [Int.toNat_natCast]
  have e0 : ((List.replicate L [PyData.int 0]).flatten.map SD.dat) = (cntW [] L).map fun z => iV z := by
    rw [cntW_nil, List.map_replicate]
    have : (List.replicate L [PyData.int 0]).flatten = List.replicate L (PyData.int 0) := by
      induction L with
      | zero => rfl
      | succ n ih =>
        clear ih
        exact rep_fl1 (n + 1) (PyData.int 0)
    rw [this, List.map_replicate]
  rw [e0]
  refine s_cv (Cv.perm (.swap ..)) ?_
  refine s_seq (s_for1 ?_)
  repeat' walk_at "e"
  rename_i N hN0 hN1
  have hmade : ∀ w : List Int, w.length ≤ 8 → (∀ v ∈ w, 1 ≤ v ∧ v ≤ (L : Int)) → TabOk (madeT w) ∧ szT (madeT w) = w.length := fun w hw hv => by
    obtain ⟨h1, h2, h3⟩ := made_ok w fun v hm => by have := hv v hm; omega
    exact ⟨⟨h1, h2, by omega⟩, h3⟩
  refine ⟨by omega, by omega, fun i O2 ds2 => ∃ (w : List Int) (k2 : Int) (x4 x5 : SD), w.length = i ∧ (∀ v ∈ w, 1 ≤ v ∧ v ≤ (L : Int)) ∧ 0 ≤ k2 ∧ k2 ≤ 900000000 + 100 + i ∧ O2 = Box bx row k2 :: (p, .lst ((cntW w L).map fun z => iV z)) :: O' ∧ ds2 = [.ad bx, iV (L : Int), .dat (lR (madeT w)), .ad p, x4, x5, .non, .non, .non, .non], ⟨[], _, _, _, rfl, fun _ h => absurd h List.not_mem_nil, ?_, ?_, rfl, rfl⟩, fun i O2 ds2 hi hI B hB => ?_, fun O2 ds2 hI => ?_⟩
  · omega
  · omega
  · obtain ⟨w, k2, x4, x5, hwl, hw, hk20, hk21, rfl, rfl⟩ := hI
    refine s_seq (s_asg ?_)
    repeat' walk_at "e"
    rename_i v0 hv0 hv1
    have hcl := cntW_len w L
    have hms := hmade w (by omega) hw
    have hsm := hms.1.1.sm
    refine s_seq (s_setL ?_)
    repeat' walk_at "e"
    refine g_nthO (List.mem_cons_of_mem _ List.mem_cons_self) hv0 (by omega) ?_
    repeat' walk_at "e"
    refine ⟨p, _, _, v0.toNat, _, _, rfl, rfl, .swap .., ?_, .swap .., ?_⟩
    · rw [List.length_map, hcl]
      unfold ixN
      rw [if_pos hv0, if_pos hv1]
    have e1 : ((cntW w L).map fun z => iV z).set v0.toNat (iV ((cntW w L).getD v0.toNat 0 + 1)) = (cntW (w ++ [v0 + 1]) L).map fun z => iV z := by
      rw [cntW_snoc (by omega) (by omega), List.map_set, show (v0 + 1 - 1).toNat = v0.toNat by omega]
    rw [e1]
    refine s_asg ?_
    repeat' walk_at "e"
    refine ⟨madeT w, v0 + 1, rfl, ?_, fun r hr => ?_, ?_⟩
    · have := hsm.len
      omega
    · have := hsm.row r hr
      omega
    rw [← made_snoc]
    refine hB.nx _ _ ⟨w ++ [v0 + 1], k2 + 1, _, _, by rw [List.length_append, hwl]; rfl, fun v hv => ?_, by omega, by omega, rfl, rfl⟩
    rcases List.mem_append.mp hv with hv | hv
    · exact hw v hv
    · rw [List.mem_singleton.mp hv]
      omega
  obtain ⟨w, k2, x4, x5, hwl, hw, hk20, hk21, rfl, rfl⟩ := hI
  have hw8 : w.length ≤ 8 := by omega
  obtain ⟨htok, htsz⟩ := hmade w hw8 hw
  have hperm := made_perm w
  generalize madeT w = T at *
  have hsm := htok.1.sm
  have hTl := hsm.len
  have hTr := hsm.row
  have hlT : (T.map fun r => lI r).length = T.length := List.length_map ..
  refine s_seq (s_asg (w_cb (w_cons (w_frz (w_lcL ?_)))))
  repeat' walk_at "e"
  refine ⟨by omega, fun j acc O3 => acc = (T.take j).map (fun c => SD.dat (tI c)) ∧ O3 = Box bx row k2 :: (p, .lst ((cntW w L).map fun z => iV z)) :: O', ⟨rfl, rfl⟩, fun j d acc O3 hd hl hJ => ?_, fun acc O3 Dl hJ => ?_⟩
  · obtain ⟨rfl, rfl⟩ := hJ
    intro Dl
    obtain ⟨r, hr, rfl⟩ := map_get hd
    refine t_yes ⟨fun _ => ?_, fun z => nomatch z⟩
    repeat' walk_at "e"
    refine ⟨_, .refl _, ?_, rfl⟩
    rw [take_next hr, List.map_append]
    rfl
  obtain ⟨rfl, rfl⟩ := hJ
  rw [hlT, List.take_length]
  refine ⟨Dl, _, _, _, rfl, .refl _, tS_dats _, ?_⟩
  repeat' walk_at "e"
  refine s_seq (s_asg (w_cb (w_cons (w_frz (w_lcL ?_)))))
  repeat' walk_at "e"
  refine ⟨by omega, fun j acc O3 => acc = ((lenT T).take j).map (fun z => iV z) ∧ O3 = Box bx row k2 :: (p, .lst ((cntW w L).map fun z => iV z)) :: O', ⟨rfl, rfl⟩, fun j d acc O3 hd hl hJ => ?_, fun acc O3 Dl hJ => ?_⟩
  · obtain ⟨rfl, rfl⟩ := hJ
    intro Dl
    obtain ⟨r, hr, rfl⟩ := map_get hd
    refine t_yes ⟨fun _ => ?_, fun z => nomatch z⟩
    repeat' walk_at "e"
    refine ⟨_, .refl _, ?_, rfl⟩
    have e : (lenT T)[j]? = some (r.length : Int) := by
      unfold lenT
      rw [List.getElem?_map, hr]
      rfl
    rw [take_next e, List.map_append, List.length_map]
    rfl
  obtain ⟨rfl, rfl⟩ := hJ
  rw [hlT, List.take_of_length_le (by unfold lenT; rw [List.length_map]; exact Nat.le_refl _)]
  refine ⟨Dl, _, _, _, rfl, .refl _, Dats.ints _, ?_⟩
  repeat' walk_at "e"
  refine s_seq (s_asg ?_)
  repeat' walk_at "e"
  refine g_tup (es := (cntW w L).map PyData.int) (.o (List.mem_cons_of_mem _ List.mem_cons_self) (Dats.ints _)) ?_
  repeat' walk_at "e"
  have hcl := cntW_len w L
  have hTv : ∀ v ∈ T.flatten, 1 ≤ v ∧ v ≤ (L : Int) := fun v hv => hw v (hperm.mem_iff.mp hv)
  have hTn : T.length ≤ L := tab_len htok fun v hv => (hTv v hv).2
  have hc0 : ∀ i, 0 ≤ (cntW w L).getD i 0 := cntW_nn w L
  have hcs : (cntW w L).sum = (w.length : Int) := cntW_sum hw
  have hls : (lenT T).sum = (w.length : Int) := by rw [lenT_sum, hperm.length_eq]
  have hl1 : ∀ x ∈ lenT T, 1 ≤ x ∧ x ≤ 100 := fun x hx => by
    obtain ⟨r, hr, rfl⟩ := List.mem_map.mp hx
    obtain ⟨i, hi, rfl⟩ := List.mem_iff_getElem.mp hr
    have h1 := (((tabOk_iff T).mp htok).1 i hi).1.1
    rw [List.getD_eq_getElem?_getD, List.getElem?_eq_getElem hi] at h1
    have h1 := List.length_pos_iff.mpr h1
    have h2 := hTr _ hr
    have h1 : 0 < T[i].length := h1
    omega
  have hlen : (lenT T).length = T.length := List.length_map ..
  have hcb : ∀ x ∈ cntW w L, 0 ≤ x ∧ x ≤ 100 := fun x hx => by
    obtain ⟨l, hl, rfl⟩ := List.mem_map.mp (show x ∈ (List.range L).map _ from hx)
    have := List.count_le_length (a := ((l + 1 : Nat) : Int)) (l := w)
    omega
  have hcT : cntT T L = cntW w L := by rw [cntT_W, cntW_perm hperm]
  refine ⟨lenT T, cntW w L, rfl, by omega, hl1, by omega, hcb, ?_, ?_⟩
  · rw [hcs, hlen, Int.toNat_natCast]
    exact Nat.le_trans (Nat.pow_le_pow_left (show T.length + 1 ≤ 7 by omega) _) (Nat.le_trans (Nat.pow_le_pow_right (by decide) hw8) (by decide))
  have hmem : T ∈ tabK (lenT T) (cntW w L) (cntW w L).length := tab_mem (fun x hx => (hl1 x hx).1) hc0 htok rfl (fun v hv => by rw [hcl]; exact (hTv v hv).2) (by rw [hcl]; exact hcT)
  have htab : tabO (lenT T) (cntW w L) = srtT (tabK (lenT T) (cntW w L) (cntW w L).length) := if_pos (by rw [hls, hcs])
  have hs0 : ∀ i, i < (lenT T).length → 0 ≤ (lenT T).getD i 0 := fun i hi => by have := (hl1 _ (getD_mem1 hi)).1; omega
  have hnd := nd_tabK hs0 hc0 (cntW w L).length
  have hfin := fun U hU => tab_fin (fun x hx => (hl1 x hx).1) hc0 (hls.trans hcs.symm) (by rw [hcl]; omega) (by rw [hls]; omega) (T := U) hU
  have hpl := (srtT_perm (tabK (lenT T) (cntW w L) (cntW w L).length))
  have hasc := srtT_asc hnd
  have hlk : (tabK (lenT T) (cntW w L) (cntW w L).length).length ≤ 100000000 := by
    refine Nat.le_trans (len_tabK hc0 _) ?_
    rw [List.take_length, (sumN_sum fun x hx => (hcb x hx).1).1, hcs, Int.toNat_natCast, hlen]
    exact Nat.le_trans (Nat.pow_le_pow_left (show T.length ≤ 6 by omega) _) (Nat.le_trans (Nat.pow_le_pow_right (by decide) hw8) (by decide))
  rw [htab]
  generalize tabK (lenT T) (cntW w L) (cntW w L).length = F at *
  refine s_ret ?_
  repeat' walk_at "e"
  refine o_inD (d := tS T) (es := (srtT F).map fun f => tS f) (tS_all (T :: srtT F)) ?_ (List.mem_map.mpr ⟨T, hpl.mem_iff.mpr hmem, rfl⟩) ?_
  · have := dep_tS T
    show PyData.depth (.tuple (T.map fun c => tI c)) ≤ 60
    rw [PyData.depth]
    omega
  refine ⟨true, rfl, fun _ => ?_, fun z => nomatch z⟩
  repeat' walk_at "e"
  refine g_tup (es := (cntW w L).map PyData.int) (.o (List.mem_cons_of_mem _ List.mem_cons_self) (Dats.ints _)) ?_
  repeat' walk_at "e"
  refine ⟨srtT F, lenT T, cntW w L, rfl, by rw [hpl.length_eq]; exact hlk, by omega, fun U hU => ?_, hasc, q _⟩
  obtain ⟨h1, h2, h3, h4⟩ := hfin U (hpl.mem_iff.mp hU)
  exact ⟨h1, h2, h3, fun v hv => (h4 v hv).2⟩
theorem len_lrM : ∀ (n : Nat) (t : Int), (lrM n t).length ≤ (t.toNat + 1) ^ n
  | 0, t => by
    show (if t = 0 then [[]] else ([] : List (List Int))).length ≤ 1
    split
    · exact Nat.le_refl _
    · exact Nat.zero_le _
  | n + 1, t => by
    show ((List.range (t + 1).toNat).flatMap _).length ≤ _
    refine Nat.le_trans (len_flat (n := (t.toNat + 1) ^ n) fun a ha => ?_) ?_
    · rw [List.length_map]
      refine Nat.le_trans (len_lrM n _) (Nat.pow_le_pow_left ?_ _)
      omega
    · rw [List.length_range, Nat.pow_succ, Nat.mul_comm]
      exact Nat.mul_le_mul_left _ (by omega)
def pre_law_rows (n : Nat) : Pre := fun rs O Q => ∃ (t : Int) (c : Nat), rs = [iV t, iV (c : Int)] ∧ c ≤ n ∧ c ≤ 3 ∧ 0 ≤ t ∧ t ≤ 10 ∧ Q (.dat (lS (lrM c t))) O
theorem len_law_rows (n : Nat) (rs : List SD) (O : Own) (Q : SD → Own → Prop) (h : pre_law_rows n rs O Q) : rs.length = 2 := by
  obtain ⟨t, c, rfl, _⟩ := h
  rfl
abbrev s_law_rows : Stmt := topS 21
theorem sc_law_rows : FnScope ["total", "columns", "found", "amount", "rest"] ["total", "columns"] (defScope s_law_rows) := ⟨rfl, rfl, rfl, by decide +kernel, rfl, by decide +kernel, by decide +kernel⟩
set_option maxHeartbeats 4000000 in
theorem ok_law_rows  (D : Def K mg "_law_rows" s_law_rows) (m_range : mg "range" = none) : ∀ n : Nat, Callee P w K mg base "_law_rows" ["total", "columns"] (n + 1) (pre_law_rows n) := by
  obtain ⟨f, fd, F, hmg⟩ := D
  have g_law_rows := hmg
  have kp_law_rows := F.kp
  have b_law_rows : Binds K fd ["total", "columns"] [] := F.binds fun _ _ _ _ _ _ us hl => match us, hl with | [_, _], _ => rfl
  have step : ∀ n, FnOk P w K mg base CX0 (n + 0) f fd ["total", "columns"] (spW K (preM pre_law_rows n)) → FnOk P w K mg base CX0 (n + 1) f fd ["total", "columns"] (spW K (pre_law_rows n)) := by
    intro n G_law_rows
    refine fn_ok F sc_law_rows (len_law_rows n) fun cdv A outer s H E hr => ⟨_, (pss_cons (ps_if (pt_cmpR op_eq (pv 1) pe_int (nomark _)) (pss_cons (ps_if (pt_cmpR op_eq (pv 0) pe_int (nomark _)) (pss_one (ps_ret (pe_lst (pa_cons (pe_tup pa_nil) pa_nil)))) pss_nil)
      (pss_one (ps_ret (pe_lst pa_nil)))) pss_nil)
      (pss_cons (ps_set (i := 2) sc_law_rows.nd rfl (.inl rfl) (pe_lst pa_nil))
      (pss_cons (ps_for PassesOwn.never rfl (pi_range1 (by rfl) m_range (pa_cons (pe_op op_add (pv 0) pe_int) pa_nil)) (pg_name (i := 3) sc_law_rows.nd rfl (.inl rfl)) (pss_one (ps_for PassesOwn.never rfl (piL K (pe_call G_law_rows (hr.mono (by omega)) (by rfl) g_law_rows kp_law_rows b_law_rows .nil pass0 (pa_cons (pe_op op_sub (pv 0) (pv 3)) (pa_cons (pe_op op_sub (pv 1) pe_int) pa_nil)))) (pg_name (i := 4) sc_law_rows.nd rfl (.inl rfl)) (pss_one (psApp K (ps_expr (pe_bm PySem.F.plainAttrs_list PySem.F.slot_list_append PySem.F.type_list_append mt_append (pv 2) (pa_cons (pe_op (kCatT K) (pe_tup (pa_cons (pv 3) pa_nil)) (pv 4)) pa_nil))))))))
      (pss_one (ps_ret (pv 2)))))), ?_⟩
    intro rs O Q h
    obtain ⟨t, c, rfl, hc, hc3, ht0, ht1, q⟩ := h
    show StW K _ O [iV t, iV (c : Int), .non, .non, .non] _
    refine s_seq (s_if ?_)
    repeat' walk_at "e"
    · rename_i h0
      obtain rfl : c = 0 := by omega
      refine s_seq (s_if ?_)
      repeat' walk_at "e"
      · rename_i hz
        subst hz
        repeat' walk_at "w"
        exact q
      · rename_i hz
        with_reducible refine s_next ?_
        repeat' walk_at "w"
        repeat' walk_at "e"
        have e : lrM 0 t = [] := if_neg hz
        rw [e] at q
        exact q
    rename_i h0
    with_reducible refine s_next ?_
    obtain ⟨c, rfl⟩ : ∃ c', c = c' + 1 := ⟨c - 1, by omega⟩
    obtain ⟨n, rfl⟩ : ∃ n', n = n' + 1 := ⟨n - 1, by omega⟩
    have hM : ∀ s : Int, s ≤ 10 → (lrM c s).length ≤ 1331 := fun s hs => by
      refine Nat.le_trans (len_lrM c s) (Nat.le_trans (Nat.pow_le_pow_left (show s.toNat + 1 ≤ 11 by omega) c) ?_)
      exact Nat.le_trans (Nat.pow_le_pow_right (by decide) (show c ≤ 3 by omega)) (by decide)
    refine s_seq (s_asg (w_lstO (w_nil ⟨sz_ok rfl, fun p => ?_⟩)))
    refine s_seq (s_for1 ?_)
    repeat' walk_at "e"
    refine ⟨by omega, by omega, fun a O2 ds2 => ∃ (x y : SD), O2 = (p, .lst (dS ((List.range a).flatMap fun (a : Nat) => (lrM c (t - (a : Int))).map fun r => (a : Int) :: r))) :: O ∧ ds2 = [iV t, iV ((c + 1 : Nat) : Int), .ad p, x, y], ⟨_, _, rfl, rfl⟩, fun a O2 ds2 hk hI B hB => ?_, fun O2 ds2 hI => ?_⟩
    · obtain ⟨x, y, rfl, rfl⟩ := hI
      have hpre : ((List.range a).flatMap fun (a : Nat) => (lrM c (t - (a : Int))).map fun r => (a : Int) :: r).length ≤ a * 1331 := by
        have := len_flat (f := fun (a : Nat) => (lrM c (t - (a : Int))).map fun r => (a : Int) :: r) (n := 1331) (l := List.range a) fun b _ => by
          rw [List.length_map]
          exact hM _ (by omega)
        rwa [List.length_range] at this
      have hMt := hM (t - (a : Int)) (by omega)
      refine s_forL ?_
      repeat' walk_at "e"
      refine ⟨t - (a : Int), c, by rw [show ((c + 1 : Nat) : Int) - 1 = (c : Int) by omega], by omega, by omega, by omega, by omega, ?_⟩
      refine ⟨_, rfl, fun j O3 ds3 => ∃ (y : SD), O3 = (p, .lst (dS (((List.range a).flatMap fun (a : Nat) => (lrM c (t - (a : Int))).map fun r => (a : Int) :: r) ++ ((lrM c (t - (a : Int))).take j).map fun r => (a : Int) :: r))) :: O ∧ ds3 = [iV t, iV ((c + 1 : Nat) : Int), .ad p, iV (a : Int), y], ⟨_, by rw [List.take_zero, List.map_nil, List.append_nil], rfl⟩, fun j d O3 ds3 hd hJ B2 hB2 => ?_, fun O3 ds3 hJ => ?_⟩
      · obtain ⟨y, rfl, rfl⟩ := hJ
        obtain ⟨r, hr, rfl⟩ := map_get hd
        obtain ⟨hj, _⟩ := List.getElem?_eq_some_iff.mp hr
        have hsz : (dS (((List.range a).flatMap fun (a : Nat) => (lrM c (t - (a : Int))).map fun r => (a : Int) :: r) ++ ((lrM c (t - (a : Int))).take j).map fun r => (a : Int) :: r)).length ≤ 100000 := by
          rw [List.length_map, List.length_append, List.length_map, List.length_take]
          omega
        have hrl := ((mem_lrM (n := c) (t := t - (a : Int)) (r := r) (by omega)).mp (List.mem_of_getElem? hr)).1
        refine s_drop (w_bm ?_)
        repeat' walk_at "e"
        refine hB2.nx _ _ ⟨.dat (tI r), ?_, rfl⟩
        rw [take_next hr, List.map_append, ← List.append_assoc, show List.map (fun r => (a : Int) :: r) [r] = [(a : Int) :: r] from rfl]
        rw [show ∀ (L : List (List Int)) (u : List Int), dS (L ++ [u]) = dS L ++ [SD.dat (tI u)] from fun L u => List.map_append]
        rfl
      · obtain ⟨y, rfl, rfl⟩ := hJ
        refine hB.nx _ _ ⟨_, _, ?_, rfl⟩
        rw [List.length_map, List.take_length, List.range_succ, List.flatMap_append, List.flatMap_singleton]
    obtain ⟨x, y, rfl, rfl⟩ := hI
    refine s_ret (w_frz ?_)
    repeat' walk_at "e"
    refine ⟨p, _, _, O, rfl, .refl _, tS_dats _, ?_⟩
    exact q
  intro n
  refine ⟨f, fd, ?_, g_law_rows, kp_law_rows, b_law_rows, Wk.Fun.lk F⟩
  induction n with
  | zero => exact step 0 FnOk.never
  | succ n ih => exact step (n + 1) (ih.mono (by omega))
abbrev dF (fs : List (List (List Int))) : List SD := fs.map fun f => SD.dat (tS f)
theorem dF_dats (fs : List (List (List Int))) : Dats (dF fs) (fs.map fun f => tS f) := by
  have e : dF fs = (fs.map fun f => tS f).map SD.dat := by
    rw [List.map_map]
    rfl
  rw [e]
  exact Dats.map _
theorem dF_app (L : List (List (List Int))) (u : List (List Int)) : dF (L ++ [u]) = dF L ++ [SD.dat (tS u)] := List.map_append
theorem len_lr2 : ∀ (n : Nat) {t : Int}, 0 ≤ t → (lrM n t).length ≤ n ^ t.toNat
  | 0, t, h => by
    show (if t = 0 then [[]] else ([] : List (List Int))).length ≤ _
    split
    · rename_i z
      rw [z]
      exact Nat.le_refl _
    · exact Nat.zero_le _
  | n + 1, t, h => by
    show ((List.range (t + 1).toNat).flatMap _).length ≤ _
    rw [List.length_flatMap]
    refine Nat.le_trans ?_ (pw_le n t.toNat (t + 1).toNat (by omega))
    refine sum_le2 fun a ha => ?_
    have := List.mem_range.mp ha
    rw [List.length_map]
    have := len_lr2 n (t := t - (a : Int)) (by omega)
    rwa [show (t - (a : Int)).toNat = t.toNat - a by omega] at this
def lbStep (n : Nat) (B : List (List (List Int))) (t : Int) : List (List (List Int)) := B.flatMap fun b => (lrM n t).map fun r => b ++ [r]
theorem lb_take {rows : List Int} {n i : Nat} {t : Int} (h : rows[i]? = some t) : lbK (rows.take (i + 1)) n = lbStep n (lbK (rows.take i) n) t := by
  unfold lbK
  rw [take_next h, List.foldl_append]
  rfl
theorem lb_all {rows : List Int} {n : Nat} (hr : ∀ x ∈ rows, 0 ≤ x) : ∀ i, i ≤ rows.length → (∀ b ∈ lbK (rows.take i) n, b.length = i ∧ ∀ r ∈ b, r.length = n) ∧ (lbK (rows.take i) n).length ≤ n ^ ((rows.take i).map Int.toNat).sum
  | 0, _ => ⟨fun b hb => by
    rw [List.mem_singleton.mp (show b ∈ [[]] from hb)]
    exact ⟨rfl, fun _ h => absurd h List.not_mem_nil⟩, Nat.le_refl 1⟩
  | i + 1, hi => by
    obtain ⟨h1, h2⟩ := lb_all (n := n) hr i (by omega)
    have ht : rows[i]? = some rows[i] := List.getElem?_eq_getElem hi
    have ht0 := hr _ (List.getElem_mem hi)
    rw [lb_take ht]
    refine ⟨fun b hb => ?_, ?_⟩
    · unfold lbStep at hb
      obtain ⟨b', hb', h3⟩ := List.mem_flatMap.mp hb
      obtain ⟨r, hr', rfl⟩ := List.mem_map.mp h3
      obtain ⟨h4, h5⟩ := h1 b' hb'
      refine ⟨by rw [List.length_append, h4]; rfl, fun x hx => ?_⟩
      rcases List.mem_append.mp hx with hx | hx
      · exact h5 x hx
      · rw [List.mem_singleton.mp hx]
        exact ((mem_lrM ht0).mp hr').1
    · have h3 : (lbStep n (lbK (rows.take i) n) rows[i]).length ≤ (lbK (rows.take i) n).length * n ^ (rows[i]).toNat := len_flat fun p hp => by
        rw [List.length_map]
        exact len_lr2 n ht0
      refine Nat.le_trans h3 (Nat.le_trans (Nat.mul_le_mul_right _ h2) ?_)
      rw [← Nat.pow_add, take_next ht, List.map_append, List.sum_append, List.map_singleton, List.sum_singleton]
      exact Nat.le_refl _
def pre_law_boards : Pre := fun rs O Q => ∃ (rows cols : List Int), rs = [.dat (tI rows), .dat (tI cols)] ∧ rows.length ≤ 3 ∧ 1 ≤ cols.length ∧ cols.length ≤ 3 ∧ (∀ x ∈ rows, 0 ≤ x ∧ x ≤ 10) ∧ rows.sum ≤ 5 ∧ Q (.dat (lF ((lbK rows cols.length).filter fun b => decide (csums b cols.length = cols)))) O
theorem len_law_boards (rs : List SD) (O : Own) (Q : SD → Own → Prop) (h : pre_law_boards rs O Q) : rs.length = 2 := by
  obtain ⟨t, c, rfl, _⟩ := h
  rfl
abbrev s_law_boards : Stmt := topS 22
theorem sc_law_boards : FnScope ["rows", "columns", "boards", "total", "longer", "board", "row", "found", "sums", "j"] ["rows", "columns"] (defScope s_law_boards) := ⟨rfl, rfl, rfl, by decide +kernel, rfl, by decide +kernel, by decide +kernel⟩
set_option maxHeartbeats 4000000 in
theorem ok_law_boards  (D : Def K mg "_law_boards" s_law_boards) (C_law_rows : Callee P w K mg base "_law_rows" ["total", "columns"] 4 (pre_law_rows 3)) (m_len : mg "len" = none) (m_range : mg "range" = none) (m_sum : mg "sum" = none) (m_tuple : mg "tuple" = none) : Callee P w K mg base "_law_boards" ["rows", "columns"] 5 pre_law_boards := by
  obtain ⟨f, fd, F, hmg⟩ := D
  obtain ⟨f_law_rows, fd_law_rows, G_law_rows, g_law_rows, kp_law_rows, b_law_rows, _⟩ := C_law_rows
  refine ⟨f, fd, fn_ok F sc_law_boards len_law_boards fun cdv A outer s H E hr => ⟨_, (pss_cons (ps_set (i := 2) sc_law_boards.nd rfl (.inl rfl) (pe_lst (pa_cons (pe_tup pa_nil) pa_nil)))
      (pss_cons (ps_for PassesOwn.never rfl (piT K (pv 0)) (pg_name (i := 3) sc_law_boards.nd rfl (.inl rfl)) (pss_cons (ps_set (i := 4) sc_law_boards.nd rfl (.inl rfl) (pe_lst pa_nil))
      (pss_cons (ps_for PassesOwn.never rfl (piL K (pv 2)) (pg_name (i := 5) sc_law_boards.nd rfl (.inr rfl)) (pss_one (ps_for PassesOwn.never rfl (piL K (pe_call G_law_rows (hr.mono (by decide)) (by rfl) g_law_rows kp_law_rows b_law_rows .nil pass0 (pa_cons (pv 3) (pa_cons (pe_callB (kLen K) (by rfl) m_len PySem.boot_len (pa_cons (pv 1) pa_nil)) pa_nil)))) (pg_name (i := 6) sc_law_boards.nd rfl (.inl rfl)) (pss_one (psApp K (ps_expr (pe_bm PySem.F.plainAttrs_list PySem.F.slot_list_append PySem.F.type_list_append mt_append (pv 4) (pa_cons (pe_op (kCatT K) (pv 5) (pe_tup (pa_cons (pv 6) pa_nil))) pa_nil))))))))
      (pss_one (ps_set (i := 2) sc_law_boards.nd rfl (.inl rfl) (pv 4))))))
      (pss_cons (ps_set (i := 7) sc_law_boards.nd rfl (.inl rfl) (pe_lst pa_nil))
      (pss_cons (ps_for PassesOwn.never rfl (piL K (pv 2)) (pg_name (i := 5) sc_law_boards.nd rfl (.inr rfl)) (pss_cons (ps_set (i := 8) sc_law_boards.nd rfl (.inl rfl) (pe_callTy (kTupOf K) (by rfl) m_tuple (by decide +kernel) (pa_cons (pe_lc (own := [("j", 9)]) (g := gName 9) rfl sc_law_boards.nd (pi_range1 (by rfl) m_range (pa_cons (pe_callB (kLen K) (by rfl) m_len PySem.boot_len (pa_cons (pv 1) pa_nil)) pa_nil)) (blkOk_by (own := [("j", 9)]) (N := ["rows", "columns", "boards", "total", "longer", "board", "row", "found", "sums", "j"]) (by first | (show blkC _ (defScope s_law_boards) _ _ = true; decide +kernel) | kernel_rfl | rfl)) (fun _ _ _ _ _ => pg_name (i := 9) sc_law_boards.nd rfl (by first | exact Or.inl rfl | exact Or.inr rfl)) (fun _ _ _ _ _ => pts_nil) (fun _ _ _ _ _ => (pe_callB (kSum K rfl) (by rfl) m_sum (by decide +kernel) (pa_cons (pe_lc (own := [("row", 6)]) (g := gName 6) rfl sc_law_boards.nd (piT K (pv 5)) (blkOk_by (own := [("row", 6)]) (N := ["rows", "columns", "boards", "total", "longer", "board", "row", "found", "sums", "j"]) (by first | (show blkC _ (defScope s_law_boards) _ _ = true; decide +kernel) | kernel_rfl | rfl)) (fun _ _ _ _ _ => pg_name (i := 6) sc_law_boards.nd rfl (by first | exact Or.inl rfl | exact Or.inr rfl)) (fun _ _ _ _ _ => pts_nil) (fun _ _ _ _ _ => (pe_ix (ixT K) (pv 6) (pv 9) (fun _ _ => rfl)))) pa_nil)))) pa_nil)))
      (pss_one (ps_if (pt_cmpR (kEqD K hr.units) (pv 8) (pv 1) (nomark _)) (pss_one (psApp K (ps_expr (pe_bm PySem.F.plainAttrs_list PySem.F.slot_list_append PySem.F.type_list_append mt_append (pv 7) (pa_cons (pv 5) pa_nil))))) pss_nil))))
      (pss_one (ps_ret (pv 7))))))), ?_⟩, hmg, F.kp, F.binds fun _ _ _ _ _ _ us hl => match us, hl with | [_, _], _ => rfl, Wk.Fun.lk F⟩
  intro rs O Q h
  obtain ⟨rows, cols, rfl, hrl, hc1, hc3, hr, hsum, q⟩ := h
  have hall := lb_all (n := cols.length) fun x hx => (hr x hx).1
  have hlen : ∀ i, i ≤ rows.length → (lbK (rows.take i) cols.length).length ≤ 243 := fun i hi => by
    refine Nat.le_trans (hall i hi).2 (Nat.le_trans (Nat.pow_le_pow_left hc3 _) (Nat.le_trans (Nat.pow_le_pow_right (by decide) (?_ : _ ≤ 5)) (by decide)))
    have h1 : ((rows.take i).map Int.toNat).sum ≤ rows.sum.toNat := by
      rw [← (sumN_sum fun x hx => (hr x hx).1).1]
      conv => rhs; rw [← List.take_append_drop i rows]
      rw [List.map_append, List.sum_append]
      exact Nat.le_add_right _ _
    omega
  show StW K _ O [.dat (tI rows), .dat (tI cols), .non, .non, .non, .non, .non, .non, .non, .non] _
  refine s_seq (s_asg ?_)
  repeat' walk_at "e"
  refine s_seq (s_forT ?_)
  repeat' walk_at "e"
  refine ⟨fun i O2 ds2 => ∃ (x3 x4 x5 x6 : SD), O2 = O ∧ ds2 = [.dat (tI rows), .dat (tI cols), .dat (lF (lbK (rows.take i) cols.length)), x3, x4, x5, x6, .non, .non, .non], ⟨_, _, _, _, rfl, rfl⟩, fun i d O2 ds2 hd hI B hB => ?_, fun O2 ds2 hI => ?_⟩
  · obtain ⟨x3, x4, x5, x6, rfl, rfl⟩ := hI
    obtain ⟨t, ht, rfl⟩ := map_get hd
    obtain ⟨hi, _⟩ := List.getElem?_eq_some_iff.mp ht
    have htb := hr t (List.mem_of_getElem? ht)
    have hB1 := (hall i (by omega)).1
    have hl1 := hlen (i + 1) (by omega)
    have e1 := lb_take (n := cols.length) ht
    rw [e1] at hl1
    generalize lbK (rows.take i) cols.length = F at *
    refine s_seq (s_asg (w_lstO (w_nil ⟨sz_ok rfl, fun p => ?_⟩)))
    refine s_seq (s_forL ?_)
    repeat' walk_at "e"
    refine ⟨fun a O3 ds3 => ∃ (x5 x6 : SD), O3 = (p, .lst (dF (lbStep cols.length (F.take a) t))) :: O2 ∧ ds3 = [.dat (tI rows), .dat (tI cols), .dat (lF F), iV t, .ad p, x5, x6, .non, .non, .non], ⟨_, _, rfl, rfl⟩, fun a dd O3 ds3 hd hJ B2 hB2 => ?_, fun O3 ds3 hJ => ?_⟩
    · obtain ⟨x5, x6, rfl, rfl⟩ := hJ
      obtain ⟨b, hb, rfl⟩ := map_get hd
      obtain ⟨b1, b2⟩ := hB1 b (List.mem_of_getElem? hb)
      have estep : lbStep cols.length (F.take (a + 1)) t = lbStep cols.length (F.take a) t ++ (lrM cols.length t).map fun r => b ++ [r] := by
        unfold lbStep
        rw [take_next hb, List.flatMap_append, List.flatMap_singleton]
      have hl2 : (lbStep cols.length (F.take (a + 1)) t).length ≤ 243 := Nat.le_trans (flat_take _ _ _) hl1
      refine s_forL ?_
      repeat' walk_at "e"
      refine ⟨t, cols.length, by rw [List.length_map], hc3, hc3, htb.1, htb.2, ?_⟩
      refine ⟨_, rfl, fun j O4 ds4 => ∃ (x6 : SD), O4 = (p, .lst (dF (lbStep cols.length (F.take a) t ++ ((lrM cols.length t).map fun r => b ++ [r]).take j))) :: O2 ∧ ds4 = [.dat (tI rows), .dat (tI cols), .dat (lF F), iV t, .ad p, .dat (tS b), x6, .non, .non, .non], ⟨_, by rw [List.take_zero, List.append_nil], rfl⟩, fun j d1 O4 ds4 hd1 hJ B3 hB3 => ?_, fun O4 ds4 hJ => ?_⟩
      · obtain ⟨x6, rfl, rfl⟩ := hJ
        obtain ⟨r, hr1, rfl⟩ := map_get hd1
        have hsz : (dF (lbStep cols.length (F.take a) t ++ ((lrM cols.length t).map fun r => b ++ [r]).take j)).length ≤ 100000 := by
          rw [List.length_map]
          rw [estep] at hl2
          exact Nat.le_trans (Nat.le_trans (List.Sublist.length_le ((List.take_sublist _ _).append_left _)) hl2) (by decide)
        refine s_drop (w_bm ?_)
        repeat' walk_at "e"
        have e2 : ((lrM cols.length t).map fun r => b ++ [r])[j]? = some (b ++ [r]) := by rw [List.getElem?_map, hr1]; rfl
        have e3 : PyData.tuple (b.map (fun c => tI c) ++ [tI r]) = tS (b ++ [r]) := by
          show _ = PyData.tuple ((b ++ [r]).map fun c => tI c)
          rw [List.map_append]
          rfl
        refine hB3.nx _ _ ⟨.dat (tI r), ?_, rfl⟩
        rw [take_next e2, ← List.append_assoc, e3, dF_app]
      · obtain ⟨x6, rfl, rfl⟩ := hJ
        refine hB2.nx _ _ ⟨_, _, ?_, rfl⟩
        have e5 : ((lrM cols.length t).map fun r => b ++ [r]).take (lrM cols.length t).length = (lrM cols.length t).map fun r => b ++ [r] := List.take_of_length_le (by rw [List.length_map]; exact Nat.le_refl _)
        rw [List.length_map, e5, ← estep]
    · obtain ⟨x5, x6, rfl, rfl⟩ := hJ
      rw [List.length_map, List.take_length]
      refine s_frz (i := 4) rfl (.refl _) (dF_dats _) ?_
      refine s_asg ?_
      repeat' walk_at "e"
      refine hB.nx _ _ ⟨iV t, .dat (lF (lbStep cols.length F t)), x5, x6, rfl, ?_⟩
      rw [e1]
      rfl
  obtain ⟨x3, x4, x5, x6, rfl, rfl⟩ := hI
  rw [List.length_map, List.take_length]
  have hB2 := (hall rows.length (Nat.le_refl _)).1
  have hl2 := hlen rows.length (Nat.le_refl _)
  rw [List.take_length] at hB2 hl2
  generalize lbK rows cols.length = F at *
  refine s_seq (s_asg (w_lstO (w_nil ⟨sz_ok rfl, fun p => ?_⟩)))
  refine s_seq (s_forL ?_)
  repeat' walk_at "e"
  refine ⟨fun a O3 ds3 => ∃ (x5 x6 x8 x9 : SD), O3 = (p, .lst (dF ((F.take a).filter fun b => decide (csums b cols.length = cols)))) :: O2 ∧ ds3 = [.dat (tI rows), .dat (tI cols), .dat (lF F), x3, x4, x5, x6, .ad p, x8, x9], ⟨_, _, _, _, rfl, rfl⟩, fun a dd O3 ds3 hd hJ B2 hBb => ?_, fun O3 ds3 hJ => ?_⟩
  · obtain ⟨x5, x6, x8, x9, rfl, rfl⟩ := hJ
    obtain ⟨b, hb, rfl⟩ := map_get hd
    obtain ⟨b1, b2⟩ := hB2 b (List.mem_of_getElem? hb)
    refine s_seq (s_asg (w_cb (w_cons (w_frz (w_lc1 ?_)))))
    repeat' walk_at "e"
    refine ⟨by rw [List.length_map]; omega, by omega, fun j acc O4 => acc = ((csums b cols.length).take j).map (fun z => iV z) ∧ O4 = (p, OD.lst (dF ((F.take a).filter fun b => decide (csums b cols.length = cols)))) :: O2, ⟨rfl, rfl⟩, fun j acc O4 hj hl hJ => ?_, fun acc O4 Dl hJ => ?_⟩
    · obtain ⟨rfl, rfl⟩ := hJ
      intro Dl
      rw [List.length_map] at hj
      refine t_yes ⟨fun _ => ?_, fun z => nomatch z⟩
      refine w_cb (w_cons (w_frz (w_lcT ?_)))
      repeat' walk_at "e"
      refine ⟨by rw [List.length_map]; omega, fun u acc O5 => acc = ((b.map fun r => r.getD j 0).take u).map (fun z => iV z) ∧ O5 = (Dl, OD.lst (((csums b cols.length).take j).map fun z => iV z)) :: (p, OD.lst (dF ((F.take a).filter fun b => decide (csums b cols.length = cols)))) :: O2, ⟨rfl, rfl⟩, fun u d acc O5 hd2 hl2 hJ => ?_, fun acc O5 Dl2 hJ => ?_⟩
      · obtain ⟨rfl, rfl⟩ := hJ
        intro Dl2
        obtain ⟨r, hr2, rfl⟩ := map_get hd2
        have hrl := b2 r (List.mem_of_getElem? hr2)
        refine t_yes ⟨fun _ => ?_, fun z => nomatch z⟩
        repeat' walk_at "e"
        refine ⟨_, .refl _, ?_, rfl⟩
        have e : (b.map fun r => r.getD j 0)[u]? = some (r.getD j 0) := by rw [List.getElem?_map, hr2]; rfl
        rw [take_next e, List.map_append, Int.toNat_natCast]
        rfl
      obtain ⟨rfl, rfl⟩ := hJ
      rw [List.length_map, List.take_of_length_le (by rw [List.length_map]; exact Nat.le_refl _)]
      refine ⟨Dl2, _, _, _, rfl, .refl _, Dats.ints _, ?_⟩
      repeat' walk_at "e"
      refine ⟨_, .refl _, ?_, rfl⟩
      have e : (csums b cols.length)[j]? = some ((b.map fun r => r.getD j 0).sum) := rg_map (by omega)
      rw [take_next e, List.map_append]
      rfl
    obtain ⟨rfl, rfl⟩ := hJ
    rw [List.length_map, Int.toNat_natCast, List.take_of_length_le (by unfold csums; rw [List.length_map, List.length_range]; exact Nat.le_refl _)]
    refine ⟨Dl, _, _, _, rfl, .refl _, Dats.ints _, ?_⟩
    repeat' walk_at "e"
    have hsz : (dF ((F.take a).filter fun b => decide (csums b cols.length = cols))).length ≤ 100000 := by
      rw [List.length_map]
      exact Nat.le_trans (List.length_filter_le _ _) (Nat.le_trans (Nat.le_trans (List.take_sublist _ _).length_le hl2) (by decide))
    refine s_if ?_
    repeat' walk_at "e"
    · rename_i bb hbb hbt
      have hcs : csums b cols.length = cols := tI_inj (hbb.mp hbt)
      refine s_drop (w_bm ?_)
      repeat' walk_at "e"
      refine hBb.nx _ _ ⟨_, _, _, _, ?_, rfl⟩
      rw [take_next hb, List.filter_append, List.filter_cons, decide_eq_true hcs, if_pos rfl, List.filter_nil, dF_app]
    · rename_i bb hbb hbt
      have hcs : ¬ csums b cols.length = cols := fun z => by
        rw [hbb.mpr (by rw [z])] at hbt
        cases hbt
      with_reducible refine s_next ?_
      refine hBb.nx _ _ ⟨_, _, _, _, ?_, rfl⟩
      rw [take_next hb, List.filter_append, List.filter_cons, decide_eq_false hcs, if_neg Bool.false_ne_true, List.filter_nil, List.append_nil]
  obtain ⟨x5, x6, x8, x9, rfl, rfl⟩ := hJ
  rw [List.length_map, List.take_length]
  refine s_ret (w_frz ?_)
  repeat' walk_at "e"
  refine ⟨p, _, _, _, rfl, .refl _, dF_dats _, ?_⟩
  exact q
def pre_law : Pre := fun rs O Q => ∃ ns : List Int, rs = [.scr ns] ∧ O = [] ∧ ns.length ≤ 63 ∧ ∀ O, Q (bV true) O
theorem len_law (rs : List SD) (O : Own) (Q : SD → Own → Prop) (h : pre_law rs O Q) : rs.length = 1 := by
  obtain ⟨ns, rfl, _⟩ := h
  rfl
theorem law_pre {ns : List Int} (h : ns.length ≤ 63) : pre_law [.scr ns] [] fun r _ => r = bV true := ⟨ns, rfl, rfl, h, fun _ => rfl⟩
/-- sums of rows or columns -/
structure Sms (t : Nat) (R : List Int) : Prop where
  l1 : 1 ≤ R.length
  l3 : R.length ≤ 3
  ent : ∀ x ∈ R, 0 ≤ x ∧ x ≤ (t : Int)
  sum : R.sum = (t : Int)
theorem Sms.of {t : Nat} {R : List Int} (h0 : ∀ x ∈ R, 0 ≤ x) (hs : R.sum = (t : Int)) (h1 : 1 ≤ R.length) (h3 : R.length ≤ 3) : Sms t R := by
  refine ⟨h1, h3, fun x hx => ⟨h0 x hx, ?_⟩, hs⟩
  rw [← hs]
  clear hs h1 h3
  induction R with
  | nil => exact absurd hx List.not_mem_nil
  | cons y R ih =>
    have hy := h0 y List.mem_cons_self
    have hR := (sumN_sum fun z hz => h0 z (List.mem_cons_of_mem _ hz)).2
    rw [List.sum_cons]
    rcases List.mem_cons.mp hx with rfl | hx
    · omega
    · have := ih (fun z hz => h0 z (List.mem_cons_of_mem _ hz)) hx
      omega
theorem Sms.get {t : Nat} {R : List Int} (h : Sms t R) (i : Nat) : 0 ≤ R.getD i 0 := by
  rcases Nat.lt_or_ge i R.length with z | z
  · exact (h.ent _ (getD_mem1 z)).1
  · rw [List.getD_eq_getElem?_getD, List.getElem?_eq_none z]
    exact Int.le_refl 0
theorem Sms.mem {t : Nat} {R : List Int} (h : Sms t R) : R ∈ sumsT (t : Int) := mem_sumsT (by omega) h.l1 h.l3 (fun x hx => (h.ent x hx).1) h.sum
theorem shp_one {t : Nat} (ht : t ≤ 5) {s : List Int} (hs : s ∈ shpA (t : Int) (t : Int)) : s.length ≤ 5 ∧ (∀ x ∈ s, 1 ≤ x ∧ x ≤ 100) ∧ s.sum = (t : Int) := by
  obtain ⟨h1, h2⟩ := mem_shpA (by omega) hs
  obtain ⟨h3, h4⟩ := len_le_sum h1
  refine ⟨by omega, fun x hx => ⟨h1 x hx, ?_⟩, h2⟩
  have := h4 x hx
  omega
theorem tab_one {t : Nat} (ht : t ≤ 5) {R s : List Int} (hR : Sms t R) (hs : s ∈ shpA (t : Int) (t : Int)) : tabO s R = srtT (tabK s R R.length) ∧ (srtT (tabK s R R.length)).length = (tabK s R R.length).length ∧ (tabK s R R.length).length ≤ 3125 ∧
    (∀ T ∈ srtT (tabK s R R.length), TabOk T ∧ lenT T = s ∧ cntT T R.length = R ∧ ∀ v ∈ T.flatten, v ≤ (R.length : Int)) ∧ (srtT (tabK s R R.length)).Pairwise fun a b => ltT a b = true := by
  obtain ⟨h1, h2, h3⟩ := shp_one ht hs
  have hpl := srtT_perm (tabK s R R.length)
  have hl3 := hR.l3
  refine ⟨if_pos (h3.trans hR.sum.symm), hpl.length_eq, ?_, fun T hT => ?_, srtT_asc (nd_tabK (fun i hi => by have := (h2 _ (getD_mem1 hi)).1; omega) hR.get _)⟩
  · refine Nat.le_trans (len_tabK hR.get _) ?_
    rw [List.take_length, (sumN_sum fun x hx => (hR.ent x hx).1).1, hR.sum, Int.toNat_natCast]
    exact Nat.le_trans (Nat.pow_le_pow_left h1 _) (Nat.le_trans (Nat.pow_le_pow_right (by decide) ht) (by decide))
  · obtain ⟨a, b, c, d⟩ := tab_fin (fun x hx => (h2 x hx).1) hR.get (h3.trans hR.sum.symm) (by omega) (by omega) (hpl.mem_iff.mp hT)
    exact ⟨a, b, c, fun v hv => (d v hv).2⟩
theorem pw_lim {a b : Nat} (h : a ≤ 7) (h2 : b ≤ 6) : a ^ b ≤ 10000000 := Nat.le_trans (Nat.pow_le_pow_left h _) (Nat.le_trans (Nat.pow_le_pow_right (by decide) h2) (by decide))
theorem brO_no {rows cols : List Int} (h : rows.sum ≠ cols.sum) : brO rows cols = [] := if_neg h
theorem tI_one (C : List Int) (x : Int) : PyData.tuple (C.map PyData.int ++ [.int x]) = tI (C ++ [x]) := by
  show _ = PyData.tuple ((C ++ [x]).map PyData.int)
  rw [List.map_append]
  rfl
theorem cut_initK {α : Type} (xs : List α) : cut xs none (some (-1)) = xs.dropLast := by
  unfold cut
  show (xs.drop 0).take ((if (-1 : Int) < 0 then ((-1 : Int) + (xs.length : Int)).toNat else min (-1 : Int).toNat xs.length) - 0) = _
  rw [if_pos (by decide), List.drop_zero, List.dropLast_eq_take]
  congr 1
  omega
theorem app_ent {C : List Int} {x : Int} (h : ∀ y ∈ C, 0 ≤ y ∧ y ≤ 100) (h0 : 0 ≤ x) (h1 : x ≤ 100) : ∀ y ∈ C ++ [x], 0 ≤ y ∧ y ≤ 100 := fun y hy => by
  rcases List.mem_append.mp hy with hy | hy
  · exact h y hy
  · rw [List.mem_singleton.mp hy]
    exact ⟨h0, h1⟩
theorem app_sum (C : List Int) (x : Int) : (C ++ [x]).sum = C.sum + x := by
  rw [List.sum_append, List.sum_cons, List.sum_nil, Int.add_zero]
theorem app_len (C : List Int) (x : Int) : (C ++ [x]).length = C.length + 1 := by
  rw [List.length_append]
  rfl
abbrev s_law : Stmt := topS 28
theorem sc_law : FnScope ["script", "box", "total", "rows", "columns", "boards", "count", "shape", "one", "two"] ["script"] (defScope s_law) := ⟨rfl, rfl, rfl, by decide +kernel, rfl, by decide +kernel, by decide +kernel⟩
set_option maxHeartbeats 4000000 in
theorem ok_law  (D : Def K mg "law" s_law) (C_law_box : Callee P w K mg base "_law_box" ["script"] 2 pre_law_box) (C_law_next : Callee P w K mg base "_law_next" ["box", "modulus"] 1 pre_law_next) (C_law_sums : Callee P w K mg base "_law_sums" ["box", "total"] 2 pre_law_sums) (C_boards_of : Callee P w K mg base "boards_of" ["rows", "columns"] 2 pre_boards_of) (C_law_shapes_of : Callee P w K mg base "_law_shapes_of" ["total", "most"] 7 (pre_law_shapes_of 6)) (C_tableaux_of : Callee P w K mg base "tableaux_of" ["shape", "content"] 3 pre_tableaux_of) (C_law_fine : Callee P w K mg base "_law_fine" ["tableaux", "shape", "content"] 3 pre_law_fine) (C_law_longer : Callee P w K mg base "_law_longer" ["box"] 4 pre_law_longer) (C_law_boards : Callee P w K mg base "_law_boards" ["rows", "columns"] 5 pre_law_boards) (m_isinstance : mg "isinstance" = none) (m_len : mg "len" = none) (m_list : mg "list" = none) : Callee P w K mg base "law" ["script"] 8 pre_law := by
  obtain ⟨f, fd, F, hmg⟩ := D
  obtain ⟨f_law_box, fd_law_box, G_law_box, g_law_box, kp_law_box, b_law_box, _⟩ := C_law_box
  obtain ⟨f_law_next, fd_law_next, G_law_next, g_law_next, kp_law_next, b_law_next, _⟩ := C_law_next
  obtain ⟨f_law_sums, fd_law_sums, G_law_sums, g_law_sums, kp_law_sums, b_law_sums, _⟩ := C_law_sums
  obtain ⟨f_boards_of, fd_boards_of, G_boards_of, g_boards_of, kp_boards_of, b_boards_of, _⟩ := C_boards_of
  obtain ⟨f_law_shapes_of, fd_law_shapes_of, G_law_shapes_of, g_law_shapes_of, kp_law_shapes_of, b_law_shapes_of, _⟩ := C_law_shapes_of
  obtain ⟨f_tableaux_of, fd_tableaux_of, G_tableaux_of, g_tableaux_of, kp_tableaux_of, b_tableaux_of, _⟩ := C_tableaux_of
  obtain ⟨f_law_fine, fd_law_fine, G_law_fine, g_law_fine, kp_law_fine, b_law_fine, _⟩ := C_law_fine
  obtain ⟨f_law_longer, fd_law_longer, G_law_longer, g_law_longer, kp_law_longer, b_law_longer, _⟩ := C_law_longer
  obtain ⟨f_law_boards, fd_law_boards, G_law_boards, g_law_boards, kp_law_boards, b_law_boards, _⟩ := C_law_boards
  refine ⟨f, fd, fn_ok F sc_law len_law fun cdv A outer s H E hr => ⟨_, (pss_cons (ps_set (i := 1) sc_law.nd rfl (.inl rfl) (pe_call G_law_box (hr.mono (by decide)) (by rfl) g_law_box kp_law_box b_law_box .nil pass0 (pa_cons (pv 0) pa_nil)))
      (pss_cons (ps_set (i := 2) sc_law.nd rfl (.inl rfl) (pe_call G_law_next (hr.mono (by decide)) (by rfl) g_law_next kp_law_next b_law_next .nil pass0 (pa_cons (pv 1) (pa_cons pe_int pa_nil))))
      (pss_cons (ps_set (i := 3) sc_law.nd rfl (.inl rfl) (pe_call G_law_sums (hr.mono (by decide)) (by rfl) g_law_sums kp_law_sums b_law_sums .nil pass0 (pa_cons (pv 1) (pa_cons (pv 2) pa_nil))))
      (pss_cons (ps_set (i := 4) sc_law.nd rfl (.inl rfl) (pe_call G_law_sums (hr.mono (by decide)) (by rfl) g_law_sums kp_law_sums b_law_sums .nil pass0 (pa_cons (pv 1) (pa_cons (pv 2) pa_nil))))
      (pss_cons (ps_set (i := 5) sc_law.nd rfl (.inl rfl) (pe_call G_boards_of (hr.mono (by decide)) (by rfl) g_boards_of kp_boards_of b_boards_of .nil pass0 (pa_cons (pv 3) (pa_cons (pv 4) pa_nil))))
      (pss_cons (ps_if (PW.pt (pw_or (pt_not (pt_val (pe_callB (kIsi K) (by rfl) m_isinstance (by decide +kernel) (pa_cons (pv 5) (pa_cons (pe_bltn (v := .ty "list") (by rfl) m_list (by decide +kernel) rfl) pa_nil))))) (pw_or1 (pt_cmpR (kNeD K hr.units) (pv 5) (pe_call G_law_boards (hr.mono (by decide)) (by rfl) g_law_boards kp_law_boards b_law_boards .nil pass0 (pa_cons (pv 3) (pa_cons (pv 4) pa_nil))) (nomark _))))) (pss_one (ps_ret pe_bl)) pss_nil)
      (pss_cons (ps_set (i := 6) sc_law.nd rfl (.inl rfl) pe_int)
      (pss_cons (ps_for PassesOwn.never rfl (piL K (pe_call G_law_shapes_of (hr.mono (by decide)) (by rfl) g_law_shapes_of kp_law_shapes_of b_law_shapes_of .nil pass0 (pa_cons (pv 2) (pa_cons (pv 2) pa_nil)))) (pg_name (i := 7) sc_law.nd rfl (.inl rfl)) (pss_cons (ps_set (i := 8) sc_law.nd rfl (.inl rfl) (pe_call G_tableaux_of (hr.mono (by decide)) (by rfl) g_tableaux_of kp_tableaux_of b_tableaux_of .nil pass0 (pa_cons (pv 7) (pa_cons (pv 3) pa_nil))))
      (pss_cons (ps_set (i := 9) sc_law.nd rfl (.inl rfl) (pe_call G_tableaux_of (hr.mono (by decide)) (by rfl) g_tableaux_of kp_tableaux_of b_tableaux_of .nil pass0 (pa_cons (pv 7) (pa_cons (pv 4) pa_nil))))
      (pss_cons (ps_if (PW.pt (pw_or (pt_not (pt_val (pe_call G_law_fine (hr.mono (by decide)) (by rfl) g_law_fine kp_law_fine b_law_fine .nil pass0 (pa_cons (pv 8) (pa_cons (pv 7) (pa_cons (pv 3) pa_nil)))))) (pw_or1 (pt_not (pt_val (pe_call G_law_fine (hr.mono (by decide)) (by rfl) g_law_fine kp_law_fine b_law_fine .nil pass0 (pa_cons (pv 9) (pa_cons (pv 7) (pa_cons (pv 4) pa_nil))))))))) (pss_one (ps_ret pe_bl)) pss_nil)
      (pss_one (ps_set (i := 6) sc_law.nd rfl (.inl rfl) (pe_op op_add (pv 6) (pe_op op_mul (pe_callB (kLen K) (by rfl) m_len PySem.boot_len (pa_cons (pv 8) pa_nil)) (pe_callB (kLen K) (by rfl) m_len PySem.boot_len (pa_cons (pv 9) pa_nil))))))))))
      (pss_cons (ps_if (pt_cmpR op_ne (pv 6) (pe_callB (kLen K) (by rfl) m_len PySem.boot_len (pa_cons (pv 5) pa_nil)) (nomark _)) (pss_one (ps_ret pe_bl)) pss_nil)
      (pss_cons (ps_if (PW.pt (pw_or (pt_cmpR (kNeD K hr.units) (pe_call G_tableaux_of (hr.mono (by decide)) (by rfl) g_tableaux_of kp_tableaux_of b_tableaux_of .nil pass0 (pa_cons (pe_op (kRep2 K) (pe_tup (pa_cons pe_int pa_nil)) (pe_op op_add (pv 2) pe_int)) (pa_cons (pv 3) pa_nil))) (pe_lst pa_nil) (nomark _)) (pw_or1 (pt_cmpR (kNeD K hr.units) (pe_call G_boards_of (hr.mono (by decide)) (by rfl) g_boards_of kp_boards_of b_boards_of .nil pass0 (pa_cons (pv 3) (pa_cons (pe_op (kCatT K) (pv 4) (pe_tup (pa_cons pe_int pa_nil))) pa_nil))) (pe_lst pa_nil) (nomark _))))) (pss_one (ps_ret pe_bl)) pss_nil)
      (pss_cons (ps_if (PW.pt (pw_or (pt_cmpR (kNeD K hr.units) (pe_call G_boards_of (hr.mono (by decide)) (by rfl) g_boards_of kp_boards_of b_boards_of .nil pass0 (pa_cons (pe_op (kCatT K) (pv 3) (pe_tup (pa_cons pe_int pa_nil))) (pa_cons (pv 4) pa_nil))) (pe_lst pa_nil) (nomark _)) (pw_or1 (pt_cmpR (kNeD K hr.units) (pe_call G_boards_of (hr.mono (by decide)) (by rfl) g_boards_of kp_boards_of b_boards_of .nil pass0 (pa_cons (pe_op (kCatT K) (pe_slice (slT K) (pv 3) po_none (po_some (pe_un un_neg pe_int))) (pe_tup (pa_cons (pe_op op_add (pe_ix (ixT K) (pv 3) (pe_un un_neg pe_int) (fun _ _ => rfl)) pe_int) pa_nil))) (pa_cons (pv 4) pa_nil))) (pe_lst pa_nil) (nomark _))))) (pss_one (ps_ret pe_bl)) pss_nil)
      (pss_cons (ps_for PassesOwn.never rfl (piL K (pe_call G_law_shapes_of (hr.mono (by decide)) (by rfl) g_law_shapes_of kp_law_shapes_of b_law_shapes_of .nil pass0 (pa_cons (pv 2) (pa_cons (pv 2) pa_nil)))) (pg_name (i := 7) sc_law.nd rfl (.inl rfl)) (pss_one (ps_if (pt_cmpR (kNeD K hr.units) (pe_call G_tableaux_of (hr.mono (by decide)) (by rfl) g_tableaux_of kp_tableaux_of b_tableaux_of .nil pass0 (pa_cons (pv 7) (pa_cons (pe_op (kCatT K) (pe_slice (slT K) (pv 3) po_none (po_some (pe_un un_neg pe_int))) (pe_tup (pa_cons (pe_op op_add (pe_ix (ixT K) (pv 3) (pe_un un_neg pe_int) (fun _ _ => rfl)) pe_int) pa_nil))) pa_nil))) (pe_lst pa_nil) (nomark _)) (pss_one (ps_ret pe_bl)) pss_nil)))
      (pss_one (ps_ret (pe_call G_law_longer (hr.mono (by decide)) (by rfl) g_law_longer kp_law_longer b_law_longer .nil pass0 (pa_cons (pv 1) pa_nil)))))))))))))))), ?_⟩, hmg, F.kp, F.binds fun _ _ _ _ _ _ us hl => match us, hl with | [_], _ => rfl, Wk.Fun.lk F⟩
  intro rs O Q h
  obtain ⟨ns, rfl, rfl, hn, q⟩ := h
  show StW K _ [] [.scr ns, .non, .non, .non, .non, .non, .non, .non, .non, .non] _
  refine s_seq (s_asg ?_)
  repeat' walk_at "e"
  refine ⟨ns, rfl, hn, fun bx row hbox => ?_⟩
  refine s_seq (s_asg ?_)
  repeat' walk_at "e"
  rename_i t0 ht0 ht1
  obtain ⟨t, rfl⟩ : ∃ t : Nat, t0 = (t : Int) := ⟨t0.toNat, by omega⟩
  have ht5 : t ≤ 5 := by omega
  refine s_seq (s_asg ?_)
  repeat' walk_at "e"
  refine ⟨bx, row, _, (t : Int), [], rfl, rfl, hbox, by omega, by omega, by omega, by omega, fun R k1 hR0 hRs hR1 hR3 hk10 hk11 => ?_⟩
  have hR := Sms.of hR0 hRs hR1 hR3
  clear hR0 hRs hR1 hR3
  refine s_seq (s_asg ?_)
  repeat' walk_at "e"
  refine ⟨bx, row, _, (t : Int), [], rfl, rfl, hbox, by omega, by omega, by omega, by omega, fun C k2 hC0 hCs hC1 hC3 hk20 hk21 => ?_⟩
  have hC := Sms.of hC0 hCs hC1 hC3
  clear hC0 hCs hC1 hC3
  have hRl1 := hR.l1
  have hRl3 := hR.l3
  have hCl1 := hC.l1
  have hCl3 := hC.l3
  have hRb : ∀ x ∈ R, 0 ≤ x ∧ x ≤ 100 := fun x hx => by have := hR.ent x hx; omega
  have hCb : ∀ x ∈ C, 0 ≤ x ∧ x ≤ 100 := fun x hx => by have := hC.ent x hx; omega
  have hRs := hR.sum
  have hCs := hC.sum
  have hRn : R.sum.toNat = t := by rw [hRs, Int.toNat_natCast]
  have hCn : C.sum.toNat = t := by rw [hCs, Int.toNat_natCast]
  obtain ⟨hb1, hb2, hb3⟩ := brds_ok ht5 hR.mem hC.mem
  have hbO : brO R C = (brF R C).map (·.1) := by
    unfold brO
    rw [if_pos (hRs.trans hCs.symm), hb2]
  have hbl := (br_all (fun x hx => (hR.ent x hx).1) hCb R.length (Nat.le_refl _)).2
  rw [List.take_length, (sumN_sum fun x hx => (hR.ent x hx).1).1, hRn] at hbl
  have hbl2 : (brF R C).length ≤ 10000000 := Nat.le_trans hbl (pw_lim (by omega) (by omega))
  refine s_seq (s_asg ?_)
  repeat' walk_at "e"
  refine ⟨R, C, rfl, by omega, by omega, hRb, hCb, by rw [hRn]; exact pw_lim (by omega) (by omega), ?_⟩
  rw [hbO]
  refine s_seq (s_if ?_)
  repeat' walk_at "e"
  refine ⟨R, C, rfl, hRl3, hCl1, hCl3, fun x hx => by have := hR.ent x hx; omega, by omega, ?_⟩
  rw [← hb1]
  repeat' walk_at "e"
  · rename_i bb hbb hbt
    exfalso
    rw [hbb.mpr rfl] at hbt
    exact nomatch hbt
  with_reducible refine s_next ?_
  refine s_seq (s_asg ?_)
  repeat' walk_at "e"
  have eS : shpM t (t : Int) (t : Int) = shpA (t : Int) (t : Int) := by
    unfold shpA
    rw [Int.toNat_natCast]
  rw [eS] at hb3
  have hS1 := fun s hs => shp_one ht5 (s := s) hs
  have hSR := fun s hs => tab_one ht5 hR (s := s) hs
  have hSC := fun s hs => tab_one ht5 hC (s := s) hs
  have hSl := len_shpA (t := (t : Int)) (m := (t : Int)) (by omega)
  generalize hSe : shpA (t : Int) (t : Int) = S at *
  refine s_seq (s_forL ?_)
  repeat' walk_at "e"
  refine ⟨(t : Int), (t : Int), rfl, by omega, by omega, by omega, by omega, by omega, ?_⟩
  rw [hSe]
  refine ⟨_, rfl, fun i O2 ds2 => ∃ (x7 x8 x9 : SD), O2 = [Box bx row k2] ∧ ds2 = [.scr ns, .ad bx, iV (t : Int), .dat (tI R), .dat (tI C), .dat (lF ((brF R C).map (·.1))), iV ((((S.take i).map fun s => (tabK s R R.length).length * (tabK s C C.length).length).sum : Nat) : Int), x7, x8, x9], ⟨_, _, _, rfl, rfl⟩, fun i d O2 ds2 hd hI B hB => ?_, fun O2 ds2 hI => ?_⟩
  · obtain ⟨x7, x8, x9, rfl, rfl⟩ := hI
    obtain ⟨s, hs, rfl⟩ := map_get hd
    have hsm := List.mem_of_getElem? hs
    obtain ⟨s1, s2, s3⟩ := hS1 s hsm
    obtain ⟨r1, r2, r3, r4, r5⟩ := hSR s hsm
    obtain ⟨c1, c2, c3, c4, c5⟩ := hSC s hsm
    refine s_seq (s_asg ?_)
    repeat' walk_at "e"
    refine ⟨s, R, rfl, by omega, s2, by omega, hRb, by rw [hRn]; exact pw_lim (by omega) (by omega), ?_⟩
    rw [r1]
    refine s_seq (s_asg ?_)
    repeat' walk_at "e"
    refine ⟨s, C, rfl, by omega, s2, by omega, hCb, by rw [hCn]; exact pw_lim (by omega) (by omega), ?_⟩
    rw [c1]
    refine s_seq (s_if ?_)
    repeat' walk_at "e"
    refine ⟨srtT (tabK s R R.length), s, R, rfl, by rw [r2]; omega, by omega, r4, r5, ?_⟩
    repeat' walk_at "e"
    refine ⟨srtT (tabK s C C.length), s, C, rfl, by rw [c2]; omega, by omega, c4, c5, ?_⟩
    repeat' walk_at "e"
    with_reducible refine s_next ?_
    refine s_asg ?_
    repeat' walk_at "e"
    rw [List.length_map, List.length_map, r2, c2]
    refine o_mul (cmul_l (by omega) (by omega)) ?_
    repeat' walk_at "e"
    refine hB.nx _ _ ⟨.dat (tI s), .dat (lF (srtT (tabK s R R.length))), .dat (lF (srtT (tabK s C C.length))), rfl, ?_⟩
    rw [take_next hs, List.map_append, List.sum_append, List.map_singleton, List.sum_singleton, Int.natCast_add, Int.natCast_mul]
    rfl
  obtain ⟨x7, x8, x9, rfl, rfl⟩ := hI
  rw [List.length_map, List.take_length, hb3]
  refine s_seq (s_if ?_)
  repeat' walk_at "e"
  · rename_i hne
    exfalso
    refine hne ?_
    rw [List.length_map, List.length_map]
  with_reducible refine s_next ?_
  refine s_seq (s_if ?_)
  repeat' walk_at "e"
  have hrep : (List.replicate (t + 1) (1 : Int)).sum = (t : Int) + 1 := by
    rw [List.sum_replicate_int]
    omega
  refine ⟨List.replicate (t + 1) 1, R, ?_, by rw [List.length_replicate]; omega, fun x hx => by rw [List.eq_of_mem_replicate hx]; omega, by omega, hRb, by rw [hRn, List.length_replicate]; exact pw_lim (by omega) (by omega), ?_⟩
  · show _ = [SD.dat (PyData.tuple ((List.replicate (t + 1) 1).map PyData.int)), _]
    rw [List.map_replicate, show ((t : Int) + 1).toNat = t + 1 by omega]
  rw [tabO_no (by rw [hrep, hRs]; omega)]
  repeat' walk_at "e"
  · rename_i bb hbb hbt
    exfalso
    rw [hbb.mpr rfl] at hbt
    exact nomatch hbt
  rw [tI_one]
  refine ⟨R, C ++ [1], rfl, by omega, by rw [app_len]; omega, hRb, app_ent hCb (by decide) (by decide), by rw [hRn, app_len]; exact pw_lim (by omega) (by omega), ?_⟩
  rw [brO_no (by rw [app_sum, hRs, hCs]; omega)]
  repeat' walk_at "e"
  · rename_i bb hbb hbt
    exfalso
    rw [hbb.mpr rfl] at hbt
    exact nomatch hbt
  with_reducible refine s_next ?_
  refine s_seq (s_if ?_)
  repeat' walk_at "e"
  rw [tI_one]
  have hR1n : (R ++ [1]).sum.toNat = t + 1 := by rw [app_sum, hRs]; omega
  refine ⟨R ++ [1], C, rfl, by rw [app_len]; omega, by omega, app_ent hRb (by decide) (by decide), hCb, by rw [hR1n]; exact pw_lim (by omega) (by omega), ?_⟩
  rw [brO_no (by rw [app_sum, hRs, hCs]; omega)]
  repeat' walk_at "e"
  · rename_i bb hbb hbt
    exfalso
    rw [hbb.mpr rfl] at hbt
    exact nomatch hbt
  obtain ⟨R0, l, hRe⟩ : ∃ R0 l, R = R0 ++ [l] := ⟨R.dropLast, R.getLast (List.length_pos_iff.mp hRl1), (List.dropLast_concat_getLast _).symm⟩
  have hcut : cut (R.map PyData.int) none (some (-1)) = R0.map PyData.int := by
    rw [cut_initK, hRe, List.map_append]
    exact List.dropLast_concat
  have hat : atI (R.map PyData.int) (-1) = some (.int l) := by
    rw [hRe, List.map_append]
    exact at_snocS _ _
  have hR2s : (R0 ++ [l + 1]).sum = (t : Int) + 1 := by
    rw [hRe, app_sum] at hRs
    rw [app_sum]
    omega
  have hR2n : (R0 ++ [l + 1]).sum.toNat = t + 1 := by rw [hR2s]; omega
  have hR2l : (R0 ++ [l + 1]).length = R.length := by rw [hRe, app_len, app_len]
  have hR2b : ∀ x ∈ R0 ++ [l + 1], 0 ≤ x ∧ x ≤ 100 := by
    have hl := hR.ent l (by rw [hRe]; exact List.mem_append_right _ List.mem_cons_self)
    exact app_ent (fun y hy => hRb y (by rw [hRe]; exact List.mem_append_left _ hy)) (by omega) (by omega)
  refine o_ixT hat ?_
  repeat' walk_at "e"
  rw [hcut, tI_one]
  refine ⟨R0 ++ [l + 1], C, rfl, by omega, by omega, hR2b, hCb, by rw [hR2n]; exact pw_lim (by omega) (by omega), ?_⟩
  rw [brO_no (by rw [hR2s, hCs]; omega)]
  repeat' walk_at "e"
  · rename_i bb hbb hbt
    exfalso
    rw [hbb.mpr rfl] at hbt
    exact nomatch hbt
  with_reducible refine s_next ?_
  refine s_seq (s_forL ?_)
  repeat' walk_at "e"
  refine ⟨(t : Int), (t : Int), rfl, by omega, by omega, by omega, by omega, by omega, ?_⟩
  rw [hSe]
  refine ⟨_, rfl, fun i O2 ds2 => ∃ (x7 : SD), O2 = [Box bx row k2] ∧ ds2 = [.scr ns, .ad bx, iV (t : Int), .dat (tI R), .dat (tI C), .dat (lF ((brF R C).map (·.1))), iV ((brF R C).length : Int), x7, x8, x9], ⟨_, rfl, rfl⟩, fun i d O2 ds2 hd hI B hB => ?_, fun O2 ds2 hI => ?_⟩
  · obtain ⟨x7, rfl, rfl⟩ := hI
    obtain ⟨s, hs, rfl⟩ := map_get hd
    obtain ⟨s1, s2, s3⟩ := hS1 s (List.mem_of_getElem? hs)
    refine s_if ?_
    repeat' walk_at "e"
    refine o_ixT hat ?_
    repeat' walk_at "e"
    rw [hcut, tI_one]
    refine ⟨s, R0 ++ [l + 1], rfl, by omega, s2, by omega, hR2b, by rw [hR2n]; exact pw_lim (by omega) (by omega), ?_⟩
    rw [tabO_no (by rw [hR2s, s3]; omega)]
    repeat' walk_at "e"
    · rename_i bb hbb hbt
      exfalso
      rw [hbb.mpr rfl] at hbt
      exact nomatch hbt
    with_reducible refine s_next ?_
    exact hB.nx _ _ ⟨_, rfl, rfl⟩
  obtain ⟨x7, rfl, rfl⟩ := hI
  refine s_ret ?_
  repeat' walk_at "e"
  exact ⟨bx, row, k2, [], rfl, rfl, hbox, by omega, by omega, q⟩
end
theorem all_mk {l : PySem.W.OpenLaw} {w : World} {K : PySem.W.Frag} {h : Heap} {mg : Str → Option Value} {fa : Addr} (X : K.In h) (G : h.Ns mainGlobals mg) (hfa : mg "law" = some (.ref fa))
    {od_0 an_0 : Option Addr} {sl_0 : Array (Option Value)} {oc_0 kV_0 dc_0 pm_0 cd_0 ct_0 : Value} {f_0 : Addr}
    {od_1 an_1 : Option Addr} {sl_1 : Array (Option Value)} {oc_1 kV_1 dc_1 pm_1 cd_1 ct_1 : Value} {f_1 : Addr}
    {od_2 an_2 : Option Addr} {sl_2 : Array (Option Value)} {oc_2 kV_2 dc_2 pm_2 cd_2 ct_2 : Value} {f_2 : Addr}
    {od_3 an_3 : Option Addr} {sl_3 : Array (Option Value)} {oc_3 kV_3 dc_3 pm_3 cd_3 ct_3 : Value} {f_3 : Addr}
    {od_4 an_4 : Option Addr} {sl_4 : Array (Option Value)} {oc_4 kV_4 dc_4 pm_4 cd_4 ct_4 : Value} {f_4 : Addr}
    {od_5 an_5 : Option Addr} {sl_5 : Array (Option Value)} {oc_5 kV_5 dc_5 pm_5 cd_5 ct_5 : Value} {f_5 : Addr}
    {od_6 an_6 : Option Addr} {sl_6 : Array (Option Value)} {oc_6 kV_6 dc_6 pm_6 cd_6 ct_6 : Value} {f_6 : Addr}
    {od_7 an_7 : Option Addr} {sl_7 : Array (Option Value)} {oc_7 kV_7 dc_7 pm_7 cd_7 ct_7 : Value} {f_7 : Addr}
    {od_8 an_8 : Option Addr} {sl_8 : Array (Option Value)} {oc_8 kV_8 dc_8 pm_8 cd_8 ct_8 : Value} {f_8 : Addr}
    {od_9 an_9 : Option Addr} {sl_9 : Array (Option Value)} {oc_9 kV_9 dc_9 pm_9 cd_9 ct_9 : Value} {f_9 : Addr}
    {od_10 an_10 : Option Addr} {sl_10 : Array (Option Value)} {oc_10 kV_10 dc_10 pm_10 cd_10 ct_10 : Value} {f_10 : Addr}
    {od_11 an_11 : Option Addr} {sl_11 : Array (Option Value)} {oc_11 kV_11 dc_11 pm_11 cd_11 ct_11 : Value} {f_11 : Addr}
    {od_12 an_12 : Option Addr} {sl_12 : Array (Option Value)} {oc_12 kV_12 dc_12 pm_12 cd_12 ct_12 : Value} {f_12 : Addr}
    {od_13 an_13 : Option Addr} {sl_13 : Array (Option Value)} {oc_13 kV_13 dc_13 pm_13 cd_13 ct_13 : Value} {f_13 : Addr}
    {od_14 an_14 : Option Addr} {sl_14 : Array (Option Value)} {oc_14 kV_14 dc_14 pm_14 cd_14 ct_14 : Value} {f_14 : Addr}
    {od_15 an_15 : Option Addr} {sl_15 : Array (Option Value)} {oc_15 kV_15 dc_15 pm_15 cd_15 ct_15 : Value} {f_15 : Addr}
    {od_16 an_16 : Option Addr} {sl_16 : Array (Option Value)} {oc_16 kV_16 dc_16 pm_16 cd_16 ct_16 : Value} {f_16 : Addr}
    {od_17 an_17 : Option Addr} {sl_17 : Array (Option Value)} {oc_17 kV_17 dc_17 pm_17 cd_17 ct_17 : Value} {f_17 : Addr}
    {od_18 an_18 : Option Addr} {sl_18 : Array (Option Value)} {oc_18 kV_18 dc_18 pm_18 cd_18 ct_18 : Value} {f_18 : Addr}
    {od_19 an_19 : Option Addr} {sl_19 : Array (Option Value)} {oc_19 kV_19 dc_19 pm_19 cd_19 ct_19 : Value} {f_19 : Addr}
    {od_20 an_20 : Option Addr} {sl_20 : Array (Option Value)} {oc_20 kV_20 dc_20 pm_20 cd_20 ct_20 : Value} {f_20 : Addr}
    {t_GREATEST_LETTER : Tok}
    {t_MOST_LETTERS : Tok}
    {C_LetterTooGreat : Addr}
    (a_0 : PySem.W.nsIn K mainGlobals "_law_draws" = some (some (.ref f_0)))
    (l_0 : K.lookup f_0 = some ⟨oc_0, od_0, .func (PySem.W.fnOf "_law_draws" "_law_draws" (defArgs s_law_draws) (defBody s_law_draws) (defScope s_law_draws) .none kV_0 dc_0 pm_0 an_0 cd_0 ct_0), sl_0⟩)
    (c_0 : PySem.W.codeIn K cd_0 "_law_draws" = true)
    (k_0 : PySem.W.keepIn K (.ref f_0) = true)
    (a_1 : PySem.W.nsIn K mainGlobals "_law_box" = some (some (.ref f_1)))
    (l_1 : K.lookup f_1 = some ⟨oc_1, od_1, .func (PySem.W.fnOf "_law_box" "_law_box" (defArgs s_law_box) (defBody s_law_box) (defScope s_law_box) .none kV_1 dc_1 pm_1 an_1 cd_1 ct_1), sl_1⟩)
    (c_1 : PySem.W.codeIn K cd_1 "_law_box" = true)
    (k_1 : PySem.W.keepIn K (.ref f_1) = true)
    (a_2 : PySem.W.nsIn K mainGlobals "_law_next" = some (some (.ref f_2)))
    (l_2 : K.lookup f_2 = some ⟨oc_2, od_2, .func (PySem.W.fnOf "_law_next" "_law_next" (defArgs s_law_next) (defBody s_law_next) (defScope s_law_next) .none kV_2 dc_2 pm_2 an_2 cd_2 ct_2), sl_2⟩)
    (c_2 : PySem.W.codeIn K cd_2 "_law_next" = true)
    (k_2 : PySem.W.keepIn K (.ref f_2) = true)
    (a_3 : PySem.W.nsIn K mainGlobals "_law_sums" = some (some (.ref f_3)))
    (l_3 : K.lookup f_3 = some ⟨oc_3, od_3, .func (PySem.W.fnOf "_law_sums" "_law_sums" (defArgs s_law_sums) (defBody s_law_sums) (defScope s_law_sums) .none kV_3 dc_3 pm_3 an_3 cd_3 ct_3), sl_3⟩)
    (c_3 : PySem.W.codeIn K cd_3 "_law_sums" = true)
    (k_3 : PySem.W.keepIn K (.ref f_3) = true)
    (a_4 : PySem.W.nsIn K mainGlobals "_shared_out" = some (some (.ref f_4)))
    (l_4 : K.lookup f_4 = some ⟨oc_4, od_4, .func (PySem.W.fnOf "_shared_out" "_shared_out" (defArgs s_shared_out) (defBody s_shared_out) (defScope s_shared_out) .none kV_4 dc_4 pm_4 an_4 cd_4 ct_4), sl_4⟩)
    (c_4 : PySem.W.codeIn K cd_4 "_shared_out" = true)
    (k_4 : PySem.W.keepIn K (.ref f_4) = true)
    (a_5 : PySem.W.nsIn K mainGlobals "boards_of" = some (some (.ref f_5)))
    (l_5 : K.lookup f_5 = some ⟨oc_5, od_5, .func (PySem.W.fnOf "boards_of" "boards_of" (defArgs s_boards_of) (defBody s_boards_of) (defScope s_boards_of) .none kV_5 dc_5 pm_5 an_5 cd_5 ct_5), sl_5⟩)
    (c_5 : PySem.W.codeIn K cd_5 "boards_of" = true)
    (k_5 : PySem.W.keepIn K (.ref f_5) = true)
    (a_6 : PySem.W.nsIn K mainGlobals "_law_shapes_of" = some (some (.ref f_6)))
    (l_6 : K.lookup f_6 = some ⟨oc_6, od_6, .func (PySem.W.fnOf "_law_shapes_of" "_law_shapes_of" (defArgs s_law_shapes_of) (defBody s_law_shapes_of) (defScope s_law_shapes_of) .none kV_6 dc_6 pm_6 an_6 cd_6 ct_6), sl_6⟩)
    (c_6 : PySem.W.codeIn K cd_6 "_law_shapes_of" = true)
    (k_6 : PySem.W.keepIn K (.ref f_6) = true)
    (a_7 : PySem.W.nsIn K mainGlobals "_with_letter" = some (some (.ref f_7)))
    (l_7 : K.lookup f_7 = some ⟨oc_7, od_7, .func (PySem.W.fnOf "_with_letter" "_with_letter" (defArgs s_with_letter) (defBody s_with_letter) (defScope s_with_letter) .none kV_7 dc_7 pm_7 an_7 cd_7 ct_7), sl_7⟩)
    (c_7 : PySem.W.codeIn K cd_7 "_with_letter" = true)
    (k_7 : PySem.W.keepIn K (.ref f_7) = true)
    (a_8 : PySem.W.nsIn K mainGlobals "tableaux_of" = some (some (.ref f_8)))
    (l_8 : K.lookup f_8 = some ⟨oc_8, od_8, .func (PySem.W.fnOf "tableaux_of" "tableaux_of" (defArgs s_tableaux_of) (defBody s_tableaux_of) (defScope s_tableaux_of) .none kV_8 dc_8 pm_8 an_8 cd_8 ct_8), sl_8⟩)
    (c_8 : PySem.W.codeIn K cd_8 "tableaux_of" = true)
    (k_8 : PySem.W.keepIn K (.ref f_8) = true)
    (a_9 : PySem.W.nsIn K mainGlobals "_law_inserted" = some (some (.ref f_9)))
    (l_9 : K.lookup f_9 = some ⟨oc_9, od_9, .func (PySem.W.fnOf "_law_inserted" "_law_inserted" (defArgs s_law_inserted) (defBody s_law_inserted) (defScope s_law_inserted) .none kV_9 dc_9 pm_9 an_9 cd_9 ct_9), sl_9⟩)
    (c_9 : PySem.W.codeIn K cd_9 "_law_inserted" = true)
    (k_9 : PySem.W.keepIn K (.ref f_9) = true)
    (a_10 : PySem.W.nsIn K mainGlobals "_size" = some (some (.ref f_10)))
    (l_10 : K.lookup f_10 = some ⟨oc_10, od_10, .func (PySem.W.fnOf "_size" "_size" (defArgs s_size) (defBody s_size) (defScope s_size) .none kV_10 dc_10 pm_10 an_10 cd_10 ct_10), sl_10⟩)
    (c_10 : PySem.W.codeIn K cd_10 "_size" = true)
    (k_10 : PySem.W.keepIn K (.ref f_10) = true)
    (a_11 : PySem.W.nsIn K mainGlobals "_is_row" = some (some (.ref f_11)))
    (l_11 : K.lookup f_11 = some ⟨oc_11, od_11, .func (PySem.W.fnOf "_is_row" "_is_row" (defArgs s_is_row) (defBody s_is_row) (defScope s_is_row) .none kV_11 dc_11 pm_11 an_11 cd_11 ct_11), sl_11⟩)
    (c_11 : PySem.W.codeIn K cd_11 "_is_row" = true)
    (k_11 : PySem.W.keepIn K (.ref f_11) = true)
    (a_12 : PySem.W.nsIn K mainGlobals "_fits_below" = some (some (.ref f_12)))
    (l_12 : K.lookup f_12 = some ⟨oc_12, od_12, .func (PySem.W.fnOf "_fits_below" "_fits_below" (defArgs s_fits_below) (defBody s_fits_below) (defScope s_fits_below) .none kV_12 dc_12 pm_12 an_12 cd_12 ct_12), sl_12⟩)
    (c_12 : PySem.W.codeIn K cd_12 "_fits_below" = true)
    (k_12 : PySem.W.keepIn K (.ref f_12) = true)
    (a_13 : PySem.W.nsIn K mainGlobals "is_tableau" = some (some (.ref f_13)))
    (l_13 : K.lookup f_13 = some ⟨oc_13, od_13, .func (PySem.W.fnOf "is_tableau" "is_tableau" (defArgs s_is_tableau) (defBody s_is_tableau) (defScope s_is_tableau) .none kV_13 dc_13 pm_13 an_13 cd_13 ct_13), sl_13⟩)
    (c_13 : PySem.W.codeIn K cd_13 "is_tableau" = true)
    (k_13 : PySem.W.keepIn K (.ref f_13) = true)
    (a_14 : PySem.W.nsIn K mainGlobals "content_of" = some (some (.ref f_14)))
    (l_14 : K.lookup f_14 = some ⟨oc_14, od_14, .func (PySem.W.fnOf "content_of" "content_of" (defArgs s_content_of) (defBody s_content_of) (defScope s_content_of) .none kV_14 dc_14 pm_14 an_14 cd_14 ct_14), sl_14⟩)
    (c_14 : PySem.W.codeIn K cd_14 "content_of" = true)
    (k_14 : PySem.W.keepIn K (.ref f_14) = true)
    (a_15 : PySem.W.nsIn K mainGlobals "_law_content" = some (some (.ref f_15)))
    (l_15 : K.lookup f_15 = some ⟨oc_15, od_15, .func (PySem.W.fnOf "_law_content" "_law_content" (defArgs s_law_content) (defBody s_law_content) (defScope s_law_content) .none kV_15 dc_15 pm_15 an_15 cd_15 ct_15), sl_15⟩)
    (c_15 : PySem.W.codeIn K cd_15 "_law_content" = true)
    (k_15 : PySem.W.keepIn K (.ref f_15) = true)
    (a_16 : PySem.W.nsIn K mainGlobals "_law_fine" = some (some (.ref f_16)))
    (l_16 : K.lookup f_16 = some ⟨oc_16, od_16, .func (PySem.W.fnOf "_law_fine" "_law_fine" (defArgs s_law_fine) (defBody s_law_fine) (defScope s_law_fine) .none kV_16 dc_16 pm_16 an_16 cd_16 ct_16), sl_16⟩)
    (c_16 : PySem.W.codeIn K cd_16 "_law_fine" = true)
    (k_16 : PySem.W.keepIn K (.ref f_16) = true)
    (a_17 : PySem.W.nsIn K mainGlobals "_law_longer" = some (some (.ref f_17)))
    (l_17 : K.lookup f_17 = some ⟨oc_17, od_17, .func (PySem.W.fnOf "_law_longer" "_law_longer" (defArgs s_law_longer) (defBody s_law_longer) (defScope s_law_longer) .none kV_17 dc_17 pm_17 an_17 cd_17 ct_17), sl_17⟩)
    (c_17 : PySem.W.codeIn K cd_17 "_law_longer" = true)
    (k_17 : PySem.W.keepIn K (.ref f_17) = true)
    (a_18 : PySem.W.nsIn K mainGlobals "_law_rows" = some (some (.ref f_18)))
    (l_18 : K.lookup f_18 = some ⟨oc_18, od_18, .func (PySem.W.fnOf "_law_rows" "_law_rows" (defArgs s_law_rows) (defBody s_law_rows) (defScope s_law_rows) .none kV_18 dc_18 pm_18 an_18 cd_18 ct_18), sl_18⟩)
    (c_18 : PySem.W.codeIn K cd_18 "_law_rows" = true)
    (k_18 : PySem.W.keepIn K (.ref f_18) = true)
    (a_19 : PySem.W.nsIn K mainGlobals "_law_boards" = some (some (.ref f_19)))
    (l_19 : K.lookup f_19 = some ⟨oc_19, od_19, .func (PySem.W.fnOf "_law_boards" "_law_boards" (defArgs s_law_boards) (defBody s_law_boards) (defScope s_law_boards) .none kV_19 dc_19 pm_19 an_19 cd_19 ct_19), sl_19⟩)
    (c_19 : PySem.W.codeIn K cd_19 "_law_boards" = true)
    (k_19 : PySem.W.keepIn K (.ref f_19) = true)
    (a_20 : PySem.W.nsIn K mainGlobals "law" = some (some (.ref f_20)))
    (l_20 : K.lookup f_20 = some ⟨oc_20, od_20, .func (PySem.W.fnOf "law" "law" (defArgs s_law) (defBody s_law) (defScope s_law) .none kV_20 dc_20 pm_20 an_20 cd_20 ct_20), sl_20⟩)
    (c_20 : PySem.W.codeIn K cd_20 "law" = true)
    (k_20 : PySem.W.keepIn K (.ref f_20) = true)
    (z_int : PySem.W.nsIn K mainGlobals "int" = some none)
    (z_range : PySem.W.nsIn K mainGlobals "range" = some none)
    (z_len : PySem.W.nsIn K mainGlobals "len" = some none)
    (z_tuple : PySem.W.nsIn K mainGlobals "tuple" = some none)
    (z_min : PySem.W.nsIn K mainGlobals "min" = some none)
    (z_sorted : PySem.W.nsIn K mainGlobals "sorted" = some none)
    (z_sum : PySem.W.nsIn K mainGlobals "sum" = some none)
    (z_zip : PySem.W.nsIn K mainGlobals "zip" = some none)
    (z_enumerate : PySem.W.nsIn K mainGlobals "enumerate" = some none)
    (z_list : PySem.W.nsIn K mainGlobals "list" = some none)
    (z_max : PySem.W.nsIn K mainGlobals "max" = some none)
    (z_isinstance : PySem.W.nsIn K mainGlobals "isinstance" = some none)
    (z_GREATEST_LETTER : PySem.W.nsIn K mainGlobals "GREATEST_LETTER" = some (some (.int 60 t_GREATEST_LETTER)))
    (z_MOST_LETTERS : PySem.W.nsIn K mainGlobals "MOST_LETTERS" = some (some (.int 200 t_MOST_LETTERS)))
    (xa_LetterTooGreat : PySem.W.nsIn K mainGlobals "LetterTooGreat" = some (some (.ref C_LetterTooGreat)))
    (xk_LetterTooGreat : PySem.W.keepIn K (.ref C_LetterTooGreat) = true)
    (xhg_LetterTooGreat : PySem.W.findIn K (.ref C_LetterTooGreat) "__getattribute__" = some (some (.builtin "BaseException.__getattribute__")))
    (xhk_LetterTooGreat : PySem.W.findIn K (.ref C_LetterTooGreat) "__getattr__" = some none)
    (xhs_LetterTooGreat : PySem.W.subIn K (.ref C_LetterTooGreat) (.type "BaseException") = some true)
    (xhd_LetterTooGreat : PySem.W.hasDictIn K C_LetterTooGreat = true)
    (xha_LetterTooGreat : PySem.W.findIn K (.ref C_LetterTooGreat) "__class__" = some (some (.builtin "object.__class__")))
    (xhm_LetterTooGreat : PySem.W.mroIn K C_LetterTooGreat (.type "object") = some true)
    (xty_LetterTooGreat : PySem.W.typeIn K (.ref C_LetterTooGreat) = some (.type "type"))
    (xn_LetterTooGreat : PySem.W.excIn K C_LetterTooGreat veAll "ValueError.__new__" = true)
    (xspec : PySem.W.specialIn K (.builtin "object.__class__") "__get__" = some (some (.builtin "getset_descriptor.__get__")))
    (xtakes : PySem.W.takesIn K (.builtin "object.__class__") = some true)
    (xs_LetterTooGreat_LetterTooGreat : PySem.W.subIn K (.ref C_LetterTooGreat) (.ref C_LetterTooGreat) = some true)
    : ∃ fd : FuncData, (∀ (s : Shared) (v : Value), BindsTo s fd ⟨[v], []⟩ [("script", v)]) ∧ ∀ base : Heap, K.In base → base.Ns mainGlobals mg → FnOk l.prog w K mg base CX0 8 fa fd ["script"] (spW K pre_law) := by
  have e := hfa.symm.trans (PySem.W.mg_of X G a_20)
  cases e
  refine ⟨PySem.W.fnOf "law" "law" (defArgs s_law) (defBody s_law) (defScope s_law) .none kV_20 dc_20 pm_20 an_20 cd_20 ct_20, fun s v => .of_eq rfl, fun base _ _ => ?_⟩
  have S_LetterTooGreat : ExS K mg "LetterTooGreat" C_LetterTooGreat := ⟨PySem.W.mg_of X G xa_LetterTooGreat, xk_LetterTooGreat, ⟨xhg_LetterTooGreat, xhk_LetterTooGreat, xhs_LetterTooGreat, xhd_LetterTooGreat, xha_LetterTooGreat, xspec, xtakes, xhm_LetterTooGreat⟩, xty_LetterTooGreat⟩
  have N_LetterTooGreat : ExN K mg "LetterTooGreat" C_LetterTooGreat := ⟨S_LetterTooGreat, xn_LetterTooGreat⟩
  have e_LetterTooGreat_LetterTooGreat := S_LetterTooGreat.exm xs_LetterTooGreat_LetterTooGreat
  have K_law_draws := ok_law_draws (P := l.prog) (w := w) (mg := mg) (base := base) ⟨_, _, fun_mk (st := s_law_draws) l_0 c_0 k_0, PySem.W.mg_of X G a_0⟩ (PySem.W.mg_none_of X G z_int) (PySem.W.mg_none_of X G z_range)
  have K_law_box := ok_law_box (P := l.prog) (w := w) (mg := mg) (base := base) ⟨_, _, fun_mk (st := s_law_box) l_1 c_1 k_1, PySem.W.mg_of X G a_1⟩ K_law_draws (PySem.W.mg_none_of X G z_len)
  have K_law_next := ok_law_next (P := l.prog) (w := w) (mg := mg) (base := base) ⟨_, _, fun_mk (st := s_law_next) l_2 c_2 k_2, PySem.W.mg_of X G a_2⟩ (PySem.W.mg_none_of X G z_int) (PySem.W.mg_none_of X G z_len)
  have K_law_sums := ok_law_sums (P := l.prog) (w := w) (mg := mg) (base := base) ⟨_, _, fun_mk (st := s_law_sums) l_3 c_3 k_3, PySem.W.mg_of X G a_3⟩ K_law_next (PySem.W.mg_none_of X G z_range) (PySem.W.mg_none_of X G z_tuple)
  have K_shared_out := ok_shared_out (P := l.prog) (w := w) (mg := mg) (base := base) ⟨_, _, fun_mk (st := s_shared_out) l_4 c_4 k_4, PySem.W.mg_of X G a_4⟩ (PySem.W.mg_none_of X G z_min) (PySem.W.mg_none_of X G z_range)
  have K_boards_of := ok_boards_of (P := l.prog) (w := w) (mg := mg) (base := base) ⟨_, _, fun_mk (st := s_boards_of) l_5 c_5 k_5, PySem.W.mg_of X G a_5⟩ K_shared_out (PySem.W.mg_none_of X G z_sorted) (PySem.W.mg_none_of X G z_sum) (PySem.W.mg_none_of X G z_tuple) (PySem.W.mg_none_of X G z_zip)
  have K_law_shapes_of := ok_law_shapes_of (P := l.prog) (w := w) (mg := mg) (base := base) ⟨_, _, fun_mk (st := s_law_shapes_of) l_6 c_6 k_6, PySem.W.mg_of X G a_6⟩ (PySem.W.mg_none_of X G z_min) (PySem.W.mg_none_of X G z_range) 6
  have K_with_letter := ok_with_letter (P := l.prog) (w := w) (mg := mg) (base := base) ⟨_, _, fun_mk (st := s_with_letter) l_7 c_7 k_7, PySem.W.mg_of X G a_7⟩ K_shared_out (PySem.W.mg_none_of X G z_enumerate) (PySem.W.mg_none_of X G z_len) (PySem.W.mg_none_of X G z_min) (PySem.W.mg_none_of X G z_tuple) (PySem.W.mg_none_of X G z_zip)
  have K_tableaux_of := ok_tableaux_of (P := l.prog) (w := w) (mg := mg) (base := base) ⟨_, _, fun_mk (st := s_tableaux_of) l_8 c_8 k_8, PySem.W.mg_of X G a_8⟩ K_with_letter (PySem.W.mg_none_of X G z_enumerate) (PySem.W.mg_none_of X G z_len) (PySem.W.mg_none_of X G z_sorted) (PySem.W.mg_none_of X G z_sum)
  have K_law_inserted := ok_law_inserted (P := l.prog) (w := w) (mg := mg) (base := base) ⟨_, _, fun_mk (st := s_law_inserted) l_9 c_9 k_9, PySem.W.mg_of X G a_9⟩ (PySem.W.mg_none_of X G z_len) (PySem.W.mg_none_of X G z_list) (PySem.W.mg_none_of X G z_range)
  have K_size := ok_size (P := l.prog) (w := w) (mg := mg) (base := base) ⟨_, _, fun_mk (st := s_size) l_10 c_10 k_10, PySem.W.mg_of X G a_10⟩ (PySem.W.mg_none_of X G z_len) (PySem.W.mg_none_of X G z_sum)
  have K_is_row := ok_is_row (P := l.prog) (w := w) (mg := mg) (base := base) ⟨_, _, fun_mk (st := s_is_row) l_11 c_11 k_11, PySem.W.mg_of X G a_11⟩ (PySem.W.mg_none_of X G z_len) (PySem.W.mg_of X G z_GREATEST_LETTER)
  have K_fits_below := ok_fits_below (P := l.prog) (w := w) (mg := mg) (base := base) ⟨_, _, fun_mk (st := s_fits_below) l_12 c_12 k_12, PySem.W.mg_of X G a_12⟩ (PySem.W.mg_none_of X G z_len) (PySem.W.mg_none_of X G z_zip)
  have K_is_tableau := ok_is_tableau (P := l.prog) (w := w) (mg := mg) (base := base) ⟨_, _, fun_mk (st := s_is_tableau) l_13 c_13 k_13, PySem.W.mg_of X G a_13⟩ K_size K_is_row K_fits_below (PySem.W.mg_none_of X G z_enumerate) (PySem.W.mg_of X G z_MOST_LETTERS)
  have K_content_of := ok_content_of (P := l.prog) (w := w) (mg := mg) (base := base) ⟨_, _, fun_mk (st := s_content_of) l_14 c_14 k_14, PySem.W.mg_of X G a_14⟩ (PySem.W.mg_none_of X G z_tuple) N_LetterTooGreat
  have K_law_content := ok_law_content (P := l.prog) (w := w) (mg := mg) (base := base) ⟨_, _, fun_mk (st := s_law_content) l_15 c_15 k_15, PySem.W.mg_of X G a_15⟩ K_content_of S_LetterTooGreat e_LetterTooGreat_LetterTooGreat
  have K_law_fine := ok_law_fine (P := l.prog) (w := w) (mg := mg) (base := base) ⟨_, _, fun_mk (st := s_law_fine) l_16 c_16 k_16, PySem.W.mg_of X G a_16⟩ K_is_tableau K_law_content (PySem.W.mg_none_of X G z_len) (PySem.W.mg_none_of X G z_max) (PySem.W.mg_none_of X G z_range) (PySem.W.mg_none_of X G z_tuple)
  have K_law_longer := ok_law_longer (P := l.prog) (w := w) (mg := mg) (base := base) ⟨_, _, fun_mk (st := s_law_longer) l_17 c_17 k_17, PySem.W.mg_of X G a_17⟩ K_law_next K_tableaux_of K_law_inserted K_law_fine (PySem.W.mg_none_of X G z_isinstance) (PySem.W.mg_none_of X G z_len) (PySem.W.mg_none_of X G z_list) (PySem.W.mg_none_of X G z_range) (PySem.W.mg_none_of X G z_tuple)
  have K_law_rows := ok_law_rows (P := l.prog) (w := w) (mg := mg) (base := base) ⟨_, _, fun_mk (st := s_law_rows) l_18 c_18 k_18, PySem.W.mg_of X G a_18⟩ (PySem.W.mg_none_of X G z_range) 3
  have K_law_boards := ok_law_boards (P := l.prog) (w := w) (mg := mg) (base := base) ⟨_, _, fun_mk (st := s_law_boards) l_19 c_19 k_19, PySem.W.mg_of X G a_19⟩ K_law_rows (PySem.W.mg_none_of X G z_len) (PySem.W.mg_none_of X G z_range) (PySem.W.mg_none_of X G z_sum) (PySem.W.mg_none_of X G z_tuple)
  have K_law := ok_law (P := l.prog) (w := w) (mg := mg) (base := base) ⟨_, _, fun_mk (st := s_law) l_20 c_20 k_20, PySem.W.mg_of X G a_20⟩ K_law_box K_law_next K_law_sums K_boards_of K_law_shapes_of K_tableaux_of K_law_fine K_law_longer K_law_boards (PySem.W.mg_none_of X G z_isinstance) (PySem.W.mg_none_of X G z_len) (PySem.W.mg_none_of X G z_list)
  exact callee_law K_law (PySem.W.mg_of X G a_20) (fun_mk (st := s_law) l_20 c_20 k_20)
end LW
open PySem PySem.W PyProof.Rows
set_option maxHeartbeats 0 in
theorem PySem.Challenge.cw_walkhands_k36_whole_lists_holds : PySem.Challenge.rw_walkhands_k36_whole_lists.Holds := by
  w_on; o_law; k_head; (case hw => w_witness2)
  k_fill
  refine L2.walk_of (l := PySem.Challenge.rw_walkhands_k36_whole_lists) (n := 63) (k := 8) (x := "script") (CX := fun _ => L2.CX0) (sp := fun w => Wk.spW _ LW.pre_law) rfl (by decide) rfl ⟨rfl, by decide, by decide⟩ (fun w h Y => PySem.W.kIn_of Y) ?F (fun _ H a ns hl ho hS => Wk.law_start hS (LW.law_pre hl)) (fun _ _ _ _ _ h => h)
  case F =>
    intro w mg fa h KX G hmg
    refine' LW.all_mk KX G hmg ?a_0 ?l_0 ?c_0 ?k_0 ?a_1 ?l_1 ?c_1 ?k_1 ?a_2 ?l_2 ?c_2 ?k_2 ?a_3 ?l_3 ?c_3 ?k_3 ?a_4 ?l_4 ?c_4 ?k_4 ?a_5 ?l_5 ?c_5 ?k_5 ?a_6 ?l_6 ?c_6 ?k_6 ?a_7 ?l_7 ?c_7 ?k_7 ?a_8 ?l_8 ?c_8 ?k_8 ?a_9 ?l_9 ?c_9 ?k_9 ?a_10 ?l_10 ?c_10 ?k_10 ?a_11 ?l_11 ?c_11 ?k_11 ?a_12 ?l_12 ?c_12 ?k_12 ?a_13 ?l_13 ?c_13 ?k_13 ?a_14 ?l_14 ?c_14 ?k_14 ?a_15 ?l_15 ?c_15 ?k_15 ?a_16 ?l_16 ?c_16 ?k_16 ?a_17 ?l_17 ?c_17 ?k_17 ?a_18 ?l_18 ?c_18 ?k_18 ?a_19 ?l_19 ?c_19 ?k_19 ?a_20 ?l_20 ?c_20 ?k_20 ?z_int ?z_range ?z_len ?z_tuple ?z_min ?z_sorted ?z_sum ?z_zip ?z_enumerate ?z_list ?z_max ?z_isinstance ?z_GREATEST_LETTER ?z_MOST_LETTERS ?xa_LetterTooGreat ?xk_LetterTooGreat ?xhg_LetterTooGreat ?xhk_LetterTooGreat ?xhs_LetterTooGreat ?xhd_LetterTooGreat ?xha_LetterTooGreat ?xhm_LetterTooGreat ?xty_LetterTooGreat ?xn_LetterTooGreat ?xspec ?xtakes ?xs_LetterTooGreat_LetterTooGreat
    (case a_0 => k_is); (case l_0 => k_is); (case c_0 => k_is); (case k_0 => k_is); (case a_1 => k_is); (case l_1 => k_is); (case c_1 => k_is); (case k_1 => k_is); (case a_2 => k_is); (case l_2 => k_is); (case c_2 => k_is); (case k_2 => k_is); (case a_3 => k_is); (case l_3 => k_is); (case c_3 => k_is); (case k_3 => k_is); (case a_4 => k_is); (case l_4 => k_is); (case c_4 => k_is); (case k_4 => k_is); (case a_5 => k_is); (case l_5 => k_is); (case c_5 => k_is); (case k_5 => k_is); (case a_6 => k_is); (case l_6 => k_is); (case c_6 => k_is); (case k_6 => k_is); (case a_7 => k_is); (case l_7 => k_is); (case c_7 => k_is); (case k_7 => k_is); (case a_8 => k_is); (case l_8 => k_is); (case c_8 => k_is); (case k_8 => k_is); (case a_9 => k_is); (case l_9 => k_is); (case c_9 => k_is); (case k_9 => k_is); (case a_10 => k_is); (case l_10 => k_is); (case c_10 => k_is); (case k_10 => k_is); (case a_11 => k_is); (case l_11 => k_is); (case c_11 => k_is); (case k_11 => k_is); (case a_12 => k_is); (case l_12 => k_is); (case c_12 => k_is); (case k_12 => k_is); (case a_13 => k_is); (case l_13 => k_is); (case c_13 => k_is); (case k_13 => k_is); (case a_14 => k_is); (case l_14 => k_is); (case c_14 => k_is); (case k_14 => k_is); (case a_15 => k_is); (case l_15 => k_is); (case c_15 => k_is); (case k_15 => k_is); (case a_16 => k_is); (case l_16 => k_is); (case c_16 => k_is); (case k_16 => k_is); (case a_17 => k_is); (case l_17 => k_is); (case c_17 => k_is); (case k_17 => k_is); (case a_18 => k_is); (case l_18 => k_is); (case c_18 => k_is); (case k_18 => k_is); (case a_19 => k_is); (case l_19 => k_is); (case c_19 => k_is); (case k_19 => k_is); (case a_20 => k_is); (case l_20 => k_is); (case c_20 => k_is); (case k_20 => k_is); (case z_int => k_is); (case z_range => k_is); (case z_len => k_is); (case z_tuple => k_is); (case z_min => k_is); (case z_sorted => k_is); (case z_sum => k_is); (case z_zip => k_is); (case z_enumerate => k_is); (case z_list => k_is); (case z_max => k_is); (case z_isinstance => k_is); (case z_GREATEST_LETTER => k_is); (case z_MOST_LETTERS => k_is); (case xa_LetterTooGreat => k_is); (case xk_LetterTooGreat => k_is); (case xhg_LetterTooGreat => k_is); (case xhk_LetterTooGreat => k_is); (case xhs_LetterTooGreat => k_is); (case xhd_LetterTooGreat => k_is); (case xha_LetterTooGreat => k_is); (case xhm_LetterTooGreat => k_is); (case xty_LetterTooGreat => k_is); (case xn_LetterTooGreat => k_exc); (case xspec => k_is); (case xtakes => k_is); (case xs_LetterTooGreat_LetterTooGreat => first | rfl | k_is)
