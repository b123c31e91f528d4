import PyProof.Rows.All
import Wide.All
import OpenK.AllK
import Wide.FinOn
import HandS.ForMost
import HandS.TupAny
import HandS.TupMul
import HandS.Style
import HandS.SortInts
import HandS.IsInst
import KE.GoesMore
import KE.KTupSum
import HandS.ForExc
import HandS.ExcInit
import HandS.ExcField
import HandS.DictComp
import HandS.ExcIs
import KE.KExcIs
import HandS.FStr
import HandS.RaiseMore
import HandS.ExcValue
import HandS.Small
import HandS.Zip
import HandS.TryOnly
import HandS.Conv
import HandS.Walk
import HandS.Text
import HandS.Codes
import PyProof.StrBlock2
import PySem.Challenge.RW_walkhands_k23_benches_of_boards
set_option Elab.async false
set_option linter.all false
set_option maxRecDepth 100000
set_option maxHeartbeats 4000000
namespace Wk
open PySem PySem.Spec PyProof.Rows L2

/-! ## data that stands in a heap -/
mutual
inductive Da (H : Hp) : V → PyData → Prop
  | non : Da H .non .none
  | bl (b : Bool) : Da H (.bl b) (.bool b)
  | int (i : Int) : Da H (.int i) (.int i)
  | str (x : Str) : Da H (.str x) (.str x)
  | lst {a : Addr} {xs : List V} {ds : List PyData} : H a = some (.lst xs) → DaAll H xs ds → Da H (.ref a) (.list ds)
  | tup {a : Addr} {xs : List V} {ds : List PyData} : H a = some (.tup xs) → DaAll H xs ds → Da H (.ref a) (.tuple ds)
inductive DaAll (H : Hp) : List V → List PyData → Prop
  | nil : DaAll H [] []
  | cons {v : V} {vs : List V} {d : PyData} {ds : List PyData} : Da H v d → DaAll H vs ds → DaAll H (v :: vs) (d :: ds)
end
mutual
theorem Da.mono {H H' : Hp} (e : Same H H') : ∀ {v : V} {d : PyData}, Da H v d → Da H' v d
  | _, _, .non => .non
  | _, _, .bl b => .bl b
  | _, _, .int i => .int i
  | _, _, .str x => .str x
  | _, _, .lst h r => .lst (e _ _ h) (DaAll.mono e r)
  | _, _, .tup h r => .tup (e _ _ h) (DaAll.mono e r)
theorem DaAll.mono {H H' : Hp} (e : Same H H') : ∀ {vs : List V} {ds : List PyData}, DaAll H vs ds → DaAll H' vs ds
  | _, _, .nil => .nil
  | _, _, .cons h r => .cons (Da.mono e h) (DaAll.mono e r)
end
mutual
theorem Da.dp {K : PySem.W.Frag} {H : Hp} : ∀ {v : V} {d : PyData}, Da H v d → Dp K H v d
  | _, _, .non => .non
  | _, _, .bl b => .bl b
  | _, _, .int i => .int i
  | _, _, .str x => .str x
  | _, _, .lst h r => .lst (.inl (.inl h)) (DaAll.dp r)
  | _, _, .tup h r => .tup (.inl (.inl h)) (DaAll.dp r)
theorem DaAll.dp {K : PySem.W.Frag} {H : Hp} : ∀ {vs : List V} {ds : List PyData}, DaAll H vs ds → DpAll K H vs ds
  | _, _, .nil => .nil
  | _, _, .cons h r => .cons (Da.dp h) (DaAll.dp r)
end
theorem DaAll.length {H : Hp} : ∀ {vs : List V} {ds : List PyData}, DaAll H vs ds → vs.length = ds.length
  | _, _, .nil => rfl
  | _, _, .cons _ r => by rw [List.length_cons, List.length_cons, DaAll.length r]
theorem DaAll.get {H : Hp} : ∀ {vs : List V} {ds : List PyData} {i : Nat} {d : PyData}, DaAll H vs ds → ds[i]? = some d → ∃ v, vs[i]? = some v ∧ Da H v d
  | _, _, _, _, .nil, e => by simp at e
  | _, _, 0, _, .cons h _, e => by
    simp at e; subst e; exact ⟨_, rfl, h⟩
  | _, _, i + 1, _, .cons _ r, e => by
    obtain ⟨v, h1, h2⟩ := DaAll.get (i := i) r (by simpa using e)
    exact ⟨v, by simpa using h1, h2⟩
theorem DaAll.getV {H : Hp} : ∀ {vs : List V} {ds : List PyData} {i : Nat} {v : V}, DaAll H vs ds → vs[i]? = some v → ∃ d, ds[i]? = some d ∧ Da H v d
  | _, _, _, _, .nil, e => by simp at e
  | _, _, 0, _, .cons h _, e => by
    simp at e; subst e; exact ⟨_, rfl, h⟩
  | _, _, i + 1, _, .cons _ r, e => by
    obtain ⟨v, h1, h2⟩ := DaAll.getV (i := i) r (by simpa using e)
    exact ⟨v, by simpa using h1, h2⟩
theorem DaAll.append {H : Hp} : ∀ {vs ws : List V} {ds es : List PyData}, DaAll H vs ds → DaAll H ws es → DaAll H (vs ++ ws) (ds ++ es)
  | _, _, _, _, .nil, s => s
  | _, _, _, _, .cons h r, s => .cons h (DaAll.append r s)
theorem DaAll.take {H : Hp} : ∀ {vs : List V} {ds : List PyData} (n : Nat), DaAll H vs ds → DaAll H (vs.take n) (ds.take n)
  | _, _, 0, _ => .nil
  | _, _, _ + 1, .nil => .nil
  | _, _, n + 1, .cons h r => .cons h (DaAll.take n r)
theorem DaAll.drop {H : Hp} : ∀ {vs : List V} {ds : List PyData} (n : Nat), DaAll H vs ds → DaAll H (vs.drop n) (ds.drop n)
  | _, _, 0, r => r
  | _, _, _ + 1, .nil => .nil
  | _, _, n + 1, .cons _ r => DaAll.drop n r
theorem DaAll.reverse {H : Hp} : ∀ {vs : List V} {ds : List PyData}, DaAll H vs ds → DaAll H vs.reverse ds.reverse
  | _, _, .nil => .nil
  | _, _, .cons h r => by
    rw [List.reverse_cons, List.reverse_cons]
    exact DaAll.append (DaAll.reverse r) (.cons h .nil)
theorem DaAll.ints {H : Hp} : ∀ {vs : List V} {ns : List Int}, DaAll H vs (ns.map PyData.int) → vs = ns.map V.int
  | _, [], h => by cases h; rfl
  | _, n :: ns, h => by
    cases h with
    | cons h r => cases h; rw [DaAll.ints r]; rfl
theorem DaAll.of_ints {H : Hp} : ∀ (ns : List Int), DaAll H (ns.map V.int) (ns.map PyData.int)
  | [] => .nil
  | n :: ns => .cons (.int n) (DaAll.of_ints ns)
/-- a tuple, a list of ints -/
abbrev tI (ns : List Int) : PyData := .tuple (ns.map PyData.int)
abbrev lI (ns : List Int) : PyData := .list (ns.map PyData.int)

/-! ## what is said of a value: nothing, the data that it is, its address, the script -/
inductive SD where
  | non
  | dat (d : PyData)
  | ad (a : Addr)
  | scr (ns : List Int)
  | ty (n : String)
  | dic (kvs : List (Key × PyData))
  | exc (a : Addr) (cls : Value) (d : Option Addr) (C : Addr) (fs : Option (Str × PyData))
  | xob (C : Addr) (fs : Option (Str × PyData))
abbrev iV (i : Int) : SD := .dat (.int i)
abbrev bV (b : Bool) : SD := .dat (.bool b)
section
variable (K : PySem.W.Frag)
/-- an exception: its class, its own dict -/
def XDok (Hk : Hp) (cls : Value) (d : Option Addr) (C : Addr) (fs : Option (Str × PyData)) : Prop :=
  cls = .ref C ∧ match fs with
    | none => d = none
    | some (f, x) => ∃ (dd : Addr) (v : V), d = some dd ∧ Hk dd = some (.xd [(f, v)]) ∧ Da Hk v x
/-- an exception as a value -/
def XOok (Hk : Hp) (a C : Addr) (fs : Option (Str × PyData)) : Prop :=
  match fs with
    | none => Hk a = some (ExO (.ref C) a)
    | some (f, x) => ∃ (d : Addr) (v : V), Hk a = some (exo a C (some d)) ∧ Hk d = some (exd d [(f, v)]) ∧ Da Hk v x
theorem XOok.mono {H H' : Hp} (e : Same H H') {a C : Addr} : ∀ {fs : Option (Str × PyData)}, XOok H a C fs → XOok H' a C fs
  | none, h => e _ _ h
  | some (f, x), ⟨d, v, h2, h3, h4⟩ => ⟨d, v, e _ _ h2, e _ _ h3, Da.mono e h4⟩
theorem XDok.mono {H H' : Hp} (e : Same H H') {cls : Value} {d : Option Addr} {C : Addr} : ∀ {fs : Option (Str × PyData)}, XDok H cls d C fs → XDok H' cls d C fs
  | none, h => h
  | some (f, x), ⟨h1, dd, v, h2, h3, h4⟩ => ⟨h1, dd, v, h2, e _ _ h3, Da.mono e h4⟩
def SDok (Hk : Hp) (v : V) : SD → Prop
  | .non => True
  | .dat d => Da Hk v d
  | .ad a => v = .ref a
  | .scr ns => ∃ a, v = .ref a ∧ SqL K Hk a (ns.map V.int)
  | .ty n => v = .ty n
  | .dic kvs => ∃ (a : Addr) (vs : List (Key × V)), v = .ref a ∧ Hk a = some (.dK vs) ∧ vs.map (·.1) = kvs.map (·.1) ∧ DaAll Hk (vs.map (·.2)) (kvs.map (·.2))
  | .exc a cls d C fs => v = .ref a ∧ XDok Hk cls d C fs
  | .xob C fs => ∃ a, v = .ref a ∧ XOok Hk a C fs
theorem SDok.mono {K : PySem.W.Frag} {H H' : Hp} (e : Same H H') {v : V} : ∀ {r : SD}, SDok K H v r → SDok K H' v r
  | .non, _ => trivial
  | .dat _, h => Da.mono e h
  | .ad _, h => h
  | .scr _, ⟨a, h1, h2⟩ => ⟨a, h1, e.seq h2⟩
  | .ty _, h => h
  | .dic _, ⟨a, vs, h1, h2, h3, h4⟩ => ⟨a, vs, h1, e _ _ h2, h3, DaAll.mono e h4⟩
  | .exc .., ⟨h1, h2⟩ => ⟨h1, h2.mono e⟩
  | .xob .., ⟨a, h1, h2⟩ => ⟨a, h1, h2.mono e⟩
inductive SDall (Hk : Hp) : List V → List SD → Prop
  | nil : SDall Hk [] []
  | cons {v : V} {vs : List V} {r : SD} {rs : List SD} : SDok K Hk v r → SDall Hk vs rs → SDall Hk (v :: vs) (r :: rs)
section
variable {K} {H H' : Hp}
theorem SDall.mono (e : Same H H') : ∀ {vs : List V} {rs : List SD}, SDall K H vs rs → SDall K H' vs rs
  | _, _, .nil => .nil
  | _, _, .cons h r => .cons (h.mono e) (SDall.mono e r)
theorem SDall.length : ∀ {vs : List V} {rs : List SD}, SDall K H vs rs → vs.length = rs.length
  | _, _, .nil => rfl
  | _, _, .cons _ r => by rw [List.length_cons, List.length_cons, SDall.length r]
theorem SDall.append : ∀ {vs ws : List V} {ds es : List SD}, SDall K H vs ds → SDall K H ws es → SDall K H (vs ++ ws) (ds ++ es)
  | _, _, _, _, .nil, s => s
  | _, _, _, _, .cons h r, s => .cons h (SDall.append r s)
theorem SDall.get : ∀ {vs : List V} {ds : List SD} {i : Nat} {d : SD}, SDall K H vs ds → ds[i]? = some d → ∃ v, vs[i]? = some v ∧ SDok K H v d
  | _, _, _, _, .nil, e => by simp at e
  | _, _, 0, _, .cons h _, e => by
    simp at e; subst e; exact ⟨_, rfl, h⟩
  | _, _, i + 1, _, .cons _ r, e => by
    obtain ⟨v, h1, h2⟩ := SDall.get (i := i) r (by simpa using e)
    exact ⟨v, by simpa using h1, h2⟩
theorem SDall.set {v : V} {r : SD} (h : SDok K H v r) : ∀ {vs : List V} {rs : List SD} (j : Nat), SDall K H vs rs → SDall K H (vs.set j v) (rs.set j r)
  | _, _, _, .nil => .nil
  | _, _, 0, .cons _ t => .cons h t
  | _, _, j + 1, .cons q t => .cons q (SDall.set h j t)
theorem SDall.take : ∀ {vs : List V} {ds : List SD} (n : Nat), SDall K H vs ds → SDall K H (vs.take n) (ds.take n)
  | _, _, 0, _ => .nil
  | _, _, _ + 1, .nil => .nil
  | _, _, n + 1, .cons h r => .cons h (SDall.take n r)
theorem SDall.drop : ∀ {vs : List V} {ds : List SD} (n : Nat), SDall K H vs ds → SDall K H (vs.drop n) (ds.drop n)
  | _, _, 0, r => r
  | _, _, _ + 1, .nil => .nil
  | _, _, n + 1, .cons _ r => SDall.drop n r
theorem SDall.dats : ∀ {vs : List V} {ds : List PyData}, SDall K H vs (ds.map SD.dat) → DaAll H vs ds
  | _, [], h => by cases h; exact .nil
  | _, d :: ds, h => by
    cases h with
    | cons h r => exact .cons h (SDall.dats r)
theorem SDall.of_dats : ∀ {vs : List V} {ds : List PyData}, DaAll H vs ds → SDall K H vs (ds.map SD.dat)
  | _, _, .nil => .nil
  | _, _, .cons h r => .cons h (SDall.of_dats r)
end

/-! ## what is owned: lists (and dicts with text keys) that nothing else knows -/
inductive OD where
  | lst (rs : List SD)
  | dK (kvs : List (Key × SD))
  | tup (rs : List SD)
  | lstX (vs : List V) (rs : List SD)
  | obj (o : HO) (vs : List V) (rs : List SD)
abbrev Own := List (Addr × OD)
def ODok (Hk H : Hp) (a : Addr) : OD → Prop
  | .lst rs => ∃ vs, H a = some (.lst vs) ∧ SDall K Hk vs rs
  | .dK kvs => ∃ vs : List (Key × V), H a = some (.dK vs) ∧ vs.map (·.1) = kvs.map (·.1) ∧ SDall K Hk (vs.map (·.2)) (kvs.map (·.2))
  | .tup rs => ∃ vs, H a = some (.tup vs) ∧ SDall K Hk vs rs
  | .lstX vs rs => H a = some (.lst vs) ∧ SDall K Hk vs rs
  | .obj o vs rs => H a = some o ∧ SDall K Hk vs rs
structure Hold (Hk : Hp) (O : Own) (H : Hp) : Prop where
  kn : Same Hk H
  ow : ∀ p ∈ O, ODok K Hk H p.1 p.2 ∧ Hk p.1 = none
  nd : (O.map (·.1)).Nodup
structure Pt (Hk : Hp) (O : Own) (ds : List SD) (σ : L2.St) (H : Hp) : Prop where
  hold : Hold K Hk O H
  len : σ.length = ds.length
  env : ∀ (i : Nat) (r : SD), ds[i]? = some r → r = .non ∨ ∃ v, σ[i]? = some (some v) ∧ SDok K Hk v r
end
section
variable {K : PySem.W.Frag} {Hk Hk' H H' : Hp} {O O' : Own} {ds : List SD} {σ : L2.St}
theorem ODok.some {a : Addr} {x : OD} (h : ODok K Hk H a x) : ∃ o, H a = some o := by
  cases x with
  | lst rs => obtain ⟨vs, h, _⟩ := h; exact ⟨_, h⟩
  | dK rs => obtain ⟨vs, h, _⟩ := h; exact ⟨_, h⟩
  | tup rs => obtain ⟨vs, h, _⟩ := h; exact ⟨_, h⟩
  | lstX vs rs => obtain ⟨h, _⟩ := h; exact ⟨_, h⟩
  | obj o vs rs => obtain ⟨h, _⟩ := h; exact ⟨_, h⟩
theorem ODok.mono {a : Addr} {x : OD} (e : Same Hk Hk') (h : ODok K Hk H a x) (ha : H' a = H a) : ODok K Hk' H' a x := by
  cases x with
  | lst rs => obtain ⟨vs, h, q⟩ := h; exact ⟨vs, ha.trans h, q.mono e⟩
  | dK rs => obtain ⟨vs, h, k, q⟩ := h; exact ⟨vs, ha.trans h, k, q.mono e⟩
  | tup rs => obtain ⟨vs, h, q⟩ := h; exact ⟨vs, ha.trans h, q.mono e⟩
  | lstX vs rs => obtain ⟨h, q⟩ := h; exact ⟨ha.trans h, q.mono e⟩
  | obj o vs rs => obtain ⟨h, q⟩ := h; exact ⟨ha.trans h, q.mono e⟩
theorem Hold.free_own (h : Hold K Hk O H) {p : Addr} (hp : H p = none) : p ∉ O.map (·.1) := fun z => by
  obtain ⟨q, hq, e⟩ := List.mem_map.mp z
  obtain ⟨o, ho⟩ := (h.ow q hq).1.some
  rw [e, hp] at ho
  cases ho
theorem same_new {H : Hp} {p : Addr} {o : HO} (h : H p = none) : Same H (upd H p o) := fun b x e => by
  rw [upd_ne (ne_of_none e h)]
  exact e
/-- a new object that is known at once -/
theorem Hold.know (h : Hold K Hk O H) {p : Addr} {o : HO} (hp : H p = none) : Hold K (upd Hk p o) O (upd H p o) := by
  have kp : Hk p = none := h.kn.free hp
  refine ⟨fun b x e => ?_, fun q hq => ?_, h.nd⟩
  · by_cases hb : b = p
    · subst hb
      rw [upd_same] at e ⊢
      exact e
    · rw [upd_ne hb] at e ⊢
      exact h.kn b x e
  · have ne : q.1 ≠ p := fun z => h.free_own hp (z ▸ List.mem_map.mpr ⟨q, hq, rfl⟩)
    obtain ⟨h1, h2⟩ := h.ow q hq
    exact ⟨h1.mono (same_new kp) (upd_ne ne), by rw [upd_ne ne]; exact h2⟩
/-- a new list that is owned -/
theorem Hold.own (h : Hold K Hk O H) {p : Addr} {vs : List V} {rs : List SD} (hp : H p = none) (hv : SDall K Hk vs rs) : Hold K Hk ((p, .lst rs) :: O) (upd H p (.lst vs)) := by
  have kp : Hk p = none := h.kn.free hp
  refine ⟨fun b x e => ?_, fun q hq => ?_, ?_⟩
  · rw [upd_ne (ne_of_none e kp)]
    exact h.kn b x e
  · rcases List.mem_cons.mp hq with rfl | hq
    · exact ⟨⟨vs, upd_same, hv⟩, kp⟩
    · have ne : q.1 ≠ p := fun z => h.free_own hp (z ▸ List.mem_map.mpr ⟨q, hq, rfl⟩)
      obtain ⟨h1, h2⟩ := h.ow q hq
      exact ⟨h1.mono (Same.refl _) (upd_ne ne), h2⟩
  · rw [List.map_cons, List.nodup_cons]
    exact ⟨h.free_own hp, h.nd⟩
/-- a new object that is owned -/
theorem Hold.ownG (h : Hold K Hk O H) {p : Addr} {o : HO} {x : OD} (hp : H p = none) (hx : ODok K Hk (upd H p o) p x) : Hold K Hk ((p, x) :: O) (upd H p o) := by
  have kp : Hk p = none := h.kn.free hp
  refine ⟨fun b y e => ?_, fun q hq => ?_, ?_⟩
  · rw [upd_ne (ne_of_none e kp)]
    exact h.kn b y e
  · rcases List.mem_cons.mp hq with rfl | hq
    · exact ⟨hx, kp⟩
    · have ne : q.1 ≠ p := fun z => h.free_own hp (z ▸ List.mem_map.mpr ⟨q, hq, rfl⟩)
      obtain ⟨h1, h2⟩ := h.ow q hq
      exact ⟨h1.mono (Same.refl _) (upd_ne ne), h2⟩
  · rw [List.map_cons, List.nodup_cons]
    exact ⟨h.free_own hp, h.nd⟩
/-- an owned object, said otherwise -/
theorem Hold.tell {a : Addr} {x y : OD} (h : Hold K Hk ((a, x) :: O) H) (hy : ODok K Hk H a y) : Hold K Hk ((a, y) :: O) H := by
  have nd := h.nd
  rw [List.map_cons] at nd
  refine ⟨h.kn, fun q hq => ?_, by rw [List.map_cons]; exact nd⟩
  rcases List.mem_cons.mp hq with rfl | hq
  · exact ⟨hy, (h.ow (a, x) List.mem_cons_self).2⟩
  · exact h.ow q (List.mem_cons_of_mem _ hq)
/-- an owned object is written -/
theorem Hold.writeG {a : Addr} {x y : OD} {o : HO} (h : Hold K Hk ((a, x) :: O) H) (hy : ODok K Hk (upd H a o) a y) : Hold K Hk ((a, y) :: O) (upd H a o) := by
  have ka : Hk a = none := (h.ow (a, x) List.mem_cons_self).2
  have nd := h.nd
  rw [List.map_cons, List.nodup_cons] at nd
  refine ⟨fun b z e => ?_, fun q hq => ?_, ?_⟩
  · rw [upd_ne (ne_of_none e ka)]
    exact h.kn b z e
  · rcases List.mem_cons.mp hq with rfl | hq
    · exact ⟨hy, ka⟩
    · have ne : q.1 ≠ a := fun z => nd.1 (z ▸ List.mem_map.mpr ⟨q, hq, rfl⟩)
      obtain ⟨h1, h2⟩ := h.ow q (List.mem_cons_of_mem _ hq)
      exact ⟨h1.mono (Same.refl _) (upd_ne ne), h2⟩
  · rw [List.map_cons, List.nodup_cons]
    exact nd
theorem Hold.perm (h : Hold K Hk O H) (p : O.Perm O') : Hold K Hk O' H :=
  ⟨h.kn, fun q hq => h.ow q (p.mem_iff.mpr hq), (p.map _).nodup_iff.mp h.nd⟩
theorem Hold.sub (h : Hold K Hk O H) (s : List.Sublist O' O) : Hold K Hk O' H :=
  ⟨h.kn, fun q hq => h.ow q (s.subset hq), (s.map _).nodup h.nd⟩
/-- an owned list is written -/
theorem Hold.write {a : Addr} {x : OD} {vs : List V} {rs : List SD} (h : Hold K Hk ((a, x) :: O) H) (hv : SDall K Hk vs rs) : Hold K Hk ((a, .lst rs) :: O) (upd H a (.lst vs)) := by
  have ka : Hk a = none := (h.ow (a, x) List.mem_cons_self).2
  have nd := h.nd
  rw [List.map_cons, List.nodup_cons] at nd
  refine ⟨fun b y e => ?_, fun q hq => ?_, ?_⟩
  · rw [upd_ne (ne_of_none e ka)]
    exact h.kn b y e
  · rcases List.mem_cons.mp hq with rfl | hq
    · exact ⟨⟨vs, upd_same, hv⟩, ka⟩
    · have ne : q.1 ≠ a := fun z => nd.1 (z ▸ List.mem_map.mpr ⟨q, hq, rfl⟩)
      obtain ⟨h1, h2⟩ := h.ow q (List.mem_cons_of_mem _ hq)
      exact ⟨h1.mono (Same.refl _) (upd_ne ne), h2⟩
  · rw [List.map_cons, List.nodup_cons]
    exact nd
/-- an owned list of data becomes known -/
theorem Hold.freeze {a : Addr} {es : List PyData} (h : Hold K Hk ((a, .lst (es.map .dat)) :: O) H) : ∃ Hk', Same Hk Hk' ∧ Hold K Hk' O H ∧ Da Hk' (.ref a) (.list es) := by
  obtain ⟨⟨vs, ha, hv⟩, ka⟩ := h.ow (a, .lst (es.map .dat)) List.mem_cons_self
  have nd := h.nd
  rw [List.map_cons, List.nodup_cons] at nd
  have sm : Same Hk (upd Hk a (.lst vs)) := same_new ka
  refine ⟨upd Hk a (.lst vs), sm, ⟨fun b y e => ?_, fun q hq => ?_, nd.2⟩, .lst upd_same (DaAll.mono sm hv.dats)⟩
  · by_cases hb : b = a
    · subst hb
      rw [upd_same] at e
      rw [ha]
      exact e
    · rw [upd_ne hb] at e
      exact h.kn b y e
  · have ne : q.1 ≠ a := fun z => nd.1 (z ▸ List.mem_map.mpr ⟨q, hq, rfl⟩)
    obtain ⟨h1, h2⟩ := h.ow q (List.mem_cons_of_mem _ hq)
    exact ⟨h1.mono sm rfl, by rw [upd_ne ne]; exact h2⟩
theorem Pt.ext (p : Pt K Hk O ds σ H) (e : Same Hk Hk') (h : Hold K Hk' O' H') : Pt K Hk' O' ds σ H' :=
  ⟨h, p.len, fun i r hr => (p.env i r hr).imp id fun ⟨v, h1, h2⟩ => ⟨v, h1, h2.mono e⟩⟩
theorem Pt.set {v : V} {r : SD} {j : Nat} (p : Pt K Hk O ds σ H) (h : SDok K Hk v r) : Pt K Hk O (ds.set j r) (σ.set j (some v)) H :=
  ⟨p.hold, by rw [List.length_set, List.length_set, p.len], fun i q hq => by
    by_cases hi : i = j
    · subst hi
      have hl : i < (ds.set i r).length := (List.getElem?_eq_some_iff.mp hq).1
      rw [List.length_set] at hl
      rw [List.getElem?_set_self hl] at hq
      cases hq
      exact .inr ⟨v, List.getElem?_set_self (by rw [p.len]; exact hl), h⟩
    · rw [List.getElem?_set_ne (Ne.symm hi)] at hq
      rw [List.getElem?_set_ne (Ne.symm hi)]
      exact p.env i q hq⟩
theorem Pt.weak {ds' : List SD} (p : Pt K Hk O ds σ H) (hl : ds'.length = ds.length) (h : ∀ (i : Nat) (r : SD), ds'[i]? = some r → r = .non ∨ ds[i]? = some r) : Pt K Hk O ds' σ H :=
  ⟨p.hold, by rw [p.len, hl], fun i r hr => (h i r hr).elim .inl (p.env i r)⟩
end
end Wk
namespace Wk
open PySem PySem.Spec PyProof.Rows L2
/-- descriptions that are data, all of them -/
inductive Dats : List SD → List PyData → Prop
  | nil : Dats [] []
  | cons {d : PyData} {rs : List SD} {ds : List PyData} : Dats rs ds → Dats (.dat d :: rs) (d :: ds)
theorem Dats.eq : ∀ {rs : List SD} {ds : List PyData}, Dats rs ds → rs = ds.map .dat
  | _, _, .nil => rfl
  | _, _, .cons h => by rw [Dats.eq h]; rfl
theorem Dats.map : ∀ (ds : List PyData), Dats (ds.map .dat) ds
  | [] => .nil
  | _ :: r => .cons (Dats.map r)
theorem Dats.ints : ∀ (ns : List Int), Dats (ns.map fun n => iV n) (ns.map .int)
  | [] => .nil
  | _ :: r => .cons (Dats.ints r)
theorem Dats.append : ∀ {rs qs : List SD} {ds es : List PyData}, Dats rs ds → Dats qs es → Dats (rs ++ qs) (ds ++ es)
  | _, _, _, _, .nil, h => h
  | _, _, _, _, .cons h, k => .cons (Dats.append h k)
section
variable (K : PySem.W.Frag)
/-- what is wanted of a value, met -/
def Kont (Hk : Hp) (Q : SD → Own → Prop) (Q' : VK) : Prop :=
  ∀ v r O2 Hk2 H2, Same Hk Hk2 → Hold K Hk2 O2 H2 → SDok K Hk2 v r → Q r O2 → Q' v H2
def EvW (t : TE) (O : Own) (ds : List SD) (Q : SD → Own → Prop) : Prop :=
  ∀ Hk σ H, Pt K Hk O ds σ H → ∀ Q' : VK, Kont K Hk Q Q' → t σ H Q'
def AvW (t : TA) (O : Own) (ds : List SD) (Q : List SD → Own → Prop) : Prop :=
  ∀ Hk σ H, Pt K Hk O ds σ H → ∀ Q' : List V → Hp → Prop, (∀ vs rs O2 Hk2 H2, Same Hk Hk2 → Hold K Hk2 O2 H2 → SDall K Hk2 vs rs → Q rs O2 → Q' vs H2) → t σ H Q'
def TvW (t : TT) (O : Own) (ds : List SD) (Q : Bool → Own → Prop) : Prop :=
  ∀ Hk σ H, Pt K Hk O ds σ H → ∀ Q' : Bool → Hp → Prop, (∀ b O2 Hk2 H2, Same Hk Hk2 → Hold K Hk2 O2 H2 → Q b O2 → Q' b H2) → t σ H Q'
def IvW (t : TO) (O : Own) (ds : List SD) (Q : Option Int → Own → Prop) : Prop :=
  ∀ Hk σ H, Pt K Hk O ds σ H → ∀ Q' : Option Int → Hp → Prop, (∀ b O2 Hk2 H2, Same Hk Hk2 → Hold K Hk2 O2 H2 → Q b O2 → Q' b H2) → t σ H Q'
def OpW (r : R2) (x y : SD) (O : Own) (Q : SD → Own → Prop) : Prop :=
  ∀ Hk H, Hold K Hk O H → ∀ u v, SDok K Hk u x → SDok K Hk v y → ∀ Q' : VK, Kont K Hk Q Q' → r u v H Q'
def UnW (r : V → Hp → VK → Prop) (x : SD) (O : Own) (Q : SD → Own → Prop) : Prop :=
  ∀ Hk H, Hold K Hk O H → ∀ u, SDok K Hk u x → ∀ Q' : VK, Kont K Hk Q Q' → r u H Q'
def CbW (r : List V → Hp → VK → Prop) (xs : List SD) (O : Own) (Q : SD → Own → Prop) : Prop :=
  ∀ Hk H, Hold K Hk O H → ∀ us, SDall K Hk us xs → ∀ Q' : VK, Kont K Hk Q Q' → r us H Q'
def MbW (r : V → List V → Hp → VK → Prop) (x : SD) (xs : List SD) (O : Own) (Q : SD → Own → Prop) : Prop :=
  ∀ Hk H, Hold K Hk O H → ∀ u us, SDok K Hk u x → SDall K Hk us xs → ∀ Q' : VK, Kont K Hk Q Q' → r u us H Q'
def SlW (r : V → Option Int → Option Int → Hp → VK → Prop) (x : SD) (lo hi : Option Int) (O : Own) (Q : SD → Own → Prop) : Prop :=
  ∀ Hk H, Hold K Hk O H → ∀ u, SDok K Hk u x → ∀ Q' : VK, Kont K Hk Q Q' → r u lo hi H Q'
/-- a def's promise, by what it wants -/
def spW (pre : List SD → Own → (SD → Own → Prop) → Prop) : Sp := fun vs H Q' _ =>
  ∃ Hk O rs Q, Hold K Hk O H ∧ SDall K Hk vs rs ∧ pre rs O Q ∧ Kont K Hk Q Q'
def Xt (Hk : Hp) (P : Hp → Prop) : Prop := ∀ Hk', Same Hk Hk' → P Hk'
structure AE where
  nx : Own → List SD → Prop
  rt : SD → Own → Prop
  bk : Own → List SD → Prop := fun _ _ => False
  ct : Own → List SD → Prop := fun _ _ => False
  xt : Hp → Prop := fun _ => True
def Post (Hk : Hp) (P : Own → List SD → Prop) (P' : L2.St → Hp → Prop) : Prop := ∀ O2 ds2 Hk2 σ2 H2, Same Hk Hk2 → Pt K Hk2 O2 ds2 σ2 H2 → P O2 ds2 → P' σ2 H2
structure Lnk (Hk : Hp) (A : AE) (D : Ends) : Prop where
  nx : Post K Hk A.nx D.nx
  rt : Kont K Hk A.rt D.rt
  bk : Post K Hk A.bk D.bk
  ct : Post K Hk A.ct D.ct
  xt : Xt Hk A.xt
def StW (t : TS) (O : Own) (ds : List SD) (A : AE) : Prop := ∀ Hk σ H (D : Ends), Pt K Hk O ds σ H → Lnk K Hk A D → t D σ H
end
section
variable {K : PySem.W.Frag} {Hk Hk' H H' : Hp} {O O' : Own} {ds : List SD} {σ : L2.St} {Q : SD → Own → Prop} {Q' : VK} {r : R2} {x y : SD} {A : AE} {D : Ends}
theorem Kont.ext (k : Kont K Hk Q Q') (e : Same Hk Hk') : Kont K Hk' Q Q' := fun v r O2 Hk2 H2 e2 => k v r O2 Hk2 H2 (e.trans e2)
theorem Kont.now (k : Kont K Hk Q Q') (h : Hold K Hk O H) {v : V} {r : SD} (hv : SDok K Hk v r) (q : Q r O) : Q' v H := k v r O Hk H (Same.refl _) h hv q
theorem Post.ext {P : Own → List SD → Prop} {P' : L2.St → Hp → Prop} (k : Post K Hk P P') (e : Same Hk Hk') : Post K Hk' P P' := fun O2 ds2 Hk2 σ2 H2 e2 => k O2 ds2 Hk2 σ2 H2 (e.trans e2)
theorem Xt.ext {P : Hp → Prop} (k : Xt Hk P) (e : Same Hk Hk') : Xt Hk' P := fun Hk2 e2 => k Hk2 (e.trans e2)
theorem Lnk.ext (k : Lnk K Hk A D) (e : Same Hk Hk') : Lnk K Hk' A D := ⟨k.nx.ext e, k.rt.ext e, k.bk.ext e, k.ct.ext e, k.xt.ext e⟩

/-! ### expressions -/
theorem w_var {i : Nat} {r : SD} (h : ds[i]? = some r) (hn : r ≠ .non) (q : Q r O) : EvW K (tVar i) O ds Q := fun Hk σ H p Q' k => by
  rcases p.env i r h with e | ⟨v, hv, hs⟩
  · exact absurd e hn
  · exact ⟨v, hv, k.now p.hold hs q⟩
theorem w_vD {i : Nat} {d : PyData} (h : ds[i]? = some (.dat d)) (q : Q (.dat d) O) : EvW K (tVar i) O ds Q := w_var h (fun z => nomatch z) q
theorem w_vA {i : Nat} {a : Addr} (h : ds[i]? = some (.ad a)) (q : Q (.ad a) O) : EvW K (tVar i) O ds Q := w_var h (fun z => nomatch z) q
theorem w_vS {i : Nat} {ns : List Int} (h : ds[i]? = some (.scr ns)) (q : Q (.scr ns) O) : EvW K (tVar i) O ds Q := w_var h (fun z => nomatch z) q
theorem w_int {i : Int} (q : Q (iV i) O) : EvW K (tC (.int i)) O ds Q := fun Hk σ H p Q' k => k.now p.hold (r := iV i) (.int i) q
theorem w_bl {b : Bool} (q : Q (bV b) O) : EvW K (tC (.bl b)) O ds Q := fun Hk σ H p Q' k => k.now p.hold (r := bV b) (.bl b) q
theorem w_str {b : Str} (q : Q (.dat (.str b)) O) : EvW K (tC (.str b)) O ds Q := fun Hk σ H p Q' k => k.now p.hold (r := .dat (.str b)) (.str b) q
theorem w_none (q : Q (.dat .none) O) : EvW K (tC .non) O ds Q := fun Hk σ H p Q' k => k.now p.hold (r := .dat .none) .non q
theorem w_op {ta tb : TE} (h : EvW K ta O ds fun r1 O1 => EvW K tb O1 ds fun r2 O2 => OpW K r r1 r2 O2 Q) : EvW K (tOp r ta tb) O ds Q := fun Hk σ H p Q' k =>
  h Hk σ H p _ fun v1 r1 O1 Hk1 H1 e1 h1 s1 q1 => q1 Hk1 σ H1 (p.ext e1 h1) _ fun v2 r2 O2 Hk2 H2 e2 h2 s2 q2 =>
    q2 Hk2 H2 h2 v1 v2 (s1.mono e2) s2 Q' (k.ext (e1.trans e2))
theorem w_un {ta : TE} {r : V → Hp → VK → Prop} (h : EvW K ta O ds fun r1 O1 => UnW K r r1 O1 Q) : EvW K (tUn r ta) O ds Q := fun Hk σ H p Q' k =>
  h Hk σ H p _ fun v1 r1 O1 Hk1 H1 e1 h1 s1 q1 => q1 Hk1 H1 h1 v1 s1 Q' (k.ext e1)
theorem w_if {t : TT} {ta tb : TE} (h : TvW K t O ds fun b O1 => (b = true → EvW K ta O1 ds Q) ∧ (b = false → EvW K tb O1 ds Q)) : EvW K (tIf t ta tb) O ds Q := fun Hk σ H p Q' k =>
  h Hk σ H p _ fun b O1 Hk1 H1 e1 h1 q1 => by
    cases b with
    | true => exact q1.1 rfl Hk1 σ H1 (p.ext e1 h1) Q' (k.ext e1)
    | false => exact q1.2 rfl Hk1 σ H1 (p.ext e1 h1) Q' (k.ext e1)
theorem w_nil {Q : List SD → Own → Prop} (q : Q [] O) : AvW K tNil O ds Q := fun Hk σ H p Q' k => k [] [] O Hk H (Same.refl _) p.hold .nil q
theorem w_cons {ta : TE} {tr : TA} {Q : List SD → Own → Prop} (h : EvW K ta O ds fun r1 O1 => AvW K tr O1 ds fun rs O2 => Q (r1 :: rs) O2) : AvW K (tCons ta tr) O ds Q := fun Hk σ H p Q' k =>
  h Hk σ H p _ fun v1 r1 O1 Hk1 H1 e1 h1 s1 q1 => q1 Hk1 σ H1 (p.ext e1 h1) _ fun vs rs O2 Hk2 H2 e2 h2 s2 q2 =>
    k (v1 :: vs) (r1 :: rs) O2 Hk2 H2 (e1.trans e2) h2 (.cons (s1.mono e2) s2) q2
theorem w_cb {r : List V → Hp → VK → Prop} {ta : TA} (h : AvW K ta O ds fun rs O1 => CbW K r rs O1 Q) : EvW K (tCB r ta) O ds Q := fun Hk σ H p Q' k =>
  h Hk σ H p _ fun vs rs O1 Hk1 H1 e1 h1 s1 q1 => q1 Hk1 H1 h1 vs s1 Q' (k.ext e1)
theorem w_call {pre : List SD → Own → (SD → Own → Prop) → Prop} {E : XK} {ta : TA} (h : AvW K ta O ds fun rs O1 => pre rs O1 Q) : EvW K (tCall (spW K pre) [] E ta) O ds Q := fun Hk σ H p Q' k =>
  h Hk σ H p _ fun vs rs O1 Hk1 H1 e1 h1 s1 q1 => by
    show spW K pre (vs ++ []) H1 Q' E
    rw [List.append_nil]
    exact ⟨Hk1, O1, rs, Q, h1, s1, q1, k.ext e1⟩
/-- a tuple of data -/
theorem w_tup {ta : TA} (h : AvW K ta O ds fun rs O1 => ∃ es : List PyData, Dats rs es ∧ es.length ≤ sizeLine ∧ Q (.dat (.tuple es)) O1) : EvW K (tTup ta) O ds Q := fun Hk σ H p Q' k =>
  h Hk σ H p _ fun vs rs O1 Hk1 H1 e1 h1 s1 q1 => by
    obtain ⟨es, hda, hl, q⟩ := q1
    obtain rfl := hda.eq
    have hd := s1.dats
    refine ⟨by rw [hd.length]; exact hl, fun l hp => ?_⟩
    have sm : Same Hk1 (upd Hk1 l (.tup vs)) := same_new (h1.kn.free hp)
    exact k _ (.dat (.tuple es)) O1 (upd Hk1 l (.tup vs)) _ (e1.trans sm) (h1.know hp) (.tup upd_same (DaAll.mono sm hd)) q
/-- a list display as data -/
theorem w_lst {ta : TA} (h : AvW K ta O ds fun rs O1 => ∃ es : List PyData, Dats rs es ∧ es.length ≤ sizeLine ∧ Q (.dat (.list es)) O1) : EvW K (tLst ta) O ds Q := fun Hk σ H p Q' k =>
  h Hk σ H p _ fun vs rs O1 Hk1 H1 e1 h1 s1 q1 => by
    obtain ⟨es, hda, hl, q⟩ := q1
    obtain rfl := hda.eq
    have hd := s1.dats
    refine ⟨by rw [hd.length]; exact hl, fun l hp => ?_⟩
    have sm : Same Hk1 (upd Hk1 l (.lst vs)) := same_new (h1.kn.free hp)
    exact k _ (.dat (.list es)) O1 (upd Hk1 l (.lst vs)) _ (e1.trans sm) (h1.know hp) (.lst upd_same (DaAll.mono sm hd)) q
/-- a list display that is owned, in front -/
theorem w_lstO {ta : TA} (h : AvW K ta O ds fun rs O1 => rs.length ≤ sizeLine ∧ ∀ l, Q (.ad l) ((l, .lst rs) :: O1)) : EvW K (tLst ta) O ds Q := fun Hk σ H p Q' k =>
  h Hk σ H p _ fun vs rs O1 Hk1 H1 e1 h1 s1 q1 => by
    obtain ⟨hl, q⟩ := q1
    refine ⟨by rw [s1.length]; exact hl, fun l hp => ?_⟩
    exact k _ (.ad l) _ Hk1 _ e1 (h1.own hp s1) rfl (q l)
/-- .. behind the first -/
theorem w_lstO1 {ta : TA} (h : AvW K ta O ds fun rs O1 => rs.length ≤ sizeLine ∧ ∃ a Oa, O1 = a :: Oa ∧ ∀ l, Q (.ad l) (a :: (l, .lst rs) :: Oa)) : EvW K (tLst ta) O ds Q := fun Hk σ H p Q' k =>
  h Hk σ H p _ fun vs rs O1 Hk1 H1 e1 h1 s1 q1 => by
    obtain ⟨hl, a, Oa, rfl, q⟩ := q1
    refine ⟨by rw [s1.length]; exact hl, fun l hp => ?_⟩
    exact k _ (.ad l) _ Hk1 _ e1 ((h1.own hp s1).perm (List.Perm.swap ..)) rfl (q l)
/-! ### what is owned, put otherwise -/
theorem w_perm {t : TE} (s : O.Perm O') (h : EvW K t O' ds Q) : EvW K t O ds Q := fun Hk σ H p => h Hk σ H ⟨p.hold.perm s, p.len, p.env⟩
theorem w_drop {t : TE} (s : List.Sublist O' O) (h : EvW K t O' ds Q) : EvW K t O ds Q := fun Hk σ H p => h Hk σ H ⟨p.hold.sub s, p.len, p.env⟩
theorem s_perm {t : TS} (s : O.Perm O') (h : StW K t O' ds A) : StW K t O ds A := fun Hk σ H D p => h Hk σ H D ⟨p.hold.perm s, p.len, p.env⟩
theorem s_dropO {t : TS} (s : List.Sublist O' O) (h : StW K t O' ds A) : StW K t O ds A := fun Hk σ H D p => h Hk σ H D ⟨p.hold.sub s, p.len, p.env⟩
/-- the value may be taken as known data, if it is an owned list of data -/
theorem w_frz {t : TE} {Q : SD → Own → Prop} (h : EvW K t O ds fun r O1 => ∃ a rs es Oa, r = .ad a ∧ O1.Perm ((a, .lst rs) :: Oa) ∧ Dats rs es ∧ Q (.dat (.list es)) Oa) : EvW K t O ds Q := fun Hk σ H p Q' k =>
  h Hk σ H p _ fun v r O1 Hk1 H1 e1 h1 s1 q1 => by
    obtain ⟨a, rs, es, Oa, rfl, hp, hda, q⟩ := q1
    obtain rfl := hda.eq
    cases (show v = .ref a from s1)
    obtain ⟨Hk2, e2, h2, d2⟩ := (h1.perm hp).freeze
    exact k _ (.dat (.list es)) Oa Hk2 H1 (e1.trans e2) h2 d2 q
theorem w_mono {t : TE} {Q R : SD → Own → Prop} (h : EvW K t O ds R) (k : ∀ r O, R r O → Q r O) : EvW K t O ds Q := fun Hk σ H p Q' kk =>
  h Hk σ H p Q' fun v r O2 Hk2 H2 e h2 s q => kk v r O2 Hk2 H2 e h2 s (k r O2 q)
theorem s_ds {t : TS} {ds' : List SD} (hl : ds'.length = ds.length) (hd : ∀ (i : Nat) (r : SD), ds'[i]? = some r → r = .non ∨ ds[i]? = some r) (h : StW K t O ds' A) : StW K t O ds A := fun Hk σ H D p => h Hk σ H D (p.weak hl hd)

/-! ### tests -/
theorem t_test {te : TE} {Q : Bool → Own → Prop} (h : EvW K te O ds fun r O1 => ∃ b, r = bV b ∧ Q b O1) : TvW K (tTest te) O ds Q := fun Hk σ H p Q' k =>
  h Hk σ H p _ fun v r O1 Hk1 H1 e1 h1 s1 q1 => by
    obtain ⟨b, rfl, q⟩ := q1
    cases (show Da Hk1 v (.bool b) from s1)
    exact ⟨b, rfl, k b O1 Hk1 H1 e1 h1 q⟩
theorem t_B {te : TE} {Q : Bool → Own → Prop} (h : EvW K te O ds fun r O1 => ∃ b, r = bV b ∧ Q b O1) : TvW K (tB te) O ds Q := fun Hk σ H p Q' k =>
  h Hk σ H p _ fun v r O1 Hk1 H1 e1 h1 s1 q1 => by
    obtain ⟨b, rfl, q⟩ := q1
    cases (show Da Hk1 v (.bool b) from s1)
    exact ⟨b, rfl, k b O1 Hk1 H1 e1 h1 q⟩
theorem t_and {t u : TT} {Q : Bool → Own → Prop} (h : TvW K t O ds fun b O1 => (b = true → TvW K u O1 ds Q) ∧ (b = false → Q false O1)) : TvW K (tAnd t u) O ds Q := fun Hk σ H p Q' k =>
  h Hk σ H p _ fun b O1 Hk1 H1 e1 h1 q1 => by
    cases b with
    | true => exact iteT (q1.1 rfl Hk1 σ H1 (p.ext e1 h1) Q' fun b O2 Hk2 H2 e2 => k b O2 Hk2 H2 (e1.trans e2))
    | false => exact iteF (k false O1 Hk1 H1 e1 h1 (q1.2 rfl))
theorem t_or {t u : TT} {Q : Bool → Own → Prop} (h : TvW K t O ds fun b O1 => (b = true → Q true O1) ∧ (b = false → TvW K u O1 ds Q)) : TvW K (tOr t u) O ds Q := fun Hk σ H p Q' k =>
  h Hk σ H p _ fun b O1 Hk1 H1 e1 h1 q1 => by
    cases b with
    | true => exact iteT (k true O1 Hk1 H1 e1 h1 (q1.1 rfl))
    | false => exact iteF (q1.2 rfl Hk1 σ H1 (p.ext e1 h1) Q' fun b O2 Hk2 H2 e2 => k b O2 Hk2 H2 (e1.trans e2))
theorem t_not {t : TT} {Q : Bool → Own → Prop} (h : TvW K t O ds fun b O1 => Q (!b) O1) : TvW K (tNot t) O ds Q := fun Hk σ H p Q' k =>
  h Hk σ H p _ fun b O1 Hk1 H1 e1 h1 q1 => k (!b) O1 Hk1 H1 e1 h1 q1
theorem t_yes {Q : Bool → Own → Prop} (q : Q true O) : TvW K tYes O ds Q := fun Hk σ H p Q' k => k true O Hk H (Same.refl _) p.hold q
theorem w_andV {ta tb : TE} (h : EvW K ta O ds fun r O1 => ∃ c, r = bV c ∧ (c = true → EvW K tb O1 ds Q) ∧ (c = false → Q (bV false) O1)) : EvW K (tAndV ta tb) O ds Q := fun Hk σ H p Q' k =>
  h Hk σ H p _ fun v r O1 Hk1 H1 e1 h1 s1 q1 => by
    obtain ⟨c, rfl, qt, qf⟩ := q1
    cases (show Da Hk1 v (.bool c) from s1)
    refine ⟨c, rfl, ?_⟩
    cases c with
    | true => exact iteT (qt rfl Hk1 σ H1 (p.ext e1 h1) Q' (k.ext e1))
    | false => exact iteF (k _ (bV false) O1 Hk1 H1 e1 h1 (.bl false) (qf rfl))
theorem w_orV {ta tb : TE} (h : EvW K ta O ds fun r O1 => ∃ c, r = bV c ∧ (c = true → Q (bV true) O1) ∧ (c = false → EvW K tb O1 ds Q)) : EvW K (tOrV ta tb) O ds Q := fun Hk σ H p Q' k =>
  h Hk σ H p _ fun v r O1 Hk1 H1 e1 h1 s1 q1 => by
    obtain ⟨c, rfl, qt, qf⟩ := q1
    cases (show Da Hk1 v (.bool c) from s1)
    refine ⟨c, rfl, ?_⟩
    cases c with
    | true => exact iteT (k _ (bV true) O1 Hk1 H1 e1 h1 (.bl true) (qt rfl))
    | false => exact iteF (qf rfl Hk1 σ H1 (p.ext e1 h1) Q' (k.ext e1))
theorem w_notV {ta : TE} (h : EvW K ta O ds fun r O1 => ∃ c, r = bV c ∧ Q (bV (!c)) O1) : EvW K (tNotV ta) O ds Q := fun Hk σ H p Q' k =>
  h Hk σ H p _ fun v r O1 Hk1 H1 e1 h1 s1 q1 => by
    obtain ⟨c, rfl, q⟩ := q1
    cases (show Da Hk1 v (.bool c) from s1)
    exact ⟨c, rfl, k _ (bV (!c)) O1 Hk1 H1 e1 h1 (.bl _) q⟩
/-! ### operators by values -/
theorem o_I0 {g : Int → Int → V} {i j : Int} {d : PyData} (hd : ∀ H, Da H (g i j) d) (q : Q (.dat d) O) : OpW K (rI0 g) (iV i) (iV j) O Q := fun Hk H h u v hu hv Q' k => by
  cases (show Da Hk u (.int i) from hu)
  cases (show Da Hk v (.int j) from hv)
  exact ⟨i, j, rfl, rfl, k.now h (r := .dat d) (hd Hk) q⟩
theorem o_I {C : Int → Int → Prop} {g : Int → Int → V} {i j : Int} {d : PyData} (hc : C i j) (hd : ∀ H, Da H (g i j) d) (q : Q (.dat d) O) : OpW K (rI C g) (iV i) (iV j) O Q := fun Hk H h u v hu hv Q' k => by
  cases (show Da Hk u (.int i) from hu)
  cases (show Da Hk v (.int j) from hv)
  exact ⟨i, j, rfl, rfl, hc, k.now h (r := .dat d) (hd Hk) q⟩
theorem o_add {i j : Int} (q : Q (iV (i + j)) O) : OpW K (rI0 fun i j => .int (i + j)) (iV i) (iV j) O Q := o_I0 (fun _ => .int _) q
theorem o_sub {i j : Int} (q : Q (iV (i - j)) O) : OpW K (rI0 fun i j => .int (i - j)) (iV i) (iV j) O Q := o_I0 (fun _ => .int _) q
theorem o_mul {i j : Int} (hc : CMul i j) (q : Q (iV (i * j)) O) : OpW K (rI CMul fun i j => .int (i * j)) (iV i) (iV j) O Q := o_I hc (fun _ => .int _) q
theorem cmul_l {i j : Int} (h1 : -(2 ^ 64) < i) (h2 : i < 2 ^ 64) : CMul i j := .inl ⟨h1, h2⟩
theorem cmul_r {i j : Int} (h1 : -(2 ^ 64) < j) (h2 : j < 2 ^ 64) : CMul i j := .inr ⟨h1, h2⟩
theorem o_mod {i j : Int} (hc : 0 < j) (q : Q (iV (i % j)) O) : OpW K (rI (fun _ j => 0 < j) fun i j => .int (i % j)) (iV i) (iV j) O Q := o_I (C := fun _ j => 0 < j) hc (fun _ => .int _) q
/-- the rest as a letter -/
theorem o_modB {i j : Int} (hc : 0 < j) (q : ∀ n : Int, 0 ≤ n → n < j → n = i % j → Q (iV n) O) : OpW K (rI (fun _ j => 0 < j) fun i j => .int (i % j)) (iV i) (iV j) O Q :=
  o_mod hc (q _ (Int.emod_nonneg _ (by omega)) (Int.emod_lt_of_pos _ hc) rfl)
theorem o_fdiv {i j : Int} (hc : 0 < j ∧ j < 1073741824) (q : Q (iV (i / j)) O) : OpW K (rI CDiv fun i j => .int (i / j)) (iV i) (iV j) O Q := o_I (C := CDiv) hc (fun _ => .int _) q
theorem o_pow {i j : Int} (hc : CPow i j) (q : Q (iV (i ^ j.toNat)) O) : OpW K (rI CPow fun i j => .int (i ^ j.toNat)) (iV i) (iV j) O Q := o_I hc (fun _ => .int _) q
theorem o_lt {i j : Int} (q : Q (bV (decide (i < j))) O) : OpW K (rI0 fun i j => .bl (decide (i < j))) (iV i) (iV j) O Q := o_I0 (fun _ => .bl _) q
theorem o_pow18 (q : Q (iV 1000000000000000000) O) : OpW K (rI CPow fun i j => .int (i ^ j.toNat)) (iV 10) (iV 18) O Q := o_pow ⟨by decide, by decide, by decide⟩ q
theorem o_gt {i j : Int} (q : Q (bV (decide (j < i))) O) : OpW K (rI0 fun i j => .bl (decide (j < i))) (iV i) (iV j) O Q := o_I0 (fun _ => .bl _) q
theorem o_ge {i j : Int} (q : Q (bV (decide (j ≤ i))) O) : OpW K (rI0 fun i j => .bl (decide (j ≤ i))) (iV i) (iV j) O Q := o_I0 (fun _ => .bl _) q
theorem o_le {i j : Int} (q : Q (bV (decide (i ≤ j))) O) : OpW K (rI0 fun i j => .bl (decide (i ≤ j))) (iV i) (iV j) O Q := o_I0 (fun _ => .bl _) q
theorem u_neg {i : Int} (q : Q (iV (-i)) O) : UnW K (rU fun i => .int (-i)) (iV i) O Q := fun Hk H h u hu Q' k => by
  cases (show Da Hk u (.int i) from hu)
  exact ⟨i, rfl, k.now h (r := iV (-i)) (.int _) q⟩
theorem o_eqI {i j : Int} (q : Q (bV (decide (i = j))) O) : OpW K rEq (iV i) (iV j) O Q := fun Hk H h u v hu hv Q' k => by
  cases (show Da Hk u (.int i) from hu)
  cases (show Da Hk v (.int j) from hv)
  refine ⟨rfl, ?_⟩
  have e : decide (V.int i = V.int j) = decide (i = j) := by
    by_cases z : i = j
    · rw [decide_eq_true z, decide_eq_true (congrArg V.int z)]
    · rw [decide_eq_false z, decide_eq_false fun q => z (V.int.inj q)]
  rw [e]
  exact k.now h (r := bV _) (.bl _) q
theorem o_neI {i j : Int} (q : Q (bV (!decide (i = j))) O) : OpW K rNe (iV i) (iV j) O Q := fun Hk H h u v hu hv Q' k => by
  cases (show Da Hk u (.int i) from hu)
  cases (show Da Hk v (.int j) from hv)
  refine ⟨rfl, ?_⟩
  have e : decide (V.int i = V.int j) = decide (i = j) := by
    by_cases z : i = j
    · rw [decide_eq_true z, decide_eq_true (congrArg V.int z)]
    · rw [decide_eq_false z, decide_eq_false fun q => z (V.int.inj q)]
  rw [e]
  exact k.now h (r := bV _) (.bl _) q
theorem o_eqB {i j : Bool} (q : Q (bV (decide (i = j))) O) : OpW K rEq (bV i) (bV j) O Q := fun Hk H h u v hu hv Q' k => by
  cases (show Da Hk u (.bool i) from hu)
  cases (show Da Hk v (.bool j) from hv)
  refine ⟨rfl, ?_⟩
  have e : decide (V.bl i = V.bl j) = decide (i = j) := by
    by_cases z : i = j
    · rw [decide_eq_true z, decide_eq_true (congrArg V.bl z)]
    · rw [decide_eq_false z, decide_eq_false fun q => z (V.bl.inj q)]
  rw [e]
  exact k.now h (r := bV _) (.bl _) q
theorem o_neB {i j : Bool} (q : Q (bV (!decide (i = j))) O) : OpW K rNe (bV i) (bV j) O Q := fun Hk H h u v hu hv Q' k => by
  cases (show Da Hk u (.bool i) from hu)
  cases (show Da Hk v (.bool j) from hv)
  refine ⟨rfl, ?_⟩
  have e : decide (V.bl i = V.bl j) = decide (i = j) := by
    by_cases z : i = j
    · rw [decide_eq_true z, decide_eq_true (congrArg V.bl z)]
    · rw [decide_eq_false z, decide_eq_false fun q => z (V.bl.inj q)]
  rw [e]
  exact k.now h (r := bV _) (.bl _) q
theorem o_isB {i j : Bool} (q : Q (bV (decide (i = j))) O) : OpW K rIsB (bV i) (bV j) O Q := fun Hk H h u v hu hv Q' k => by
  cases (show Da Hk u (.bool i) from hu)
  cases (show Da Hk v (.bool j) from hv)
  exact ⟨i, j, rfl, rfl, k.now h (r := bV _) (.bl _) q⟩
theorem o_notB {i j : Bool} (q : Q (bV (!decide (i = j))) O) : OpW K rNotB (bV i) (bV j) O Q := fun Hk H h u v hu hv Q' k => by
  cases (show Da Hk u (.bool i) from hu)
  cases (show Da Hk v (.bool j) from hv)
  exact ⟨i, j, rfl, rfl, k.now h (r := bV _) (.bl _) q⟩
/-- == and != of data -/
theorem o_eqD {d e : PyData} (h1 : SeqAt.shaped d = true) (h2 : SeqAt.shaped e = true) (q : Q (bV (PyData.eqv d e)) O) : OpW K (rEqD K) (.dat d) (.dat e) O Q := fun Hk H h u v hu hv Q' k =>
  ⟨d, e, (Da.mono h.kn hu).dp, (Da.mono h.kn hv).dp, h1, h2, k.now h (r := bV _) (.bl _) q⟩
theorem o_neD {d e : PyData} (h1 : SeqAt.shaped d = true) (h2 : SeqAt.shaped e = true) (q : Q (bV (!PyData.eqv d e)) O) : OpW K (rNeD K) (.dat d) (.dat e) O Q := fun Hk H h u v hu hv Q' k =>
  ⟨d, e, (Da.mono h.kn hu).dp, (Da.mono h.kn hv).dp, h1, h2, k.now h (r := bV _) (.bl _) q⟩
/-- an item of a tuple, of a list of data, of an owned list -/
theorem atI_get {α : Type} {xs : List α} {i : Int} {v : α} (h : atI xs i = some v) : ∃ j : Nat, ixN xs.length i = some j ∧ xs[j]? = some v := by
  unfold atI at h
  cases e : ixN xs.length i with
  | none => rw [e] at h; cases h
  | some j => rw [e] at h; exact ⟨j, rfl, h⟩
theorem atI_of {α : Type} {xs : List α} {i : Int} {v : α} {j : Nat} (h1 : ixN xs.length i = some j) (h2 : xs[j]? = some v) : atI xs i = some v := by
  unfold atI
  rw [h1]
  exact h2
theorem o_ixT {es : List PyData} {i : Int} {d : PyData} (ha : atI es i = some d) (q : Q (.dat d) O) : OpW K (rIxT K) (.dat (.tuple es)) (iV i) O Q := fun Hk H h u v hu hv Q' k => by
  cases (show Da Hk v (.int i) from hv)
  cases (show Da Hk u (.tuple es) from hu) with
  | tup h1 h2 =>
    obtain ⟨j, e1, e2⟩ := atI_get ha
    obtain ⟨w, g1, g2⟩ := h2.get e2
    exact ⟨_, _, i, w, rfl, rfl, .inl (.inl (h.kn _ _ h1)), atI_of (by rw [h2.length]; exact e1) g1, k.now h (r := .dat d) g2 q⟩
theorem o_ixL {es : List PyData} {i : Int} {d : PyData} (ha : atI es i = some d) (q : Q (.dat d) O) : OpW K (rIxL K) (.dat (.list es)) (iV i) O Q := fun Hk H h u v hu hv Q' k => by
  cases (show Da Hk v (.int i) from hv)
  cases (show Da Hk u (.list es) from hu) with
  | lst h1 h2 =>
    obtain ⟨j, e1, e2⟩ := atI_get ha
    obtain ⟨w, g1, g2⟩ := h2.get e2
    exact ⟨_, _, i, w, rfl, rfl, .inl (.inl (h.kn _ _ h1)), atI_of (by rw [h2.length]; exact e1) g1, k.now h (r := .dat d) g2 q⟩
theorem atI_in {α : Type} {xs : List α} {i : Int} (h0 : 0 ≤ i) (h1 : i < xs.length) : ∃ v, atI xs i = some v ∧ xs[i.toNat]? = some v ∧ v ∈ xs := by
  obtain ⟨j, rfl⟩ : ∃ j : Nat, i = (j : Int) := ⟨i.toNat, by omega⟩
  have hj : j < xs.length := by omega
  refine ⟨xs[j], atI_nat (List.getElem?_eq_getElem hj), ?_, List.getElem_mem hj⟩
  rw [Int.toNat_natCast]
  exact List.getElem?_eq_getElem hj
/-- an item at a place that is not known -/
theorem o_pickL {es : List PyData} {i : Int} (h0 : 0 ≤ i) (h1 : i < es.length) (q : ∀ d, d ∈ es → Q (.dat d) O) : OpW K (rIxL K) (.dat (.list es)) (iV i) O Q := by
  obtain ⟨d, h, _, hm⟩ := atI_in h0 h1
  exact o_ixL h (q d hm)
theorem o_pickT {es : List PyData} {i : Int} (h0 : 0 ≤ i) (h1 : i < es.length) (q : ∀ d, d ∈ es → Q (.dat d) O) : OpW K (rIxT K) (.dat (.tuple es)) (iV i) O Q := by
  obtain ⟨d, h, _, hm⟩ := atI_in h0 h1
  exact o_ixT h (q d hm)
/-- an item of ints -/
theorem o_nthL {ns : List Int} {i : Int} (h0 : 0 ≤ i) (h1 : i < ns.length) (q : Q (iV (ns.getD i.toNat 0)) O) : OpW K (rIxL K) (.dat (lI ns)) (iV i) O Q := by
  obtain ⟨d, h, e, hm⟩ := atI_in (xs := ns.map PyData.int) h0 (by rw [List.length_map]; exact h1)
  rw [List.getElem?_map] at e
  refine o_ixL h ?_
  cases z : ns[i.toNat]? with
  | none => rw [z] at e; cases e
  | some n =>
    rw [z] at e
    cases e
    rw [List.getD_eq_getElem?_getD, z] at q
    exact q
theorem o_nthT {ns : List Int} {i : Int} (h0 : 0 ≤ i) (h1 : i < ns.length) (q : Q (iV (ns.getD i.toNat 0)) O) : OpW K (rIxT K) (.dat (tI ns)) (iV i) O Q := by
  obtain ⟨d, h, e, hm⟩ := atI_in (xs := ns.map PyData.int) h0 (by rw [List.length_map]; exact h1)
  rw [List.getElem?_map] at e
  refine o_ixT h ?_
  cases z : ns[i.toNat]? with
  | none => rw [z] at e; cases e
  | some n =>
    rw [z] at e
    cases e
    rw [List.getD_eq_getElem?_getD, z] at q
    exact q
theorem o_pickI {ns : List Int} {i : Int} (h0 : 0 ≤ i) (h1 : i < ns.length) (q : ∀ v, v ∈ ns → Q (iV v) O) : OpW K (rIxL K) (.dat (lI ns)) (iV i) O Q :=
  o_pickL h0 (by rw [List.length_map]; exact h1) fun d hd => by
    obtain ⟨v, hv, rfl⟩ := List.mem_map.mp hd
    exact q v hv
theorem o_pickIT {ns : List Int} {i : Int} (h0 : 0 ≤ i) (h1 : i < ns.length) (q : ∀ v, v ∈ ns → Q (iV v) O) : OpW K (rIxT K) (.dat (tI ns)) (iV i) O Q :=
  o_pickT h0 (by rw [List.length_map]; exact h1) fun d hd => by
    obtain ⟨v, hv, rfl⟩ := List.mem_map.mp hd
    exact q v hv
theorem o_ixO {a : Addr} {rs : List SD} {i : Int} {d : SD} (hm : (a, OD.lst rs) ∈ O) (ha : atI rs i = some d) (q : Q d O) : OpW K (rIxL K) (.ad a) (iV i) O Q := fun Hk H h u v hu hv Q' k => by
  cases (show Da Hk v (.int i) from hv)
  cases (show u = .ref a from hu)
  obtain ⟨⟨vs, h1, h2⟩, _⟩ := h.ow _ hm
  obtain ⟨j, e1, e2⟩ := atI_get ha
  obtain ⟨w, g1, g2⟩ := h2.get e2
  exact ⟨a, vs, i, w, rfl, rfl, .inl (.inl h1), atI_of (by rw [h2.length]; exact e1) g1, k.now h g2 q⟩
end
end Wk
namespace Wk
open PySem PySem.Spec PyProof.Rows L2
section
variable {K : PySem.W.Frag} {Hk Hk' H H' : Hp} {O O' : Own} {ds : List SD} {σ : L2.St} {Q : SD → Own → Prop} {Q' : VK} {r : R2} {x y : SD} {A : AE} {D : Ends}
theorem w_ty {n : String} (q : Q (.ty n) O) : EvW K (tC (.ty n)) O ds Q := fun Hk σ H p Q' k => k.now p.hold (r := .ty n) rfl q
theorem w_ref {a : Addr} (q : Q (.ad a) O) : EvW K (tC (.ref a)) O ds Q := fun Hk σ H p Q' k => k.now p.hold (r := .ad a) rfl q
/-! ### built-ins by values -/
theorem all1 {H : Hp} {us : List V} {a : SD} (h : SDall K H us [a]) : ∃ u, us = [u] ∧ SDok K H u a := by
  cases h with
  | cons h r => cases r; exact ⟨_, rfl, h⟩
theorem all2 {H : Hp} {us : List V} {a b : SD} (h : SDall K H us [a, b]) : ∃ u v, us = [u, v] ∧ SDok K H u a ∧ SDok K H v b := by
  cases h with
  | cons h r => obtain ⟨v, rfl, hv⟩ := all1 r; exact ⟨_, v, rfl, h, hv⟩
theorem c_lenT {es : List PyData} (q : Q (iV es.length) O) : CbW K (fun xs H Q => ∃ p ys, xs = [.ref p] ∧ (SqL K H p ys ∨ SqT K H p ys) ∧ Q (.int ys.length) H) [.dat (.tuple es)] O Q := fun Hk H h us hus Q' k => by
  obtain ⟨u, rfl, hu⟩ := all1 hus
  cases (show Da Hk u (.tuple es) from hu) with
  | @tup a xs _ h1 h2 =>
    refine ⟨_, _, rfl, .inr (.inl (.inl (h.kn _ _ h1))), ?_⟩
    rw [h2.length]
    exact k.now h (r := iV _) (.int _) q
theorem c_lenL {es : List PyData} (q : Q (iV es.length) O) : CbW K (fun xs H Q => ∃ p ys, xs = [.ref p] ∧ (SqL K H p ys ∨ SqT K H p ys) ∧ Q (.int ys.length) H) [.dat (.list es)] O Q := fun Hk H h us hus Q' k => by
  obtain ⟨u, rfl, hu⟩ := all1 hus
  cases (show Da Hk u (.list es) from hu) with
  | @lst a xs _ h1 h2 =>
    refine ⟨_, _, rfl, .inl (.inl (.inl (h.kn _ _ h1))), ?_⟩
    rw [h2.length]
    exact k.now h (r := iV _) (.int _) q
theorem c_lenO {a : Addr} {rs : List SD} (hm : (a, OD.lst rs) ∈ O) (q : Q (iV rs.length) O) : CbW K (fun xs H Q => ∃ p ys, xs = [.ref p] ∧ (SqL K H p ys ∨ SqT K H p ys) ∧ Q (.int ys.length) H) [.ad a] O Q := fun Hk H h us hus Q' k => by
  obtain ⟨u, rfl, hu⟩ := all1 hus
  cases (show u = .ref a from hu)
  obtain ⟨⟨vs, h1, h2⟩, _⟩ := h.ow _ hm
  refine ⟨_, _, rfl, .inl (.inl (.inl h1)), ?_⟩
  rw [h2.length]
  exact k.now h (r := iV _) (.int _) q
theorem c_lenS {ns : List Int} (q : Q (iV ns.length) O) : CbW K (fun xs H Q => ∃ p ys, xs = [.ref p] ∧ (SqL K H p ys ∨ SqT K H p ys) ∧ Q (.int ys.length) H) [.scr ns] O Q := fun Hk H h us hus Q' k => by
  obtain ⟨u, rfl, hu⟩ := all1 hus
  obtain ⟨a, rfl, hs⟩ := hu
  refine ⟨_, _, rfl, .inl (h.kn.seq hs), ?_⟩
  rw [List.length_map]
  exact k.now h (r := iV _) (.int _) q
theorem c_max2 {i j : Int} (q : Q (iV (max i j)) O) : CbW K (fun xs H Q => ∃ i j, xs = [.int i, .int j] ∧ Q (.int (if j > i then j else i)) H) [iV i, iV j] O Q := fun Hk H h us hus Q' k => by
  obtain ⟨u, v, rfl, hu, hv⟩ := all2 hus
  cases (show Da Hk u (.int i) from hu)
  cases (show Da Hk v (.int j) from hv)
  refine ⟨i, j, rfl, ?_⟩
  rw [show (if j > i then j else i) = max i j by split <;> omega]
  exact k.now h (r := iV _) (.int _) q
theorem c_min2 {i j : Int} (q : Q (iV (min i j)) O) : CbW K (fun xs H Q => ∃ i j, xs = [.int i, .int j] ∧ Q (.int (if j < i then j else i)) H) [iV i, iV j] O Q := fun Hk H h us hus Q' k => by
  obtain ⟨u, v, rfl, hu, hv⟩ := all2 hus
  cases (show Da Hk u (.int i) from hu)
  cases (show Da Hk v (.int j) from hv)
  refine ⟨i, j, rfl, ?_⟩
  rw [show (if j < i then j else i) = min i j by split <;> omega]
  exact k.now h (r := iV _) (.int _) q
theorem c_int {i : Int} (q : Q (iV i) O) : CbW K (fun xs H Q => (∃ i, xs = [.int i] ∧ Q (.int i) H) ∨ ∃ k, xs = [.bl k] ∧ Q (.int (if k then 1 else 0)) H) [iV i] O Q := fun Hk H h us hus Q' k => by
  obtain ⟨u, rfl, hu⟩ := all1 hus
  cases (show Da Hk u (.int i) from hu)
  exact .inl ⟨i, rfl, k.now h (r := iV _) (.int _) q⟩
theorem c_intB {i : Bool} (q : Q (iV (if i then 1 else 0)) O) : CbW K (fun xs H Q => (∃ i, xs = [.int i] ∧ Q (.int i) H) ∨ ∃ k, xs = [.bl k] ∧ Q (.int (if k then 1 else 0)) H) [bV i] O Q := fun Hk H h us hus Q' k => by
  obtain ⟨u, rfl, hu⟩ := all1 hus
  cases (show Da Hk u (.bool i) from hu)
  exact .inr ⟨i, rfl, k.now h (r := iV _) (.int _) q⟩
theorem c_sum {ns : List Int} (q : Q (iV ns.sum) O) : CbW K (rSum K) [.dat (lI ns)] O Q := fun Hk H h us hus Q' k => by
  obtain ⟨u, rfl, hu⟩ := all1 hus
  cases (show Da Hk u (lI ns) from hu) with
  | @lst a xs _ h1 h2 =>
    rw [h2.ints] at h1
    exact ⟨_, ns, rfl, .inl (.inl (h.kn _ _ h1)), k.now h (r := iV _) (.int _) q⟩
theorem c_max {ns : List Int} (hn : 0 < ns.length) (q : ∀ m, m ∈ ns → (∀ y ∈ ns, y ≤ m) → Q (iV m) O) : CbW K (rMax K) [.dat (lI ns)] O Q := fun Hk H h us hus Q' k => by
  obtain ⟨u, rfl, hu⟩ := all1 hus
  cases (show Da Hk u (lI ns) from hu) with
  | @lst a xs _ h1 h2 =>
    rw [h2.ints] at h1
    exact ⟨_, ns, rfl, .inl (.inl (h.kn _ _ h1)), hn, fun m hm hl => k.now h (r := iV _) (.int _) (q m hm hl)⟩
/-- sorted, the list that comes is data; ordered ascending -/
theorem c_sorted {ns : List Int} (q : ∀ ms : List Int, ms.Perm ns → ms.Pairwise (· ≤ ·) → Q (.dat (lI ms)) O) : CbW K (rSortedI K) [.dat (lI ns)] O Q := fun Hk H h us hus Q' k => by
  obtain ⟨u, rfl, hu⟩ := all1 hus
  cases (show Da Hk u (lI ns) from hu) with
  | @lst a xs _ h1 h2 =>
    rw [h2.ints] at h1
    refine ⟨_, ns, rfl, .inl (.inl (h.kn _ _ h1)), fun ms p hp hs hf => ?_⟩
    have sm : Same Hk (upd Hk p (.lst (ms.map V.int))) := same_new (h.kn.free hf)
    exact k _ (.dat (lI ms)) O _ _ sm (h.know hf) (.lst upd_same (DaAll.of_ints ms)) (q ms hp hs)
/-- tuple(list), tuple(tuple), list(tuple), list(list): as data -/
theorem c_tupL {es : List PyData} (q : Q (.dat (.tuple es)) O) : CbW K (fun xs H Q => ∃ p ys, xs = [.ref p] ∧ ((SqL K H p ys ∧ ∀ l, H l = none → Q (.ref l) (upd H l (.tup ys))) ∨ (SqT K H p ys ∧ Q (.ref p) H))) [.dat (.list es)] O Q := fun Hk H h us hus Q' k => by
  obtain ⟨u, rfl, hu⟩ := all1 hus
  cases (show Da Hk u (.list es) from hu) with
  | @lst a xs _ h1 h2 =>
    refine ⟨_, _, rfl, .inl ⟨.inl (.inl (h.kn _ _ h1)), fun l hf => ?_⟩⟩
    have sm := same_new (o := .tup xs) (h.kn.free hf)
    exact k _ (.dat (.tuple es)) O _ _ sm (h.know hf) (.tup upd_same (DaAll.mono sm h2)) q
theorem c_tupT {es : List PyData} (q : Q (.dat (.tuple es)) O) : CbW K (fun xs H Q => ∃ p ys, xs = [.ref p] ∧ ((SqL K H p ys ∧ ∀ l, H l = none → Q (.ref l) (upd H l (.tup ys))) ∨ (SqT K H p ys ∧ Q (.ref p) H))) [.dat (.tuple es)] O Q := fun Hk H h us hus Q' k => by
  obtain ⟨u, rfl, hu⟩ := all1 hus
  have hu' := hu
  cases (show Da Hk u (.tuple es) from hu) with
  | @tup a xs _ h1 h2 => exact ⟨_, _, rfl, .inr ⟨.inl (.inl (h.kn _ _ h1)), k.now h (r := .dat (.tuple es)) hu' q⟩⟩
theorem c_listT {es : List PyData} (q : Q (.dat (.list es)) O) : CbW K (fun xs H Q => ∃ p ys, xs = [.ref p] ∧ (SqL K H p ys ∨ SqT K H p ys) ∧ ∀ l, H l = none → Q (.ref l) (upd H l (.lst ys))) [.dat (.tuple es)] O Q := fun Hk H h us hus Q' k => by
  obtain ⟨u, rfl, hu⟩ := all1 hus
  cases (show Da Hk u (.tuple es) from hu) with
  | @tup a xs _ h1 h2 =>
    refine ⟨_, _, rfl, .inr (.inl (.inl (h.kn _ _ h1))), fun l hf => ?_⟩
    have sm := same_new (o := .lst xs) (h.kn.free hf)
    exact k _ (.dat (.list es)) O _ _ sm (h.know hf) (.lst upd_same (DaAll.mono sm h2)) q
theorem c_listL {es : List PyData} (q : Q (.dat (.list es)) O) : CbW K (fun xs H Q => ∃ p ys, xs = [.ref p] ∧ (SqL K H p ys ∨ SqT K H p ys) ∧ ∀ l, H l = none → Q (.ref l) (upd H l (.lst ys))) [.dat (.list es)] O Q := fun Hk H h us hus Q' k => by
  obtain ⟨u, rfl, hu⟩ := all1 hus
  cases (show Da Hk u (.list es) from hu) with
  | @lst a xs _ h1 h2 =>
    refine ⟨_, _, rfl, .inl (.inl (.inl (h.kn _ _ h1))), fun l hf => ?_⟩
    have sm := same_new (o := .lst xs) (h.kn.free hf)
    exact k _ (.dat (.list es)) O _ _ sm (h.know hf) (.lst upd_same (DaAll.mono sm h2)) q
/-- .. as a list that is owned -/
theorem c_listTO {es : List PyData} (q : ∀ l, Q (.ad l) ((l, .lst (es.map .dat)) :: O)) : CbW K (fun xs H Q => ∃ p ys, xs = [.ref p] ∧ (SqL K H p ys ∨ SqT K H p ys) ∧ ∀ l, H l = none → Q (.ref l) (upd H l (.lst ys))) [.dat (.tuple es)] O Q := fun Hk H h us hus Q' k => by
  obtain ⟨u, rfl, hu⟩ := all1 hus
  cases (show Da Hk u (.tuple es) from hu) with
  | @tup a xs _ h1 h2 => exact ⟨_, _, rfl, .inr (.inl (.inl (h.kn _ _ h1))), fun l hf => k _ (.ad l) _ Hk _ (Same.refl _) (h.own hf (SDall.of_dats h2)) rfl (q l)⟩
theorem c_listLO {es : List PyData} (q : ∀ l, Q (.ad l) ((l, .lst (es.map .dat)) :: O)) : CbW K (fun xs H Q => ∃ p ys, xs = [.ref p] ∧ (SqL K H p ys ∨ SqT K H p ys) ∧ ∀ l, H l = none → Q (.ref l) (upd H l (.lst ys))) [.dat (.list es)] O Q := fun Hk H h us hus Q' k => by
  obtain ⟨u, rfl, hu⟩ := all1 hus
  cases (show Da Hk u (.list es) from hu) with
  | @lst a xs _ h1 h2 => exact ⟨_, _, rfl, .inl (.inl (.inl (h.kn _ _ h1))), fun l hf => k _ (.ad l) _ Hk _ (Same.refl _) (h.own hf (SDall.of_dats h2)) rfl (q l)⟩
/-- the type of data -/
def tyD : PyData → String
  | .none => "NoneType" | .bool _ => "bool" | .int _ => "int" | .str _ => "str" | .list _ => "list" | .tuple _ => "tuple" | .dict _ => "dict"
theorem tyX_of {v : V} {d : PyData} (h : Da H v d) : TyX K H v (.type (tyD d)) := by
  cases h with
  | non => exact .base .non
  | bl b => exact .base (.bl b)
  | int b => exact .base (.int b)
  | str b => exact .base (.str b)
  | lst h1 _ => exact .base (.lst h1)
  | tup h1 _ => exact .base (.tup h1)
theorem c_isi {d : PyData} {n : String} {b : Bool} (hb : kitB (tyD d) n = some b) (q : Q (bV b) O) : CbW K (rIsi K) [.dat d, .ty n] O Q := fun Hk H h us hus Q' k => by
  obtain ⟨u, v, rfl, hu, hv⟩ := all2 hus
  cases (show v = .ty n from hv)
  exact ⟨u, .ty n, _, _, b, rfl, .ty n, tyX_of (Da.mono h.kn hu), kit_ty hb, k.now h (r := bV _) (.bl _) q⟩
theorem c_isiO {a : Addr} {rs : List SD} {n : String} {b : Bool} (hm : (a, OD.lst rs) ∈ O) (hb : kitB "list" n = some b) (q : Q (bV b) O) : CbW K (rIsi K) [.ad a, .ty n] O Q := fun Hk H h us hus Q' k => by
  obtain ⟨u, v, rfl, hu, hv⟩ := all2 hus
  cases (show v = .ty n from hv)
  cases (show u = .ref a from hu)
  obtain ⟨⟨vs, h1, h2⟩, _⟩ := h.ow _ hm
  exact ⟨_, .ty n, _, _, b, rfl, .ty n, .base (.lst h1), kit_ty hb, k.now h (r := bV _) (.bl _) q⟩
/-! ### reversal, slices, sums of sequences -/
theorem w_rev {te : TE} (h : EvW K te O ds fun r O1 => ∃ es : List PyData, r = .dat (.list es) ∧ Q (.dat (.list es.reverse)) O1) : EvW K (tRevL K te) O ds Q := fun Hk σ H p Q' k =>
  h Hk σ H p _ fun v r O1 Hk1 H1 e1 h1 s1 q1 => by
    obtain ⟨es, rfl, q⟩ := q1
    cases (show Da Hk1 v (.list es) from s1) with
    | @lst a xs _ g1 g2 =>
      refine ⟨_, _, rfl, .inl (.inl (h1.kn _ _ g1)), fun l hf => ?_⟩
      have sm := same_new (o := .lst xs.reverse) (h1.kn.free hf)
      exact k _ (.dat (.list es.reverse)) O1 _ _ (e1.trans sm) (h1.know hf) (.lst upd_same (DaAll.mono sm g2.reverse)) q
def cut {α : Type} (xs : List α) (lo hi : Option Int) : List α := (xs.drop (HT.sIx xs.length 0 lo)).take (HT.sIx xs.length xs.length hi - HT.sIx xs.length 0 lo)
theorem DaAll.cut {vs : List V} {es : List PyData} (h : DaAll H vs es) (lo hi : Option Int) : DaAll H (cutV vs lo hi) (cut es lo hi) := by
  unfold cutV Wk.cut
  rw [h.length]
  exact (h.drop _).take _
theorem w_sl {r : V → Option Int → Option Int → Hp → VK → Prop} {te : TE} {tl th : TO} (h : EvW K te O ds fun x O1 => IvW K tl O1 ds fun lo O2 => IvW K th O2 ds fun hi O3 => SlW K r x lo hi O3 Q) : EvW K (tSl r te tl th) O ds Q := fun Hk σ H p Q' k =>
  h Hk σ H p _ fun v x O1 Hk1 H1 e1 h1 s1 q1 => q1 Hk1 σ H1 (p.ext e1 h1) _ fun lo O2 Hk2 H2 e2 h2 q2 => q2 Hk2 σ H2 ((p.ext e1 h1).ext e2 h2) _ fun hi O3 Hk3 H3 e3 h3 q3 =>
    q3 Hk3 H3 h3 v (s1.mono (e2.trans e3)) Q' (k.ext (e1.trans (e2.trans e3)))
theorem i_none {Q : Option Int → Own → Prop} (q : Q none O) : IvW K tNoPart O ds Q := fun Hk σ H p Q' k => k none O Hk H (Same.refl _) p.hold q
theorem i_some {te : TE} {Q : Option Int → Own → Prop} (h : EvW K te O ds fun r O1 => ∃ i, r = iV i ∧ Q (some i) O1) : IvW K (tPart te) O ds Q := fun Hk σ H p Q' k =>
  h Hk σ H p _ fun v r O1 Hk1 H1 e1 h1 s1 q1 => by
    obtain ⟨i, rfl, q⟩ := q1
    cases (show Da Hk1 v (.int i) from s1)
    exact ⟨i, rfl, k (some i) O1 Hk1 H1 e1 h1 q⟩
theorem sl_L {es : List PyData} {lo hi : Option Int} (q : Q (.dat (.list (cut es lo hi))) O) : SlW K (rSlL K) (.dat (.list es)) lo hi O Q := fun Hk H h u hu Q' k => by
  cases (show Da Hk u (.list es) from hu) with
  | @lst a xs _ h1 h2 =>
    refine ⟨_, _, rfl, .inl (.inl (h.kn _ _ h1)), fun l hf => ?_⟩
    have sm := same_new (o := .lst (cutV xs lo hi)) (h.kn.free hf)
    exact k _ (.dat (.list (cut es lo hi))) O _ _ sm (h.know hf) (.lst upd_same (DaAll.mono sm (h2.cut lo hi))) q
theorem cut_whole {α : Type} {xs : List α} {lo hi : Option Int} (h : HT.sIx xs.length 0 lo = 0 ∧ HT.sIx xs.length xs.length hi = xs.length) : cut xs lo hi = xs := by
  unfold cut
  rw [h.1, h.2]
  simp
theorem sl_T {es : List PyData} {lo hi : Option Int} (q : Q (.dat (.tuple (cut es lo hi))) O) : SlW K (rSlA K) (.dat (.tuple es)) lo hi O Q := fun Hk H h u hu Q' k => by
  have hu' := hu
  cases (show Da Hk u (.tuple es) from hu) with
  | @tup a xs _ h1 h2 =>
    refine ⟨_, _, rfl, .inl (.inl (h.kn _ _ h1)), fun hw => ?_, fun hw l hf => ?_⟩
    · rw [h2.length] at hw
      rw [cut_whole hw] at q
      exact k.now h (r := .dat (.tuple es)) hu' q
    · have sm := same_new (o := .tup (cutV xs lo hi)) (h.kn.free hf)
      exact k _ (.dat (.tuple (cut es lo hi))) O _ _ sm (h.know hf) (.tup upd_same (DaAll.mono sm (h2.cut lo hi))) q
theorem o_catT {es fs : List PyData} (hz : es.length + fs.length ≤ sizeLine) (q : Q (.dat (.tuple (es ++ fs))) O) : OpW K (rCatA K) (.dat (.tuple es)) (.dat (.tuple fs)) O Q := fun Hk H h u v hu hv Q' k => by
  have hu' := hu
  have hv' := hv
  cases (show Da Hk u (.tuple es) from hu) with
  | @tup a xs _ h1 h2 =>
    cases (show Da Hk v (.tuple fs) from hv) with
    | @tup b ys _ g1 g2 =>
      refine ⟨a, b, xs, ys, rfl, rfl, .inl (.inl (h.kn _ _ h1)), .inl (.inl (h.kn _ _ g1)), by rw [h2.length, g2.length]; exact hz, fun e => ?_, fun _ e => ?_, fun _ _ l hf => ?_⟩
      · subst e
        have e2 : es = [] := by cases h2; rfl
        subst e2
        exact k.now h (r := .dat (.tuple _)) hv' q
      · subst e
        have e2 : fs = [] := by cases g2; rfl
        subst e2
        rw [List.append_nil] at q
        exact k.now h (r := .dat (.tuple _)) hu' q
      · have sm := same_new (o := .tup (xs ++ ys)) (h.kn.free hf)
        exact k _ (.dat (.tuple (es ++ fs))) O _ _ sm (h.know hf) (.tup upd_same (DaAll.mono sm (h2.append g2))) q
theorem o_catL {es fs : List PyData} (hz : es.length + fs.length ≤ sizeLine) (q : Q (.dat (.list (es ++ fs))) O) : OpW K rCat (.dat (.list es)) (.dat (.list fs)) O Q := fun Hk H h u v hu hv Q' k => by
  cases (show Da Hk u (.list es) from hu) with
  | @lst a xs _ h1 h2 =>
    cases (show Da Hk v (.list fs) from hv) with
    | @lst b ys _ g1 g2 =>
      refine ⟨a, b, xs, ys, rfl, rfl, h.kn _ _ h1, h.kn _ _ g1, by rw [h2.length, g2.length]; exact hz, fun l hf => ?_⟩
      have sm := same_new (o := .lst (xs ++ ys)) (h.kn.free hf)
      exact k _ (.dat (.list (es ++ fs))) O _ _ sm (h.know hf) (.lst upd_same (DaAll.mono sm (h2.append g2))) q
theorem DaAll.rep {vs : List V} {es : List PyData} (h : DaAll H vs es) : ∀ n : Nat, DaAll H (List.replicate n vs).flatten (List.replicate n es).flatten
  | 0 => .nil
  | n + 1 => by
    rw [List.replicate_succ, List.replicate_succ, List.flatten_cons, List.flatten_cons]
    exact h.append (DaAll.rep h n)
/-! ### methods: append -/
def TyW (K : PySem.W.Frag) (T : String) (x : SD) (O : Own) : Prop := ∀ Hk H, Hold K Hk O H → ∀ u, SDok K Hk u x → tyV K T u H
theorem w_bm {T : String} {r : V → List V → Hp → VK → Prop} {to : TE} {ta : TA} (h : EvW K to O ds fun x O1 => TyW K T x O1 ∧ AvW K ta O1 ds fun rs O2 => MbW K r x rs O2 Q) : EvW K (tBM K T r to ta) O ds Q := fun Hk σ H p Q' k =>
  h Hk σ H p _ fun v x O1 Hk1 H1 e1 h1 s1 q1 => ⟨q1.1 Hk1 H1 h1 v s1, q1.2 Hk1 σ H1 (p.ext e1 h1) _ fun vs rs O2 Hk2 H2 e2 h2 s2 q2 => q2 Hk2 H2 h2 v vs (s1.mono e2) s2 Q' (k.ext (e1.trans e2))⟩
theorem ty_own {a : Addr} {rs : List SD} (hm : (a, OD.lst rs) ∈ O) : TyW K "list" (.ad a) O := fun Hk H h u hu => by
  cases (show u = .ref a from hu)
  obtain ⟨⟨vs, h1, h2⟩, _⟩ := h.ow _ hm
  exact .inl ⟨rfl, vs, .inl (.inl h1)⟩
theorem m_app {a : Addr} {rs : List SD} {x : SD} {Oa : Own} (hp : O.Perm ((a, OD.lst rs) :: Oa)) (hz : rs.length < sizeLine) (q : Q (.dat .none) ((a, .lst (rs ++ [x])) :: Oa)) : MbW K rAppend (.ad a) [x] O Q := fun Hk H h u us hu hus Q' k => by
  cases (show u = .ref a from hu)
  obtain ⟨v, rfl, hv⟩ := all1 hus
  have h' := h.perm hp
  obtain ⟨⟨vs, h1, h2⟩, _⟩ := h'.ow _ List.mem_cons_self
  refine ⟨a, vs, v, rfl, rfl, h1, by rw [h2.length]; exact hz, ?_⟩
  exact k _ (.dat .none) _ Hk _ (Same.refl _) (h'.write (h2.append (.cons hv .nil))) .non q
theorem m_app0 {a : Addr} {rs : List SD} {x : SD} {Oa : Own} (hz : rs.length ≤ 100000) (q : Q (.dat .none) ((a, .lst (rs ++ [x])) :: Oa)) : MbW K rAppend (.ad a) [x] ((a, OD.lst rs) :: Oa) Q := m_app (.refl _) (Nat.lt_of_le_of_lt hz (by decide)) q
theorem mb_perm {r : V → List V → Hp → VK → Prop} {xs : List SD} (h : MbW K r x xs O fun r O1 => ∃ O2, O1.Perm O2 ∧ Q r O2) : MbW K r x xs O Q := fun Hk H hh u us hu hus Q' k =>
  h Hk H hh u us hu hus Q' fun v r O2 Hk2 H2 e h2 s q => by
    obtain ⟨O3, hp, q⟩ := q
    exact k v r O3 Hk2 H2 e (h2.perm hp) s q
theorem m_app1 {a : Addr} {rs : List SD} {x : SD} {b : Addr × OD} {Oa : Own} (hz : rs.length ≤ 100000) (q : Q (.dat .none) (b :: (a, .lst (rs ++ [x])) :: Oa)) : MbW K rAppend (.ad a) [x] (b :: (a, OD.lst rs) :: Oa) Q :=
  mb_perm (m_app (.swap ..) (Nat.lt_of_le_of_lt hz (by decide)) ⟨_, .swap .., q⟩)
theorem m_app2 {a : Addr} {rs : List SD} {x : SD} {b c : Addr × OD} {Oa : Own} (hz : rs.length ≤ 100000) (q : Q (.dat .none) (b :: c :: (a, .lst (rs ++ [x])) :: Oa)) : MbW K rAppend (.ad a) [x] (b :: c :: (a, OD.lst rs) :: Oa) Q :=
  mb_perm (m_app ((List.Perm.swap (a, OD.lst rs) c Oa).cons b |>.trans (.swap ..)) (Nat.lt_of_le_of_lt hz (by decide)) ⟨_, (List.Perm.swap b (a, OD.lst (rs ++ [x])) (c :: Oa)).trans ((List.Perm.swap c (a, OD.lst (rs ++ [x])) Oa).cons b), q⟩)
end
end Wk
namespace Wk
open PySem PySem.Spec PyProof.Rows L2
section
variable {K : PySem.W.Frag} {Hk Hk' H H' : Hp} {O O' : Own} {ds : List SD} {σ : L2.St} {Q : SD → Own → Prop} {Q' : VK} {r : R2} {x y : SD} {A : AE} {D : Ends} {t u : TS} {te : TE} {tc : TT}
/-! ### statements -/
theorem s_next (h : A.nx O ds) : StW K tNext O ds A := fun Hk σ H D p l => l.nx O ds Hk σ H (Same.refl _) p h
theorem s_cont (h : A.ct O ds) : StW K tCont O ds A := fun Hk σ H D p l => l.ct O ds Hk σ H (Same.refl _) p h
theorem s_break (h : A.bk O ds) : StW K tBreak O ds A := fun Hk σ H D p l => l.bk O ds Hk σ H (Same.refl _) p h
theorem s_seq (h : StW K t O ds ⟨fun O1 ds1 => StW K u O1 ds1 A, A.rt, A.bk, A.ct, A.xt⟩) : StW K (tSeq t u) O ds A := fun Hk σ H D p l =>
  h Hk σ H _ p ⟨fun O2 ds2 Hk2 σ2 H2 e p2 q => q Hk2 σ2 H2 D p2 (l.ext e), l.rt, l.bk, l.ct, l.xt⟩
theorem s_asg {i : Nat} (h : EvW K te O ds fun r O1 => A.nx O1 (ds.set i r)) : StW K (tAsg te (gName i)) O ds A := fun Hk σ H D p l =>
  h Hk σ H p _ fun v r O1 Hk1 H1 e1 h1 s1 q1 => l.nx O1 _ Hk1 _ H1 e1 ((p.ext e1 h1).set s1) q1
theorem s_ret (h : EvW K te O ds A.rt) : StW K (tRet te) O ds A := fun Hk σ H D p l => h Hk σ H p _ l.rt
theorem s_retN (h : A.rt (.dat .none) O) : StW K tRetN O ds A := fun Hk σ H D p l => l.rt.now p.hold (r := .dat .none) .non h
theorem s_drop (h : EvW K te O ds fun _ O1 => A.nx O1 ds) : StW K (tDrop te) O ds A := fun Hk σ H D p l =>
  h Hk σ H p _ fun v r O1 Hk1 H1 e1 h1 s1 q1 => l.nx O1 ds Hk1 σ H1 e1 (p.ext e1 h1) q1
theorem s_if (h : TvW K tc O ds fun b O1 => (b = true → StW K t O1 ds A) ∧ (b = false → StW K u O1 ds A)) : StW K (tIfS tc t u) O ds A := fun Hk σ H D p l =>
  h Hk σ H p _ fun b O1 Hk1 H1 e1 h1 q1 => by
    cases b with
    | true => exact iteT (q1.1 rfl Hk1 σ H1 D (p.ext e1 h1) (l.ext e1))
    | false => exact iteF (q1.2 rfl Hk1 σ H1 D (p.ext e1 h1) (l.ext e1))
abbrev Own.P (O O' : Own) : Prop := O.Perm O'
/-- xs[i] = e, the list owned -/
theorem s_setL {to ti : TE} (h : EvW K te O ds fun r O1 => EvW K to O1 ds fun ro O2 => EvW K ti O2 ds fun ri O3 =>
    ∃ a k rs j Oa O4, ro = .ad a ∧ ri = iV k ∧ O3.Perm ((a, .lst rs) :: Oa) ∧ ixN rs.length k = some j ∧ Own.P ((a, .lst (rs.set j r)) :: Oa) O4 ∧ A.nx O4 ds) : StW K (tAsg te (gSub to ti rSetL)) O ds A := fun Hk σ H D p l =>
  h Hk σ H p _ fun v r O1 Hk1 H1 e1 h1 s1 q1 => q1 Hk1 σ H1 (p.ext e1 h1) _ fun vo ro O2 Hk2 H2 e2 h2 s2 q2 => q2 Hk2 σ H2 ((p.ext e1 h1).ext e2 h2) _ fun vi ri O3 Hk3 H3 e3 h3 s3 q3 => by
    obtain ⟨a, k, rs, j, Oa, O4, rfl, rfl, hp, hj, hp2, q⟩ := q3
    cases (show vo = .ref a from s2)
    cases (show Da Hk3 vi (.int k) from s3)
    have h' := h3.perm hp
    obtain ⟨⟨vs, g1, g2⟩, _⟩ := h'.ow _ List.mem_cons_self
    refine ⟨a, vs, k, j, rfl, rfl, g1, by rw [g2.length]; exact hj, ?_⟩
    exact l.nx _ ds Hk3 σ _ (e1.trans (e2.trans e3)) (p.ext (e1.trans (e2.trans e3)) ((h'.write (g2.set (s1.mono (e2.trans e3)) j)).perm hp2)) q
/-! ### what follows may be proved from a weaker word -/
theorem s_cut {t u : TS} (I : Own → List SD → Prop) (h : StW K t O ds ⟨I, A.rt, A.bk, A.ct, A.xt⟩) (k : ∀ O1 ds1, I O1 ds1 → StW K u O1 ds1 A) : StW K (tSeq t u) O ds A := s_seq fun Hk σ H D p l =>
  h Hk σ H D p ⟨fun O2 ds2 Hk2 σ2 H2 e p2 q => l.nx O2 ds2 Hk2 σ2 H2 e p2 (k O2 ds2 q), l.rt, l.bk, l.ct, l.xt⟩
theorem s_mono {t : TS} {A B : AE} (h : StW K t O ds B) (nx : ∀ O ds, B.nx O ds → A.nx O ds) (rt : ∀ r O, B.rt r O → A.rt r O) (bk : ∀ O ds, B.bk O ds → A.bk O ds) (ct : ∀ O ds, B.ct O ds → A.ct O ds) (xt : ∀ Hk, A.xt Hk → B.xt Hk := by first | exact fun _ h => h | exact fun _ _ => True.intro) : StW K t O ds A := fun Hk σ H D p l =>
  h Hk σ H D p ⟨fun O2 ds2 Hk2 σ2 H2 e p2 q => l.nx O2 ds2 Hk2 σ2 H2 e p2 (nx _ _ q), fun v r O2 Hk2 H2 e h s q => l.rt v r O2 Hk2 H2 e h s (rt _ _ q), fun O2 ds2 Hk2 σ2 H2 e p2 q => l.bk O2 ds2 Hk2 σ2 H2 e p2 (bk _ _ q), fun O2 ds2 Hk2 σ2 H2 e p2 q => l.ct O2 ds2 Hk2 σ2 H2 e p2 (ct _ _ q), fun Hk' e' => xt _ (l.xt Hk' e')⟩
/-! ### for -/
/-- what a turn of a loop may end in -/
structure Bdy (I : Nat → Own → List SD → Prop) (i : Nat) (A B : AE) : Prop where
  nx : ∀ O ds, I (i + 1) O ds → B.nx O ds
  ct : ∀ O ds, I (i + 1) O ds → B.ct O ds
  rt : ∀ r O, A.rt r O → B.rt r O
  bk : ∀ O ds, A.nx O ds → B.bk O ds
  xt : ∀ Hk, B.xt Hk → A.xt Hk
theorem Bdy.mk' {I : Nat → Own → List SD → Prop} {i : Nat} {A : AE} : Bdy I i A ⟨I (i + 1), A.rt, A.nx, I (i + 1), A.xt⟩ := ⟨fun _ _ h => h, fun _ _ h => h, fun _ _ h => h, fun _ _ h => h, fun _ h => h⟩
theorem for_rg {lo : Int} {n : Nat} {j : Nat} {tb : TS} {H0 : Hp} (I : Nat → Own → List SD → Prop) (p : Pt K Hk O ds σ H) (l : Lnk K Hk A D) (h0 : I 0 O ds)
    (hs : ∀ (i : Nat) O2 ds2, i < n → I i O2 ds2 → StW K tb O2 (ds2.set j (iV (lo + i))) ⟨I (i + 1), A.rt, A.nx, I (i + 1), A.xt⟩) (hd : ∀ O2 ds2, I n O2 ds2 → A.nx O2 ds2) :
    ∃ W : Nat → Nat → L2.St → Hp → Prop, (∃ m, W 0 m σ H) ∧ ∀ i m σ H, W i m σ H →
      ((Itr lo n).stop i H ∧ D.nx σ H) ∨ ((Itr lo n).go i H ∧ ∃ N : L2.St → Hp → Prop, (∀ σ' H', N σ' H' → ∃ m', m' < m ∧ W (i + 1) m' σ' H') ∧ ∀ x H', (Itr lo n).yld i H x H' → gName j x σ H' fun σ2 H2 => tb { D with nx := N, ct := N, bk := D.nx } σ2 H2) :=
  for_range (fun i σ H => ∃ O2 ds2 Hk2, Same Hk Hk2 ∧ Pt K Hk2 O2 ds2 σ H ∧ I i O2 ds2) ⟨O, ds, Hk, Same.refl _, p, h0⟩
    (fun i σ' H' hi ⟨O2, ds2, Hk2, e, p2, q⟩ => hs i O2 ds2 hi q Hk2 _ H' _ (p2.set (r := iV (lo + i)) (.int _))
      ⟨fun O3 ds3 Hk3 σ3 H3 e3 p3 q3 => ⟨O3, ds3, Hk3, e.trans e3, p3, q3⟩, l.rt.ext e, l.nx.ext e, fun O3 ds3 Hk3 σ3 H3 e3 p3 q3 => ⟨O3, ds3, Hk3, e.trans e3, p3, q3⟩, l.xt.ext e⟩)
    (fun σ' H' ⟨O2, ds2, Hk2, e, p2, q⟩ => l.nx O2 ds2 Hk2 σ' H' e p2 (hd O2 ds2 q))
theorem s_for1 {ta : TA} {j : Nat} {tb : TS} (h : AvW K ta O ds fun rs O1 => ∃ n : Int, rs = [iV n] ∧ n < 2 ^ 62 ∧ -(2 ^ 62) ≤ n ∧ ∃ I : Nat → Own → List SD → Prop, I 0 O1 ds ∧
    (∀ (i : Nat) O2 ds2, (i : Int) < n → I i O2 ds2 → ∀ B : AE, Bdy I i A B → StW K tb O2 (ds2.set j (iV (i : Int))) B) ∧ ∀ O2 ds2, I n.toNat O2 ds2 → A.nx O2 ds2) : StW K (tFor (iRng1 ta) (gName j) tb) O ds A := fun Hk σ H D p l =>
  h Hk σ H p _ fun vs rs O1 Hk1 H1 e1 h1 s1 q1 => by
    obtain ⟨n, rfl, hn, hn2, I, h0, hs, hd⟩ := q1
    obtain ⟨v, rfl, hv⟩ := all1 s1
    cases (show Da Hk1 v (.int n) from hv)
    refine ⟨n, rfl, hn2, hn, for_rg (H0 := H) (A := A) I (p.ext e1 h1) (l.ext e1) h0 (fun i O2 ds2 hi q => ?_) hd⟩
    rw [Int.zero_add]
    exact hs i O2 ds2 (by omega) q _ .mk'
theorem s_for2 {ta : TA} {j : Nat} {tb : TS} (h : AvW K ta O ds fun rs O1 => ∃ lo n : Int, rs = [iV lo, iV n] ∧ (-(2 ^ 62) ≤ lo ∧ lo < 2 ^ 62 ∧ -(2 ^ 62) ≤ n ∧ n < 2 ^ 62) ∧ ∃ I : Nat → Own → List SD → Prop, I 0 O1 ds ∧
    (∀ (i : Nat) O2 ds2, lo + (i : Int) < n → I i O2 ds2 → ∀ B : AE, Bdy I i A B → StW K tb O2 (ds2.set j (iV (lo + (i : Int)))) B) ∧ ∀ O2 ds2, I (n - lo).toNat O2 ds2 → A.nx O2 ds2) : StW K (tFor (iRng2 ta) (gName j) tb) O ds A := fun Hk σ H D p l =>
  h Hk σ H p _ fun vs rs O1 Hk1 H1 e1 h1 s1 q1 => by
    obtain ⟨lo, n, rfl, hn, I, h0, hs, hd⟩ := q1
    obtain ⟨v, v2, rfl, hv, hv2⟩ := all2 s1
    cases (show Da Hk1 v (.int lo) from hv)
    cases (show Da Hk1 v2 (.int n) from hv2)
    exact ⟨lo, n, rfl, hn, for_rg (H0 := H) (A := A) I (p.ext e1 h1) (l.ext e1) h0 (fun i O2 ds2 hi q => hs i O2 ds2 (by omega) q _ .mk') hd⟩
/-- over data: a list -/
theorem s_forL {tl : TE} {j : Nat} {tb : TS} (h : EvW K tl O ds fun r O1 => ∃ es : List PyData, r = .dat (.list es) ∧ ∃ I : Nat → Own → List SD → Prop, I 0 O1 ds ∧
    (∀ (i : Nat) d O2 ds2, es[i]? = some d → I i O2 ds2 → ∀ B : AE, Bdy I i A B → StW K tb O2 (ds2.set j (.dat d)) B) ∧ ∀ O2 ds2, I es.length O2 ds2 → A.nx O2 ds2) : StW K (tFor (iList K tl) (gName j) tb) O ds A := fun Hk σ H D p l =>
  h Hk σ H p _ fun v r O1 Hk1 H1 e1 h1 s1 q1 => by
    obtain ⟨es, rfl, I, h0, hs, hd⟩ := q1
    cases (show Da Hk1 v (.list es) from s1) with
    | @lst a xs _ g1 g2 =>
      refine ⟨a, rfl, ⟨xs, .inl (.inl (h1.kn _ _ g1))⟩, for_list (xs := xs) (fun i σ H => ∃ O2 ds2 Hk2, Same Hk1 Hk2 ∧ Pt K Hk2 O2 ds2 σ H ∧ I i O2 ds2) ⟨O1, ds, Hk1, Same.refl _, p.ext e1 h1, h0⟩
        (fun i σ' H' hi ⟨O2, ds2, Hk2, e, p2, q⟩ => .inl (.inl (p2.hold.kn _ _ (e _ _ g1)))) (fun i x σ' H' hi ⟨O2, ds2, Hk2, e, p2, q⟩ => ?_) (fun σ' H' ⟨O2, ds2, Hk2, e, p2, q⟩ => ?_)⟩
      · obtain ⟨d, hd1, hd2⟩ := g2.getV hi
        exact hs i d O2 ds2 hd1 q _ .mk' Hk2 _ H' _ (p2.set (r := .dat d) (Da.mono e hd2)) ⟨fun O3 ds3 Hk3 σ3 H3 e3 p3 q3 => ⟨O3, ds3, Hk3, e.trans e3, p3, q3⟩, l.rt.ext (e1.trans e), l.nx.ext (e1.trans e), fun O3 ds3 Hk3 σ3 H3 e3 p3 q3 => ⟨O3, ds3, Hk3, e.trans e3, p3, q3⟩, l.xt.ext (e1.trans e)⟩
      · rw [g2.length] at q
        exact l.nx O2 ds2 Hk2 σ' H' (e1.trans e) p2 (hd O2 ds2 q)
theorem s_forT {tl : TE} {j : Nat} {tb : TS} (h : EvW K tl O ds fun r O1 => ∃ es : List PyData, r = .dat (.tuple es) ∧ ∃ I : Nat → Own → List SD → Prop, I 0 O1 ds ∧
    (∀ (i : Nat) d O2 ds2, es[i]? = some d → I i O2 ds2 → ∀ B : AE, Bdy I i A B → StW K tb O2 (ds2.set j (.dat d)) B) ∧ ∀ O2 ds2, I es.length O2 ds2 → A.nx O2 ds2) : StW K (tFor (iTup K tl) (gName j) tb) O ds A := fun Hk σ H D p l =>
  h Hk σ H p _ fun v r O1 Hk1 H1 e1 h1 s1 q1 => by
    obtain ⟨es, rfl, I, h0, hs, hd⟩ := q1
    cases (show Da Hk1 v (.tuple es) from s1) with
    | @tup a xs _ g1 g2 =>
      refine ⟨a, rfl, ⟨xs, .inl (.inl (h1.kn _ _ g1))⟩, for_tup (xs := xs) (fun i σ H => ∃ O2 ds2 Hk2, Same Hk1 Hk2 ∧ Pt K Hk2 O2 ds2 σ H ∧ I i O2 ds2) ⟨O1, ds, Hk1, Same.refl _, p.ext e1 h1, h0⟩
        (fun i σ' H' hi ⟨O2, ds2, Hk2, e, p2, q⟩ => .inl (.inl (p2.hold.kn _ _ (e _ _ g1)))) (fun i x σ' H' hi ⟨O2, ds2, Hk2, e, p2, q⟩ => ?_) (fun σ' H' ⟨O2, ds2, Hk2, e, p2, q⟩ => ?_)⟩
      · obtain ⟨d, hd1, hd2⟩ := g2.getV hi
        exact hs i d O2 ds2 hd1 q _ .mk' Hk2 _ H' _ (p2.set (r := .dat d) (Da.mono e hd2)) ⟨fun O3 ds3 Hk3 σ3 H3 e3 p3 q3 => ⟨O3, ds3, Hk3, e.trans e3, p3, q3⟩, l.rt.ext (e1.trans e), l.nx.ext (e1.trans e), fun O3 ds3 Hk3 σ3 H3 e3 p3 q3 => ⟨O3, ds3, Hk3, e.trans e3, p3, q3⟩, l.xt.ext (e1.trans e)⟩
      · rw [g2.length] at q
        exact l.nx O2 ds2 Hk2 σ' H' (e1.trans e) p2 (hd O2 ds2 q)
/-- over the script -/
theorem s_forS {tl : TE} {j : Nat} {tb : TS} (h : EvW K tl O ds fun r O1 => ∃ ns : List Int, r = .scr ns ∧ ∃ I : Nat → Own → List SD → Prop, I 0 O1 ds ∧
    (∀ (i : Nat) d O2 ds2, ns[i]? = some d → I i O2 ds2 → ∀ B : AE, Bdy I i A B → StW K tb O2 (ds2.set j (iV d)) B) ∧ ∀ O2 ds2, I ns.length O2 ds2 → A.nx O2 ds2) : StW K (tFor (iList K tl) (gName j) tb) O ds A := fun Hk σ H D p l =>
  h Hk σ H p _ fun v r O1 Hk1 H1 e1 h1 s1 q1 => by
    obtain ⟨ns, rfl, I, h0, hs, hd⟩ := q1
    obtain ⟨a, rfl, g1⟩ := s1
    refine ⟨a, rfl, ⟨ns.map V.int, h1.kn.seq g1⟩, for_list (xs := ns.map V.int) (fun i σ H => ∃ O2 ds2 Hk2, Same Hk1 Hk2 ∧ Pt K Hk2 O2 ds2 σ H ∧ I i O2 ds2) ⟨O1, ds, Hk1, Same.refl _, p.ext e1 h1, h0⟩
      (fun i σ' H' hi ⟨O2, ds2, Hk2, e, p2, q⟩ => p2.hold.kn.seq (e.seq g1)) (fun i x σ' H' hi ⟨O2, ds2, Hk2, e, p2, q⟩ => ?_) (fun σ' H' ⟨O2, ds2, Hk2, e, p2, q⟩ => ?_)⟩
    · rw [List.getElem?_map] at hi
      cases hn : ns[i]? with
      | none => rw [hn] at hi; cases hi
      | some d =>
        rw [hn] at hi
        cases hi
        exact hs i d O2 ds2 hn q _ .mk' Hk2 _ H' _ (p2.set (r := iV d) (.int d)) ⟨fun O3 ds3 Hk3 σ3 H3 e3 p3 q3 => ⟨O3, ds3, Hk3, e.trans e3, p3, q3⟩, l.rt.ext (e1.trans e), l.nx.ext (e1.trans e), fun O3 ds3 Hk3 σ3 H3 e3 p3 q3 => ⟨O3, ds3, Hk3, e.trans e3, p3, q3⟩, l.xt.ext (e1.trans e)⟩
    · rw [List.length_map] at q
      exact l.nx O2 ds2 Hk2 σ' H' (e1.trans e) p2 (hd O2 ds2 q)
/-! ### comprehensions: one variable, slot j -/
theorem wipe_wipe {σ : L2.St} {j : Nat} (v : V) : wipe ((wipe σ [j]).set j (some v)) [j] = wipe σ [j] := by
  show ((σ.set j none).set j (some v)).set j none = σ.set j none
  rw [List.set_set, List.set_set]
theorem wipe_set {σ : L2.St} {j : Nat} (v : V) : (wipe σ [j]).set j (some v) = σ.set j (some v) := by
  show (σ.set j none).set j (some v) = σ.set j (some v)
  rw [List.set_set]
/-- one turn: the new list at Dl is the first of what is owned -/
def LcTurn (K : PySem.W.Frag) (tt : TT) (te : TE) (O2 : Own) (ds : List SD) (acc : List SD) (I' : List SD → Own → Prop) : Prop :=
  ∀ Dl : Addr, TvW K tt ((Dl, OD.lst acc) :: O2) ds fun b O3 => (b = true → EvW K te O3 ds fun r O4 => ∃ O5, O4.Perm ((Dl, OD.lst acc) :: O5) ∧ I' (acc ++ [r]) O5) ∧ (b = false → ∃ O5, O3.Perm ((Dl, OD.lst acc) :: O5) ∧ I' acc O5)
/-- .. the second -/
def LcTurn1 (K : PySem.W.Frag) (tt : TT) (te : TE) (a : Addr × OD) (O2 : Own) (ds : List SD) (acc : List SD) (I' : List SD → Own → Prop) : Prop :=
  ∀ Dl : Addr, TvW K tt (a :: (Dl, OD.lst acc) :: O2) ds fun b O3 => (b = true → EvW K te O3 ds fun r O4 => ∃ a' O5, O4 = a' :: (Dl, OD.lst acc) :: O5 ∧ I' (acc ++ [r]) (a' :: O5)) ∧ (b = false → ∃ a' O5, O3 = a' :: (Dl, OD.lst acc) :: O5 ∧ I' acc (a' :: O5))
theorem LcTurn1.to {tt : TT} {te : TE} {a : Addr × OD} {O2 : Own} {ds acc : List SD} {I' : List SD → Own → Prop} (h : LcTurn1 K tt te a O2 ds acc I') : LcTurn K tt te (a :: O2) ds acc I' := fun Dl Hk σ H p Q' k =>
  h Dl Hk σ H ⟨p.hold.perm (.swap ..), p.len, p.env⟩ Q' fun b O3 Hk3 H3 e3 h3 q3 => k b O3 Hk3 H3 e3 h3 ⟨fun hb => w_mono (q3.1 hb) fun r O4 ⟨a', O5, e4, q4⟩ => ⟨a' :: O5, by rw [e4]; exact .swap .., q4⟩, fun hb => by
    obtain ⟨a', O5, e4, q4⟩ := q3.2 hb
    exact ⟨a' :: O5, by rw [e4]; exact .swap .., q4⟩⟩
theorem lc_turn {tt : TT} {te : TE} {O2 : Own} {acc : List SD} {I' : List SD → Own → Prop} {Dl : Addr} {j : Nat} {v : V} {d : SD} {P' : Hp → Prop} (h : LcTurn K tt te O2 (ds.set j d) acc I') (hl : acc.length < sizeLine)
    (p : Pt K Hk O' ds σ H') (hh : Hold K Hk ((Dl, OD.lst acc) :: O2) H) (hv : SDok K Hk v d) (k : ∀ acc2 O3 Hk2 H2, Same Hk Hk2 → Hold K Hk2 ((Dl, OD.lst acc2) :: O3) H2 → I' acc2 O3 → P' H2) :
    gName j v (wipe σ [j]) H fun σ2 H2 => wipe σ2 [j] = wipe σ [j] ∧ tt σ2 H2 fun b H3 =>
      if b = true then te σ2 H3 fun y H4 => ∃ acc, H4 Dl = some (.lst acc) ∧ acc.length < sizeLine ∧ P' (upd H4 Dl (.lst (acc ++ [y]))) else P' H3 := by
  refine ⟨wipe_wipe v, ?_⟩
  rw [wipe_set]
  have p1 : Pt K Hk ((Dl, OD.lst acc) :: O2) (ds.set j d) (σ.set j (some v)) H := (p.ext (Same.refl _) hh).set hv
  refine h Dl Hk _ H p1 _ fun b O3 Hk3 H3 e3 h3 q3 => ?_
  cases b with
  | true =>
    refine iteT (q3.1 rfl Hk3 _ H3 (p1.ext e3 h3) _ fun y r O4 Hk4 H4 e4 h4 s4 q4 => ?_)
    obtain ⟨O5, hp, q5⟩ := q4
    have h5 := h4.perm hp
    obtain ⟨⟨vs, g1, g2⟩, _⟩ := h5.ow _ List.mem_cons_self
    exact ⟨vs, g1, by rw [g2.length]; exact hl, k _ O5 Hk4 _ (e3.trans e4) (h5.write (g2.append (.cons s4 .nil))) q5⟩
  | false =>
    obtain ⟨O5, hp, q5⟩ := q3.2 rfl
    exact iteF (k _ O5 Hk3 _ e3 (h3.perm hp) q5)
theorem w_lc1 {ta : TA} {j : Nat} {tt : TT} (h : AvW K ta O ds fun rs O1 => ∃ n : Int, rs = [iV n] ∧ n ≤ 1000000 ∧ -(2 ^ 62) ≤ n ∧ ∃ I : Nat → List SD → Own → Prop, I 0 [] O1 ∧
    (∀ (i : Nat) acc O2, (i : Int) < n → acc.length ≤ i → I i acc O2 → LcTurn K tt te O2 (ds.set j (iV (i : Int))) acc (I (i + 1))) ∧ ∀ acc O2 Dl, I n.toNat acc O2 → Q (.ad Dl) ((Dl, .lst acc) :: O2)) : EvW K (tLc (iRng1 ta) (gName j) tt te [j]) O ds Q := fun Hk σ H p Q' k =>
  h Hk σ H p _ fun vs rs O1 Hk1 H1 e1 h1 s1 q1 => by
    obtain ⟨n, rfl, hn, hn2, I, h0, hs, hd⟩ := q1
    obtain ⟨v, rfl, hv⟩ := all1 s1
    cases (show Da Hk1 v (.int n) from hv)
    refine ⟨n, rfl, by omega, by omega, fun Dl hf => lc_range (lo := 0) (n := n.toNat) (fun i H => ∃ acc O2 Hk2, Same Hk1 Hk2 ∧ acc.length ≤ i ∧ Hold K Hk2 ((Dl, OD.lst acc) :: O2) H ∧ I i acc O2)
      ⟨[], O1, Hk1, Same.refl _, Nat.le_refl _, h1.own hf .nil, h0⟩ (fun i H2 hi hP => ?_) (fun H2 hP => ?_)⟩
    · obtain ⟨acc, O2, Hk2, e2, hl, hh, q⟩ := hP
      have hz : acc.length < sizeLine := Nat.lt_of_lt_of_le (show acc.length < 1000001 by omega) (by decide)
      have ht := hs i acc O2 (by omega) hl q
      rw [← Int.zero_add (i : Int)] at ht
      refine lc_turn (d := iV (0 + (i : Int))) (P' := fun H => ∃ acc2 O3 Hk2, Same Hk1 Hk2 ∧ acc2.length ≤ i + 1 ∧ Hold K Hk2 ((Dl, OD.lst acc2) :: O3) H ∧ I (i + 1) acc2 O3) (I' := fun acc2 O3 => acc2.length ≤ i + 1 ∧ I (i + 1) acc2 O3) ?_ hz ((p.ext e1 h1).ext e2 (hh.sub (List.sublist_cons_self ..))) hh (.int _) fun acc2 O3 Hk3 H3 e3 h3 q3 => ⟨acc2, O3, Hk3, e2.trans e3, q3.1, h3, q3.2⟩
      intro Dl2 Hk3 σ3 H3 p3 Q3 k3
      refine ht Dl2 Hk3 σ3 H3 p3 Q3 fun b O3 Hk4 H4 e4 h4 q4 => k3 b O3 Hk4 H4 e4 h4 ⟨fun hb => w_mono (q4.1 hb) fun r O4 ⟨O5, hp, q5⟩ => ⟨O5, hp, by rw [List.length_append]; simp; omega, q5⟩, fun hb => ?_⟩
      obtain ⟨O5, hp, q5⟩ := q4.2 hb
      exact ⟨O5, hp, by omega, q5⟩
    · obtain ⟨acc, O2, Hk2, e2, hl, hh, q⟩ := hP
      exact k _ (.ad Dl) _ Hk2 H2 (e1.trans e2) hh rfl (hd acc O2 Dl q)
theorem w_lcL {tl : TE} {j : Nat} {tt : TT} (h : EvW K tl O ds fun r O1 => ∃ es : List PyData, r = .dat (.list es) ∧ es.length ≤ 1000000 ∧ ∃ I : Nat → List SD → Own → Prop, I 0 [] O1 ∧
    (∀ (i : Nat) d acc O2, es[i]? = some d → acc.length ≤ i → I i acc O2 → LcTurn K tt te O2 (ds.set j (.dat d)) acc (I (i + 1))) ∧ ∀ acc O2 Dl, I es.length acc O2 → Q (.ad Dl) ((Dl, .lst acc) :: O2)) : EvW K (tLc (iList K tl) (gName j) tt te [j]) O ds Q := fun Hk σ H p Q' k =>
  h Hk σ H p _ fun v rs O1 Hk1 H1 e1 h1 s1 q1 => by
    obtain ⟨es, rfl, hn, I, h0, hs, hd⟩ := q1
    cases (show Da Hk1 v (.list es) from s1) with
    | @lst a xs _ g1 g2 =>
    refine ⟨a, rfl, ⟨xs, .inl (.inl (h1.kn _ _ g1))⟩, fun Dl hf => lc_list (xs := xs) (fun i H => ∃ acc O2 Hk2, Same Hk1 Hk2 ∧ acc.length ≤ i ∧ Hold K Hk2 ((Dl, OD.lst acc) :: O2) H ∧ I i acc O2)
      ⟨[], O1, Hk1, Same.refl _, Nat.le_refl _, h1.own hf .nil, h0⟩ (fun i H2 _ ⟨acc, O2, Hk2, e2, hl, hh, q⟩ => .inl (.inl (hh.kn _ _ (e2 _ _ g1)))) (fun i x H2 hi hP => ?_) (fun H2 hP => ?_)⟩
    · obtain ⟨acc, O2, Hk2, e2, hl, hh, q⟩ := hP
      obtain ⟨d, hd1, hd2⟩ := g2.getV hi
      have hlt := (List.getElem?_eq_some_iff.mp hd1).1
      have hz : acc.length < sizeLine := Nat.lt_of_lt_of_le (show acc.length < 1000001 by omega) (by decide)
      have ht := hs i d acc O2 hd1 hl q
      refine lc_turn (d := .dat d) (P' := fun H => ∃ acc2 O3 Hk2, Same Hk1 Hk2 ∧ acc2.length ≤ i + 1 ∧ Hold K Hk2 ((Dl, OD.lst acc2) :: O3) H ∧ I (i + 1) acc2 O3) (I' := fun acc2 O3 => acc2.length ≤ i + 1 ∧ I (i + 1) acc2 O3) ?_ hz ((p.ext e1 h1).ext e2 (hh.sub (List.sublist_cons_self ..))) hh (Da.mono e2 hd2) fun acc2 O3 Hk3 H3 e3 h3 q3 => ⟨acc2, O3, Hk3, e2.trans e3, q3.1, h3, q3.2⟩
      intro Dl2 Hk3 σ3 H3 p3 Q3 k3
      refine ht Dl2 Hk3 σ3 H3 p3 Q3 fun b O3 Hk4 H4 e4 h4 q4 => k3 b O3 Hk4 H4 e4 h4 ⟨fun hb => w_mono (q4.1 hb) fun r O4 ⟨O5, hp, q5⟩ => ⟨O5, hp, by rw [List.length_append]; simp; omega, q5⟩, fun hb => ?_⟩
      obtain ⟨O5, hp, q5⟩ := q4.2 hb
      exact ⟨O5, hp, by omega, q5⟩
    · obtain ⟨acc, O2, Hk2, e2, hl, hh, q⟩ := hP
      rw [g2.length] at q
      exact k _ (.ad Dl) _ Hk2 H2 (e1.trans e2) hh rfl (hd acc O2 Dl q)
theorem w_lcT {tl : TE} {j : Nat} {tt : TT} (h : EvW K tl O ds fun r O1 => ∃ es : List PyData, r = .dat (.tuple es) ∧ es.length ≤ 1000000 ∧ ∃ I : Nat → List SD → Own → Prop, I 0 [] O1 ∧
    (∀ (i : Nat) d acc O2, es[i]? = some d → acc.length ≤ i → I i acc O2 → LcTurn K tt te O2 (ds.set j (.dat d)) acc (I (i + 1))) ∧ ∀ acc O2 Dl, I es.length acc O2 → Q (.ad Dl) ((Dl, .lst acc) :: O2)) : EvW K (tLc (iTup K tl) (gName j) tt te [j]) O ds Q := fun Hk σ H p Q' k =>
  h Hk σ H p _ fun v rs O1 Hk1 H1 e1 h1 s1 q1 => by
    obtain ⟨es, rfl, hn, I, h0, hs, hd⟩ := q1
    cases (show Da Hk1 v (.tuple es) from s1) with
    | @tup a xs _ g1 g2 =>
    refine ⟨a, rfl, ⟨xs, .inl (.inl (h1.kn _ _ g1))⟩, fun Dl hf => lc_tup (xs := xs) (fun i H => ∃ acc O2 Hk2, Same Hk1 Hk2 ∧ acc.length ≤ i ∧ Hold K Hk2 ((Dl, OD.lst acc) :: O2) H ∧ I i acc O2)
      ⟨[], O1, Hk1, Same.refl _, Nat.le_refl _, h1.own hf .nil, h0⟩ (fun i H2 _ ⟨acc, O2, Hk2, e2, hl, hh, q⟩ => .inl (.inl (hh.kn _ _ (e2 _ _ g1)))) (fun i x H2 hi hP => ?_) (fun H2 hP => ?_)⟩
    · obtain ⟨acc, O2, Hk2, e2, hl, hh, q⟩ := hP
      obtain ⟨d, hd1, hd2⟩ := g2.getV hi
      have hlt := (List.getElem?_eq_some_iff.mp hd1).1
      have hz : acc.length < sizeLine := Nat.lt_of_lt_of_le (show acc.length < 1000001 by omega) (by decide)
      have ht := hs i d acc O2 hd1 hl q
      refine lc_turn (d := .dat d) (P' := fun H => ∃ acc2 O3 Hk2, Same Hk1 Hk2 ∧ acc2.length ≤ i + 1 ∧ Hold K Hk2 ((Dl, OD.lst acc2) :: O3) H ∧ I (i + 1) acc2 O3) (I' := fun acc2 O3 => acc2.length ≤ i + 1 ∧ I (i + 1) acc2 O3) ?_ hz ((p.ext e1 h1).ext e2 (hh.sub (List.sublist_cons_self ..))) hh (Da.mono e2 hd2) fun acc2 O3 Hk3 H3 e3 h3 q3 => ⟨acc2, O3, Hk3, e2.trans e3, q3.1, h3, q3.2⟩
      intro Dl2 Hk3 σ3 H3 p3 Q3 k3
      refine ht Dl2 Hk3 σ3 H3 p3 Q3 fun b O3 Hk4 H4 e4 h4 q4 => k3 b O3 Hk4 H4 e4 h4 ⟨fun hb => w_mono (q4.1 hb) fun r O4 ⟨O5, hp, q5⟩ => ⟨O5, hp, by rw [List.length_append]; simp; omega, q5⟩, fun hb => ?_⟩
      obtain ⟨O5, hp, q5⟩ := q4.2 hb
      exact ⟨O5, hp, by omega, q5⟩
    · obtain ⟨acc, O2, Hk2, e2, hl, hh, q⟩ := hP
      rw [g2.length] at q
      exact k _ (.ad Dl) _ Hk2 H2 (e1.trans e2) hh rfl (hd acc O2 Dl q)
end
/-! ### a def -/
section
variable {P : Program} {w : World} {K : PySem.W.Frag} {mg : Str → Option Value} {base : Heap}
theorem start_pt {Hk H : Hp} {O : Own} {vs : List V} {rs : List SD} {N : List Str} (h : Hold K Hk O H) (hv : SDall K Hk vs rs) : Pt K Hk O (rs ++ List.replicate (N.length - rs.length) .non) (L2.start N vs) H :=
  ⟨h, by unfold L2.start; rw [List.length_append, List.length_append, List.length_map, List.length_replicate, List.length_replicate, hv.length], fun i r hr => by
    by_cases hi : i < rs.length
    · rw [List.getElem?_append_left hi] at hr
      obtain ⟨v, h1, h2⟩ := hv.get hr
      refine .inr ⟨v, ?_, h2⟩
      unfold L2.start
      rw [List.getElem?_append_left (by rw [List.length_map, hv.length]; exact hi), List.getElem?_map, h1]
      rfl
    · rw [List.getElem?_append_right (by omega), List.getElem?_replicate] at hr
      split at hr
      · cases hr; exact .inl rfl
      · cases hr⟩
theorem fn_ok {x qual : Str} {st : Stmt} {f : Addr} {fd : FuncData} {N ps : List Str} {k : Nat} {pre : List SD → Own → (SD → Own → Prop) → Prop} (F : Fun K x qual st f fd) (S : FnScope N ps (defScope st)) (len : ∀ rs O Q, pre rs O Q → rs.length = ps.length)
    (hbody : ∀ (cdv : Value) (A : Around) (outer : List Env) (s : Shared) (H : Hp) (E : XK), Room k (A.deeper (envOfC qual (defScope st) s.heap.objs.size f cdv)) →
      ∃ t, PSs (cxOf CX0 P w K mg base N qual (defScope st) f cdv A outer s H E).nox (defBody st) t ∧ ∀ rs O Q, pre rs O Q → StW K t O (rs ++ List.replicate (N.length - rs.length) .non) ⟨fun O _ => Q (.dat .none) O, Q, fun _ _ => False, fun _ _ => False, fun _ => True⟩) :
    FnOk P w K mg base CX0 (k + 1) f fd ps (spW K pre) :=
  F.ok S (fun vs H Q E ⟨Hk, O, rs, Q0, h, hv, hp, kk⟩ => by rw [hv.length]; exact len rs O Q0 hp) fun cdv A outer s H vs Q E hr ⟨Hk, O, rs, Q0, h, hv, hp, kk⟩ => by
    obtain ⟨t, ht, hs⟩ := hbody cdv A outer s H E hr
    refine ⟨t, ht, hs rs O Q0 hp Hk _ H _ (start_pt h hv) ⟨fun O2 ds2 Hk2 σ2 H2 e p2 q => kk _ (.dat .none) O2 Hk2 H2 e p2.hold .non q, kk, fun O2 ds2 Hk2 σ2 H2 e p2 q => q.elim, fun O2 ds2 Hk2 σ2 H2 e p2 q => q.elim, fun _ _ => True.intro⟩⟩
end
end Wk
namespace Wk
open PySem PySem.Spec PyProof.Rows L2
section
variable (P : Program) (w : World) (K : PySem.W.Frag) (mg : Str → Option Value) (base : Heap)
def Def (x : Str) (st : Stmt) : Prop := ∃ f fd, Fun K x x st f fd ∧ mg x = some (.ref f)
def Callee (x : Str) (ps : List Str) (k : Nat) (pre : List SD → Own → (SD → Own → Prop) → Prop) : Prop :=
  ∃ f fd, FnOk P w K mg base CX0 k f fd ps (spW K pre) ∧ mg x = some (.ref f) ∧ PySem.W.keepIn K (.ref f) = true ∧ Binds K fd ps [] ∧ ∃ oc od sl, K.lookup f = some ⟨oc, od, .func fd, sl⟩
end
theorem callee_law {P : Program} {w : World} {K : PySem.W.Frag} {mg : Str → Option Value} {base : Heap} {x : Str} {ps : List Str} {k : Nat} {pre : List SD → Own → (SD → Own → Prop) → Prop} {f : Addr} {fd : FuncData} {qual : Str} {st : Stmt}
    (C : Callee P w K mg base x ps k pre) (g : mg x = some (.ref f)) (F : Fun K x qual st f fd) : FnOk P w K mg base CX0 k f fd ps (spW K pre) := by
  obtain ⟨f', fd', G, g', _, _, oc', od', sl', lk'⟩ := C
  rw [g] at g'
  cases g'
  obtain ⟨oc, od, kV, doc, pm, an, cdv, ct, osl, rfl, lk, hcd⟩ := F.ex
  rw [lk] at lk'
  cases lk'
  exact G
theorem Fun.lk {K : PySem.W.Frag} {x qual : Str} {st : Stmt} {f : Addr} {fd : FuncData} (F : Fun K x qual st f fd) : ∃ oc od sl, K.lookup f = some ⟨oc, od, .func fd, sl⟩ := by
  obtain ⟨oc, od, kV, doc, pm, an, cdv, ct, osl, rfl, lk, hcd⟩ := F.ex
  exact ⟨_, _, _, lk⟩
theorem cx_K {CX : CXT} {P : Program} {w : World} {K : PySem.W.Frag} {mg : Str → Option Value} {base : Heap} {N : List Str} {qual : Str} {scope : Scope} {f : Addr} {cd : Value} {A : Around} {outer : List Env} {s : Shared} {H : Hp} {E : XK} :
    (cxOf CX P w K mg base N qual scope f cd A outer s H E).nox.K = K := rfl
theorem b_dec {p : Prop} [Decidable p] {A B : Prop} (h1 : p → A) (h2 : ¬p → B) : (decide p = true → A) ∧ (decide p = false → B) := ⟨fun h => h1 (of_decide_eq_true h), fun h => h2 (of_decide_eq_false h)⟩
theorem b_ndec {p : Prop} [Decidable p] {A B : Prop} (h1 : ¬p → A) (h2 : p → B) : ((!decide p) = true → A) ∧ ((!decide p) = false → B) := by
  by_cases hp : p
  · exact ⟨fun h => by simp [hp] at h, fun _ => h2 hp⟩
  · exact ⟨fun _ => h1 hp, fun h => by simp [hp] at h⟩
theorem b_true {A B : Prop} (h : A) : (true = true → A) ∧ (true = false → B) := ⟨fun _ => h, fun h => Bool.noConfusion h⟩
theorem b_false {A B : Prop} (h : B) : (false = true → A) ∧ (false = false → B) := ⟨fun h => Bool.noConfusion h, fun _ => h⟩
/-- the law's own start -/
theorem law_start {K : PySem.W.Frag} {H : Hp} {a : Addr} {ns : List Int} {pre : List SD → Own → (SD → Own → Prop) → Prop} (hS : SqL K H a (ns.map V.int)) (hp : pre [.scr ns] [] fun r _ => r = bV true) : spW K pre [.ref a] H (fun v _ => v = .bl true) fun _ _ _ => False :=
  ⟨H, [], [.scr ns], _, ⟨Same.refl _, fun p hp => (nomatch hp), List.nodup_nil⟩, .cons ⟨a, rfl, hS⟩ .nil, hp, fun v r O2 Hk2 H2 e h s q => by
    subst q
    cases (show Da Hk2 v (.bool true) from s)
    rfl⟩
end Wk
namespace Wk
open PySem PySem.Spec PyProof.Rows L2
/-! ### the rules that speak of the written part, at a given one -/
section
variable {X : Cx} (K : PySem.W.Frag)
theorem ixL (h : X.K = K := by rfl) : IxR X (rIxL K) := h ▸ ix_list
theorem ixT (h : X.K = K := by rfl) : IxR X (rIxT K) := h ▸ ix_tup
theorem slL (h : X.K = K := by rfl) : SlR X (rSlL K) := h ▸ sl_list
theorem slT (h : X.K = K := by rfl) : SlR X (rSlA K) := h ▸ sl_tupA
theorem kCatT (h : X.K = K := by rfl) : OpR X (binaryOp .Add) (rCatA K) := h ▸ op_catA
theorem kRepT (h : X.K = K := by rfl) : OpR X (binaryOp .Mult) (rRepT K) := h ▸ op_repT
def rLen (K : PySem.W.Frag) : List V → Hp → VK → Prop := fun xs H Q => ∃ p ys, xs = [.ref p] ∧ (SqL K H p ys ∨ SqT K H p ys) ∧ Q (.int ys.length) H
def rListOf (K : PySem.W.Frag) : List V → Hp → VK → Prop := fun xs H Q => ∃ p ys, xs = [.ref p] ∧ (SqL K H p ys ∨ SqT K H p ys) ∧ ∀ l, H l = none → Q (.ref l) (upd H l (.lst ys))
def rTupOf (K : PySem.W.Frag) : List V → Hp → VK → Prop := fun xs H Q => ∃ p ys, xs = [.ref p] ∧ ((SqL K H p ys ∧ ∀ l, H l = none → Q (.ref l) (upd H l (.tup ys))) ∨ (SqT K H p ys ∧ Q (.ref p) H))
def rMax2 : List V → Hp → VK → Prop := fun xs H Q => ∃ i j, xs = [.int i, .int j] ∧ Q (.int (if j > i then j else i)) H
def rMin2 : List V → Hp → VK → Prop := fun xs H Q => ∃ i j, xs = [.int i, .int j] ∧ Q (.int (if j < i then j else i)) H
def rInt1 : List V → Hp → VK → Prop := fun xs H Q => (∃ i, xs = [.int i] ∧ Q (.int i) H) ∨ ∃ k, xs = [.bl k] ∧ Q (.int (if k then 1 else 0)) H
theorem kLen (h : X.K = K := by rfl) : CallR X (.builtin "len") (rLen K) := h ▸ call_len_seq
theorem kListOf (h : X.K = K := by rfl) : CallR X (.type "list") (rListOf K) := h ▸ call_list_of
theorem kTupOf (h : X.K = K := by rfl) : CallR X (.type "tuple") (rTupOf K) := h ▸ call_tuple_of
theorem kMax2 (hc : X.calm = true) : CallR X (.builtin "max") rMax2 := call_max2 hc
theorem kMin2 (hc : X.calm = true) : CallR X (.builtin "min") rMin2 := call_min2 hc
theorem kInt1 : CallR X (.type "int") rInt1 := call_int1
theorem kSum (hc : X.calm = true) (h : X.K = K := by rfl) : CallR X (.builtin "sum") (rSum K) := h ▸ cr_sum hc
theorem kMax (hc : X.calm = true) (h : X.K = K := by rfl) : CallR X (.builtin "max") (rMax K) := h ▸ cr_max hc
theorem kMin (hc : X.calm = true) (h : X.K = K := by rfl) : CallR X (.builtin "min") (rMin K) := h ▸ cr_min hc
theorem kSorted (h : X.K = K := by rfl) : CallR X (.builtin "sorted") (rSortedI K) := h ▸ cr_sortedI
theorem kIsi (h : X.K = K := by rfl) : CallR X (.builtin "isinstance") (rIsi K) := h ▸ call_isi
theorem kEqD (hu : X.A.units + 64 < cLine) (h : X.K = K := by rfl) : OpR X (compareOp .Eq) (rEqD K) := h ▸ op_eqD hu
theorem kNeD (hu : X.A.units + 64 < cLine) (h : X.K = K := by rfl) : OpR X (compareOp .NotEq) (rNeD K) := h ▸ op_neD hu
theorem piL {tg l : Expr} {tl : TE} (hl : PE X l tl) (h : X.K = K := by rfl) : PI X tg l (iList K tl) := h ▸ pi_list hl
theorem piT {tg l : Expr} {tl : TE} (hl : PE X l tl) (h : X.K = K := by rfl) : PI X tg l (iTup K tl) := h ▸ pi_tup hl
theorem peRev {e : Expr} {te : TE} {k : Nat} {p1 p2 p3 pos : Pos} (he : PE X e te) (h : X.K = K := by rfl) : PE X (.Subscript e (.Slice none none (some (.UnaryOp .USub (.Constant (.int 1) k p1) p2)) p3) pos) (tRevL K te) := h ▸ pe_revL he
theorem psApp {st : Stmt} {to : TE} {ta : TA} (hs : PS X st (tDrop (tBM X.K "list" rAppend to ta))) (h : X.K = K := by rfl) : PS X st (tDrop (tBM K "list" rAppend to ta)) := h ▸ hs
end
section
variable {K : PySem.W.Frag} {Hk Hk' H H' : Hp} {O O' Oa : Own} {ds : List SD} {σ : L2.St} {Q : SD → Own → Prop} {Q' : VK} {x y : SD} {es fs : List PyData} {lo hi : Option Int} {b : Addr × OD} {te : TE}
/-! ### lists that are data or owned -/
inductive Lst (O : Own) : SD → List PyData → Prop
  | d {es : List PyData} : Lst O (.dat (.list es)) es
  | o {a : Addr} {rs : List SD} {es : List PyData} (hm : (a, OD.lst rs) ∈ O) (hd : Dats rs es) : Lst O (.ad a) es
theorem Lst.get (l : Lst O x es) (h : Hold K Hk O H) {u : V} (hu : SDok K Hk u x) : ∃ a xs, u = .ref a ∧ H a = some (.lst xs) ∧ DaAll Hk xs es := by
  cases l with
  | d =>
    cases (show Da Hk u (.list es) from hu) with
    | @lst a xs _ h1 h2 => exact ⟨a, xs, rfl, h.kn _ _ h1, h2⟩
  | @o a rs _ hm hd =>
    cases (show u = .ref a from hu)
    obtain ⟨⟨vs, h1, h2⟩, _⟩ := h.ow _ hm
    obtain rfl := hd.eq
    exact ⟨a, vs, rfl, h1, h2.dats⟩
theorem sq_of {a : Addr} {xs : List V} (h : H a = some (.lst xs)) : SqL K H a xs := .inl (.inl h)
/-- a new list, as data; as owned in front; as owned behind the first -/
theorem Kont.newD (k : Kont K Hk Q Q') (h : Hold K Hk O H) {l : Addr} {xs : List V} (hf : H l = none) (hd : DaAll Hk xs es) (q : Q (.dat (.list es)) O) : Q' (.ref l) (upd H l (.lst xs)) := by
  have sm := same_new (o := .lst xs) (h.kn.free hf)
  exact k _ (.dat (.list es)) O _ _ sm (h.know hf) (.lst upd_same (DaAll.mono sm hd)) q
theorem Kont.newO (k : Kont K Hk Q Q') (h : Hold K Hk O H) {l : Addr} {xs : List V} (hf : H l = none) (hd : DaAll Hk xs es) (q : ∀ l, Q (.ad l) ((l, .lst (es.map .dat)) :: O)) : Q' (.ref l) (upd H l (.lst xs)) :=
  k _ (.ad l) _ Hk _ (Same.refl _) (h.own hf (SDall.of_dats hd)) rfl (q l)
theorem Kont.newO1 (k : Kont K Hk Q Q') (h : Hold K Hk (b :: Oa) H) {l : Addr} {xs : List V} (hf : H l = none) (hd : DaAll Hk xs es) (q : ∀ l, Q (.ad l) (b :: (l, .lst (es.map .dat)) :: Oa)) : Q' (.ref l) (upd H l (.lst xs)) :=
  k _ (.ad l) _ Hk _ (Same.refl _) ((h.own hf (SDall.of_dats hd)).perm (.swap ..)) rfl (q l)
theorem g_len (l : Lst O x es) (q : Q (iV es.length) O) : CbW K (rLen K) [x] O Q := fun Hk H h us hus Q' k => by
  obtain ⟨u, rfl, hu⟩ := all1 hus
  obtain ⟨a, xs, rfl, h1, h2⟩ := l.get h hu
  refine ⟨_, _, rfl, .inl (sq_of h1), ?_⟩
  rw [h2.length]
  exact k.now h (r := iV _) (.int _) q
theorem g_lenT (q : Q (iV es.length) O) : CbW K (rLen K) [.dat (.tuple es)] O Q := c_lenT q
theorem g_lenS {ns : List Int} (q : Q (iV ns.length) O) : CbW K (rLen K) [.scr ns] O Q := c_lenS q
theorem g_lenO {a : Addr} {rs : List SD} (hm : (a, OD.lst rs) ∈ O) (q : Q (iV rs.length) O) : CbW K (rLen K) [.ad a] O Q := c_lenO hm q
theorem g_max2 {i j : Int} (q : Q (iV (max i j)) O) : CbW K rMax2 [iV i, iV j] O Q := c_max2 q
theorem g_min2 {i j : Int} (q : Q (iV (min i j)) O) : CbW K rMin2 [iV i, iV j] O Q := c_min2 q
theorem g_int {i : Int} (q : Q (iV i) O) : CbW K rInt1 [iV i] O Q := c_int q
theorem g_intB {i : Bool} (q : Q (iV (if i then 1 else 0)) O) : CbW K rInt1 [bV i] O Q := c_intB q
theorem g_tupT (q : Q (.dat (.tuple es)) O) : CbW K (rTupOf K) [.dat (.tuple es)] O Q := c_tupT q
theorem g_tup (l : Lst O x es) (q : Q (.dat (.tuple es)) O) : CbW K (rTupOf K) [x] O Q := fun Hk H h us hus Q' k => by
  obtain ⟨u, rfl, hu⟩ := all1 hus
  obtain ⟨a, xs, rfl, h1, h2⟩ := l.get h hu
  refine ⟨_, _, rfl, .inl ⟨sq_of h1, fun l hf => ?_⟩⟩
  have sm := same_new (o := .tup xs) (h.kn.free hf)
  exact k _ (.dat (.tuple es)) O _ _ sm (h.know hf) (.tup upd_same (DaAll.mono sm h2)) q
theorem g_list (l : Lst O x es) (q : Q (.dat (.list es)) O) : CbW K (rListOf K) [x] O Q := fun Hk H h us hus Q' k => by
  obtain ⟨u, rfl, hu⟩ := all1 hus
  obtain ⟨a, xs, rfl, h1, h2⟩ := l.get h hu
  exact ⟨_, _, rfl, .inl (sq_of h1), fun l hf => k.newD h hf h2 q⟩
theorem g_listO (l : Lst O x es) (q : ∀ l, Q (.ad l) ((l, .lst (es.map .dat)) :: O)) : CbW K (rListOf K) [x] O Q := fun Hk H h us hus Q' k => by
  obtain ⟨u, rfl, hu⟩ := all1 hus
  obtain ⟨a, xs, rfl, h1, h2⟩ := l.get h hu
  exact ⟨_, _, rfl, .inl (sq_of h1), fun l hf => k.newO h hf h2 q⟩
theorem g_listO1 (l : Lst (b :: Oa) x es) (q : ∀ l, Q (.ad l) (b :: (l, .lst (es.map .dat)) :: Oa)) : CbW K (rListOf K) [x] (b :: Oa) Q := fun Hk H h us hus Q' k => by
  obtain ⟨u, rfl, hu⟩ := all1 hus
  obtain ⟨a, xs, rfl, h1, h2⟩ := l.get h hu
  exact ⟨_, _, rfl, .inl (sq_of h1), fun l hf => k.newO1 h hf h2 q⟩
theorem g_listT (q : Q (.dat (.list es)) O) : CbW K (rListOf K) [.dat (.tuple es)] O Q := c_listT q
theorem g_listTO1 (q : ∀ l, Q (.ad l) (b :: (l, .lst (es.map .dat)) :: Oa)) : CbW K (rListOf K) [.dat (.tuple es)] (b :: Oa) Q := fun Hk H h us hus Q' k => by
  obtain ⟨u, rfl, hu⟩ := all1 hus
  cases (show Da Hk u (.tuple es) from hu) with
  | @tup a xs _ h1 h2 => exact ⟨_, _, rfl, .inr (.inl (.inl (h.kn _ _ h1))), fun l hf => k.newO1 h hf h2 q⟩
theorem g_sum {ns : List Int} (l : Lst O x (ns.map .int)) (q : Q (iV ns.sum) O) : CbW K (rSum K) [x] O Q := fun Hk H h us hus Q' k => by
  obtain ⟨u, rfl, hu⟩ := all1 hus
  obtain ⟨a, xs, rfl, h1, h2⟩ := l.get h hu
  rw [h2.ints] at h1
  exact ⟨_, ns, rfl, sq_of h1, k.now h (r := iV _) (.int _) q⟩
theorem g_max {ns : List Int} (l : Lst O x (ns.map .int)) (hn : 0 < ns.length) (q : ∀ m, m ∈ ns → (∀ y ∈ ns, y ≤ m) → Q (iV m) O) : CbW K (rMax K) [x] O Q := fun Hk H h us hus Q' k => by
  obtain ⟨u, rfl, hu⟩ := all1 hus
  obtain ⟨a, xs, rfl, h1, h2⟩ := l.get h hu
  rw [h2.ints] at h1
  exact ⟨_, ns, rfl, sq_of h1, hn, fun m hm hl => k.now h (r := iV _) (.int _) (q m hm hl)⟩
theorem g_sorted {ns : List Int} (l : Lst O x (ns.map .int)) (q : ∀ ms : List Int, ms.Perm ns → ms.Pairwise (· ≤ ·) → Q (.dat (lI ms)) O) : CbW K (rSortedI K) [x] O Q := fun Hk H h us hus Q' k => by
  obtain ⟨u, rfl, hu⟩ := all1 hus
  obtain ⟨a, xs, rfl, h1, h2⟩ := l.get h hu
  rw [h2.ints] at h1
  exact ⟨_, ns, rfl, sq_of h1, fun ms p hp hs hf => k.newD h hf (DaAll.of_ints ms) (q ms hp hs)⟩
theorem g_rev (h : EvW K te O ds fun r O1 => ∃ es, Lst O1 r es ∧ Q (.dat (.list es.reverse)) O1) : EvW K (tRevL K te) O ds Q := fun Hk σ H p Q' k =>
  h Hk σ H p _ fun v r O1 Hk1 H1 e1 h1 s1 q1 => by
    obtain ⟨es, l, q⟩ := q1
    obtain ⟨a, xs, rfl, g1, g2⟩ := l.get h1 s1
    exact ⟨_, _, rfl, sq_of g1, fun l hf => (k.ext e1).newD h1 hf g2.reverse q⟩
theorem g_revO1 (h : EvW K te O ds fun r O1 => ∃ es b Oa, O1 = b :: Oa ∧ Lst O1 r es ∧ ∀ l, Q (.ad l) (b :: (l, .lst (es.reverse.map .dat)) :: Oa)) : EvW K (tRevL K te) O ds Q := fun Hk σ H p Q' k =>
  h Hk σ H p _ fun v r O1 Hk1 H1 e1 h1 s1 q1 => by
    obtain ⟨es, b, Oa, rfl, l, q⟩ := q1
    obtain ⟨a, xs, rfl, g1, g2⟩ := l.get h1 s1
    exact ⟨_, _, rfl, sq_of g1, fun l hf => (k.ext e1).newO1 h1 hf g2.reverse q⟩
theorem g_sl (l : Lst O x es) (q : Q (.dat (.list (cut es lo hi))) O) : SlW K (rSlL K) x lo hi O Q := fun Hk H h u hu Q' k => by
  obtain ⟨a, xs, rfl, h1, h2⟩ := l.get h hu
  exact ⟨_, _, rfl, sq_of h1, fun l hf => k.newD h hf (h2.cut lo hi) q⟩
theorem g_slO1 (l : Lst (b :: Oa) x es) (q : ∀ l, Q (.ad l) (b :: (l, .lst ((cut es lo hi).map .dat)) :: Oa)) : SlW K (rSlL K) x lo hi (b :: Oa) Q := fun Hk H h u hu Q' k => by
  obtain ⟨a, xs, rfl, h1, h2⟩ := l.get h hu
  exact ⟨_, _, rfl, sq_of h1, fun l hf => k.newO1 h hf (h2.cut lo hi) q⟩
theorem g_cat (l1 : Lst O x es) (l2 : Lst O y fs) (hz : es.length + fs.length ≤ 1000000) (q : Q (.dat (.list (es ++ fs))) O) : OpW K rCat x y O Q := fun Hk H h u v hu hv Q' k => by
  obtain ⟨a, xs, rfl, h1, h2⟩ := l1.get h hu
  obtain ⟨a2, ys, rfl, g1, g2⟩ := l2.get h hv
  exact ⟨_, _, xs, ys, rfl, rfl, h1, g1, by rw [h2.length, g2.length]; exact Nat.le_trans hz (by decide), fun l hf => k.newD h hf (h2.append g2) q⟩
theorem g_catO1 (l1 : Lst (b :: Oa) x es) (l2 : Lst (b :: Oa) y fs) (hz : es.length + fs.length ≤ 1000000) (q : ∀ l, Q (.ad l) (b :: (l, .lst ((es ++ fs).map .dat)) :: Oa)) : OpW K rCat x y (b :: Oa) Q := fun Hk H h u v hu hv Q' k => by
  obtain ⟨a, xs, rfl, h1, h2⟩ := l1.get h hu
  obtain ⟨a2, ys, rfl, g1, g2⟩ := l2.get h hv
  exact ⟨_, _, xs, ys, rfl, rfl, h1, g1, by rw [h2.length, g2.length]; exact Nat.le_trans hz (by decide), fun l hf => k.newO1 h hf (h2.append g2) q⟩
theorem g_rep {k : Int} (l1 : Lst O x es) (h0 : k ≤ 1000) (h00 : -1000 ≤ k) (hz : es.length ≤ 1000) (q : Q (.dat (.list (List.replicate k.toNat es).flatten)) O) : OpW K rRep x (iV k) O Q := fun Hk H h u v hu hv Q' kk => by
  obtain ⟨a, xs, rfl, h1, h2⟩ := l1.get h hu
  cases (show Da Hk v (.int k) from hv)
  refine ⟨_, k, xs, rfl, rfl, h1, by omega, by omega, ?_, fun l hf => kk.newD h hf (h2.rep _) q⟩
  rw [h2.length]
  have h3 : es.length * k.toNat ≤ 1000 * 1000 := Nat.mul_le_mul hz (by omega)
  exact Nat.le_trans h3 (by decide)
theorem g_ix {i : Int} {d : PyData} (l : Lst O x es) (ha : atI es i = some d) (q : Q (.dat d) O) : OpW K (rIxL K) x (iV i) O Q := fun Hk H h u v hu hv Q' k => by
  obtain ⟨a, xs, rfl, h1, h2⟩ := l.get h hu
  cases (show Da Hk v (.int i) from hv)
  obtain ⟨j, e1, e2⟩ := atI_get ha
  obtain ⟨w, g1, g2⟩ := h2.get e2
  exact ⟨_, xs, i, w, rfl, rfl, sq_of h1, atI_of (by rw [h2.length]; exact e1) g1, k.now h (r := .dat d) g2 q⟩
end
theorem sz_ok {n : Nat} (h : Nat.ble n 1000000 = true) : n ≤ sizeLine := Nat.le_trans (Nat.le_of_ble_eq_true h) (by decide)
def intOf : PyData → Int
  | .int n => n
  | _ => 0
/-- an item of a written menu of ints -/
theorem o_pickM {K : PySem.W.Frag} {O : Own} {Q : SD → Own → Prop} {es : List PyData} {i : Int} (he : es = (es.map intOf).map .int) (h0 : 0 ≤ i) (h1 : i < es.length) (q : ∀ v, v ∈ es.map intOf → Q (iV v) O) : OpW K (rIxL K) (.dat (.list es)) (iV i) O Q :=
  o_pickL h0 h1 fun d hd => by
    rw [he] at hd
    obtain ⟨v, hv, rfl⟩ := List.mem_map.mp hd
    exact q v hv
section
variable {K : PySem.W.Frag} {O O' Oa : Own} {ds : List SD} {Q : SD → Own → Prop} {A : AE} {t : TS} {te : TE}
/-- a name of an owned list of data: from here on it is data -/
theorem s_frz {i : Nat} {a : Addr} {rs : List SD} {es : List PyData} (hi : ds[i]? = some (.ad a)) (hp : O.Perm ((a, OD.lst rs) :: Oa)) (hd : Dats rs es) (h : StW K t Oa (ds.set i (.dat (.list es))) A) : StW K t O ds A := fun Hk σ H D p l => by
  obtain rfl := hd.eq
  obtain ⟨Hk2, e2, h2, d2⟩ := (p.hold.perm hp).freeze
  have p2 : Pt K Hk2 Oa ds σ H := p.ext e2 h2
  rcases p.env i (.ad a) hi with z | ⟨v, hv, hs⟩
  · cases z
  · cases (show v = .ref a from hs)
    refine h Hk2 σ H D ?_ (l.ext e2)
    have p3 := p2.set (j := i) (r := .dat (.list es)) (v := .ref a) d2
    have e : σ.set i (some (.ref a)) = σ := by
      obtain ⟨hl, e⟩ := List.getElem?_eq_some_iff.mp hv
      rw [← e]
      exact List.set_getElem_self hl
    rw [e] at p3
    exact p3
theorem g_nthO {a : Addr} {ns : List Int} {i : Int} (hm : (a, OD.lst (ns.map fun n => iV n)) ∈ O) (h0 : 0 ≤ i) (h1 : i < ns.length) (q : Q (iV (ns.getD i.toNat 0)) O) : OpW K (rIxL K) (.ad a) (iV i) O Q := by
  obtain ⟨d, h, e, _⟩ := atI_in (xs := ns.map PyData.int) h0 (by rw [List.length_map]; exact h1)
  rw [List.getElem?_map] at e
  refine g_ix (.o hm (Dats.ints ns)) h ?_
  cases z : ns[i.toNat]? with
  | none => rw [z] at e; cases e
  | some n =>
    rw [z] at e
    cases e
    rw [List.getD_eq_getElem?_getD, z] at q
    exact q
theorem ixN_in {n : Nat} {k : Int} (h0 : 0 ≤ k) (h1 : k < n) : ixN n k = some k.toNat := by
  unfold ixN
  rw [if_pos h0, if_pos h1]
theorem dats_iV (ns : List Int) : (ns.map PyData.int).map SD.dat = ns.map fun n => iV n := by rw [List.map_map]; rfl
theorem iV_set (ns : List Int) (j : Nat) (v : Int) : (ns.map fun n => iV n).set j (iV v) = (ns.set j v).map fun n => iV n := by rw [List.map_set]
end
section
variable {K : PySem.W.Frag} {O : Own} {Q : SD → Own → Prop} {n : String} {b : Bool}
theorem i_B {x : Bool} (hb : kitB "bool" n = some b) (q : Q (bV b) O) : CbW K (rIsi K) [bV x, .ty n] O Q := c_isi (d := .bool x) hb q
theorem i_I {x : Int} (hb : kitB "int" n = some b) (q : Q (bV b) O) : CbW K (rIsi K) [iV x, .ty n] O Q := c_isi (d := .int x) hb q
theorem i_T {x : List PyData} (hb : kitB "tuple" n = some b) (q : Q (bV b) O) : CbW K (rIsi K) [.dat (.tuple x), .ty n] O Q := c_isi (d := .tuple x) hb q
theorem i_L {x : List PyData} (hb : kitB "list" n = some b) (q : Q (bV b) O) : CbW K (rIsi K) [.dat (.list x), .ty n] O Q := c_isi (d := .list x) hb q
theorem i_N (hb : kitB "NoneType" n = some b) (q : Q (bV b) O) : CbW K (rIsi K) [.dat .none, .ty n] O Q := c_isi (d := .none) hb q
theorem i_O {a : Addr} {rs : List SD} (hm : (a, OD.lst rs) ∈ O) (hb : kitB "list" n = some b) (q : Q (bV b) O) : CbW K (rIsi K) [.ad a, .ty n] O Q := c_isiO hm hb q
end
theorem cut_lo {α : Type} (xs : List α) {i : Int} (h0 : 0 ≤ i) : cut xs (some i) none = xs.drop i.toNat := by
  obtain ⟨k, rfl⟩ : ∃ k : Nat, i = (k : Int) := ⟨i.toNat, by omega⟩
  unfold cut
  rw [HT.sIx_nat, HT.sIx_none, Int.toNat_natCast]
  by_cases h : k ≤ xs.length
  · rw [Nat.min_eq_left h]
    exact List.take_of_length_le (by rw [List.length_drop]; exact Nat.le_refl _)
  · rw [Nat.min_eq_right (by omega), List.drop_length, List.take_nil, List.drop_eq_nil_of_le (by omega)]
theorem cut_hi {α : Type} (xs : List α) {i : Int} (h0 : 0 ≤ i) : cut xs none (some i) = xs.take i.toNat := by
  obtain ⟨k, rfl⟩ : ∃ k : Nat, i = (k : Int) := ⟨i.toNat, by omega⟩
  unfold cut
  rw [HT.sIx_nat, HT.sIx_none, Int.toNat_natCast, List.drop_zero, Nat.sub_zero]
  by_cases h : k ≤ xs.length
  · rw [Nat.min_eq_left h]
  · rw [Nat.min_eq_right (by omega), List.take_length, List.take_of_length_le (by omega)]
theorem cut_map {α β : Type} (f : α → β) (xs : List α) (lo hi : Option Int) : cut (xs.map f) lo hi = (cut xs lo hi).map f := by
  unfold cut
  rw [List.length_map, ← List.map_drop, ← List.map_take]
theorem cut_len {α : Type} (xs : List α) (lo hi : Option Int) : (cut xs lo hi).length ≤ xs.length := by
  unfold cut
  rw [List.length_take, List.length_drop]
  omega
theorem g_catT {K : PySem.W.Frag} {O : Own} {Q : SD → Own → Prop} {es fs : List PyData} (hz : es.length + fs.length ≤ 1000000) (q : Q (.dat (.tuple (es ++ fs))) O) : OpW K (rCatA K) (.dat (.tuple es)) (.dat (.tuple fs)) O Q := o_catT (Nat.le_trans hz (by decide)) q
theorem map_app1 (ns : List Int) (v : Int) : ns.map PyData.int ++ [PyData.int v] = (ns ++ [v]).map PyData.int := by rw [List.map_append]; rfl
theorem b_any {b : Bool} {A B : Prop} (h1 : b = true → A) (h2 : b = false → B) : (b = true → A) ∧ (b = false → B) := ⟨h1, h2⟩
end Wk
namespace Wk
open PySem PySem.Spec PyProof.Rows L2
/-! ### plain data: ints and None in lists and tuples, n deep -/
def plB : Nat → PyData → Bool
  | _, .int _ => true
  | _, .none => true
  | n + 1, .list xs => xs.all (plB n)
  | n + 1, .tuple xs => xs.all (plB n)
  | _, _ => false
def PlAll (n : Nat) (xs : List PyData) : Prop := ∀ x ∈ xs, plB n x = true
theorem PlAll.nil (n : Nat) : PlAll n [] := fun _ h => absurd h List.not_mem_nil
theorem PlAll.cons {n : Nat} {x : PyData} {xs : List PyData} (h : plB n x = true) (r : PlAll n xs) : PlAll n (x :: xs) := fun y hy => (List.mem_cons.mp hy).elim (fun e => e ▸ h) (r y)
theorem PlAll.app {n : Nat} {xs ys : List PyData} (h : PlAll n xs) (r : PlAll n ys) : PlAll n (xs ++ ys) := fun y hy => (List.mem_append.mp hy).elim (h y) (r y)
theorem PlAll.map {α : Type} {n : Nat} {f : α → PyData} {xs : List α} (h : ∀ x, plB n (f x) = true) : PlAll n (xs.map f) := fun y hy => by
  obtain ⟨x, _, rfl⟩ := List.mem_map.mp hy
  exact h x
theorem pl_int (n : Nat) (i : Int) : plB n (.int i) = true := by cases n <;> rfl
theorem pl_none (n : Nat) : plB n .none = true := by cases n <;> rfl
theorem pl_list {n : Nat} {xs : List PyData} (h : PlAll n xs) : plB (n + 1) (.list xs) = true := List.all_eq_true.mpr h
theorem pl_tuple {n : Nat} {xs : List PyData} (h : PlAll n xs) : plB (n + 1) (.tuple xs) = true := List.all_eq_true.mpr h
theorem plAll_of {n : Nat} {x : PyData} {xs : List PyData} (h : PlAll n (x :: xs)) : plB n x = true ∧ PlAll n xs := ⟨h x List.mem_cons_self, fun y hy => h y (List.mem_cons_of_mem _ hy)⟩
theorem pl_lay : ∀ (n : Nat) (d : PyData), plB n d = true → d.canLay0 = true ∧ d.depth ≤ n := by
  intro n
  induction n with
  | zero => intro d h; cases d <;> first | (cases h; done) | exact ⟨rfl, Nat.le_refl _⟩ | cases h
  | succ n ih =>
    have all : ∀ xs : List PyData, PlAll n xs → PyData.canLayAll0 xs = true ∧ PyData.depthAll xs ≤ n := by
      intro xs
      induction xs with
      | nil => intro _; exact ⟨rfl, Nat.zero_le _⟩
      | cons x xs ihx =>
        intro h
        obtain ⟨h1, h2⟩ := plAll_of h
        obtain ⟨a1, a2⟩ := ih x h1
        obtain ⟨b1, b2⟩ := ihx h2
        refine ⟨by simp [PyData.canLayAll0, a1, b1], ?_⟩
        simp only [PyData.depthAll]
        omega
    intro d h
    cases d with
    | none => exact ⟨rfl, Nat.zero_le _⟩
    | int i => exact ⟨rfl, Nat.zero_le _⟩
    | bool b => cases h
    | str b => cases h
    | dict b => cases h
    | list xs =>
      obtain ⟨a, b⟩ := all xs (List.all_eq_true.mp h)
      exact ⟨by simpa [PyData.canLay0] using a, by simp only [PyData.depth]; omega⟩
    | tuple xs =>
      obtain ⟨a, b⟩ := all xs (List.all_eq_true.mp h)
      exact ⟨by simpa [PyData.canLay0] using a, by simp only [PyData.depth]; omega⟩
theorem pl_shaped {n : Nat} {d : PyData} (h : plB n d = true) (hn : n ≤ 64) : SeqAt.shaped d = true := by
  obtain ⟨a, b⟩ := pl_lay n d h
  unfold SeqAt.shaped
  rw [a, decide_eq_true (Nat.le_trans b hn)]
  rfl
theorem eqv_iff : ∀ (n : Nat) (d e : PyData), plB n d = true → plB n e = true → (PyData.eqv d e = true ↔ d = e) := by
  intro n
  induction n with
  | zero =>
    intro d e h k
    cases d <;> cases e <;> first | (cases h; done) | (cases k; done) | (simp [PyData.eqv])
  | succ n ih =>
    have all : ∀ xs ys : List PyData, PlAll n xs → PlAll n ys → (PyData.eqvAll xs ys = true ↔ xs = ys) := by
      intro xs
      induction xs with
      | nil => intro ys _ _; cases ys <;> simp [PyData.eqvAll]
      | cons x xs ihx =>
        intro ys h k
        cases ys with
        | nil => simp [PyData.eqvAll]
        | cons y ys =>
          obtain ⟨h1, h2⟩ := plAll_of h
          obtain ⟨k1, k2⟩ := plAll_of k
          simp only [PyData.eqvAll, Bool.and_eq_true, ih x y h1 k1, ihx ys h2 k2, List.cons.injEq]
    intro d e h k
    cases d with
    | bool b => cases h
    | str b => cases h
    | dict b => cases h
    | none => cases e <;> first | (cases k; done) | (simp [PyData.eqv])
    | int i => cases e <;> first | (cases k; done) | (simp [PyData.eqv])
    | list xs =>
      cases e with
      | list ys => simp only [PyData.eqv, PyData.list.injEq, all xs ys (List.all_eq_true.mp h) (List.all_eq_true.mp k)]
      | bool b => cases k
      | str b => cases k
      | dict b => cases k
      | none => simp [PyData.eqv]
      | int i => simp [PyData.eqv]
      | tuple i => simp [PyData.eqv]
    | tuple xs =>
      cases e with
      | tuple ys => simp only [PyData.eqv, PyData.tuple.injEq, all xs ys (List.all_eq_true.mp h) (List.all_eq_true.mp k)]
      | bool b => cases k
      | str b => cases k
      | dict b => cases k
      | none => simp [PyData.eqv]
      | int i => simp [PyData.eqv]
      | list i => simp [PyData.eqv]
section
variable {K : PySem.W.Frag} {O : Own} {Q : SD → Own → Prop} {d e : PyData}
theorem o_eqP (h1 : plB 8 d = true) (h2 : plB 8 e = true) (q : ∀ b, (b = true ↔ d = e) → Q (bV b) O) : OpW K (rEqD K) (.dat d) (.dat e) O Q :=
  o_eqD (pl_shaped h1 (by decide)) (pl_shaped h2 (by decide)) (q _ (eqv_iff 8 d e h1 h2))
theorem o_neP (h1 : plB 8 d = true) (h2 : plB 8 e = true) (q : ∀ b, (b = true ↔ d = e) → Q (bV (!b)) O) : OpW K (rNeD K) (.dat d) (.dat e) O Q :=
  o_neD (pl_shaped h1 (by decide)) (pl_shaped h2 (by decide)) (q _ (eqv_iff 8 d e h1 h2))
end
theorem ints_inj {a b : List Int} (h : a.map PyData.int = b.map PyData.int) : a = b := by
  induction a generalizing b with
  | nil => cases b with
    | nil => rfl
    | cons y s => cases h
  | cons x r ih => cases b with
    | nil => cases h
    | cons y s =>
      rw [List.map_cons, List.map_cons] at h
      injection h with h1 h2
      injection h1 with h1
      rw [h1, ih h2]
theorem tI_inj {a b : List Int} (h : tI a = tI b) : a = b := by
  injection h with h
  exact ints_inj h
abbrev lS (cs : List (List Int)) : PyData := .list (cs.map fun c => tI c)
abbrev tS (cs : List (List Int)) : PyData := .tuple (cs.map fun c => tI c)
theorem shapes_inj {a b : List (List Int)} (h : (a.map fun c => tI c) = b.map fun c => tI c) : a = b := by
  induction a generalizing b with
  | nil => cases b with
    | nil => rfl
    | cons y s => cases h
  | cons x r ih => cases b with
    | nil => cases h
    | cons y s =>
      rw [List.map_cons, List.map_cons] at h
      injection h with h1 h2
      rw [tI_inj h1, ih h2]
theorem lS_inj {a b : List (List Int)} (h : lS a = lS b) : a = b := by
  injection h with h
  exact shapes_inj h
section
variable {K : PySem.W.Frag} {O : Own} {Q : SD → Own → Prop}
theorem getD_some {α : Type} {xs : List α} {j : Nat} {d : α} (h : j < xs.length) : xs[j]? = some (xs.getD j d) := by
  rw [List.getD_eq_getElem?_getD, List.getElem?_eq_getElem h]
  rfl
/-- a shape of a list of shapes, a row of a tuple of rows -/
theorem o_nthS {cs : List (List Int)} {i : Int} (h0 : 0 ≤ i) (h1 : i < cs.length) (q : Q (.dat (tI (cs.getD i.toNat []))) O) : OpW K (rIxL K) (.dat (lS cs)) (iV i) O Q := by
  obtain ⟨d, h, e, _⟩ := atI_in (xs := cs.map fun c => tI c) h0 (by rw [List.length_map]; exact h1)
  rw [List.getElem?_map, getD_some (d := []) (by omega)] at e
  cases e
  exact o_ixL h q
theorem o_nthST {cs : List (List Int)} {i : Int} (h0 : 0 ≤ i) (h1 : i < cs.length) (q : Q (.dat (tI (cs.getD i.toNat []))) O) : OpW K (rIxT K) (.dat (tS cs)) (iV i) O Q := by
  obtain ⟨d, h, e, _⟩ := atI_in (xs := cs.map fun c => tI c) h0 (by rw [List.length_map]; exact h1)
  rw [List.getElem?_map, getD_some (d := []) (by omega)] at e
  cases e
  exact o_ixT h q
/-- the last -/
theorem at_last {α : Type} {xs : List α} {d : α} (h : xs ≠ []) : atI xs (-1) = some (xs.getD (xs.length - 1) d) := by
  have hl : 0 < xs.length := List.length_pos_iff.mpr h
  unfold atI ixN
  rw [if_neg (by decide), if_pos (by omega)]
  show xs[((-1 : Int) + (xs.length : Int)).toNat]? = _
  rw [show ((-1 : Int) + (xs.length : Int)).toNat = xs.length - 1 by omega]
  exact getD_some (by omega)
theorem o_lastS {cs : List (List Int)} (h : cs ≠ []) (q : Q (.dat (tI (cs.getD (cs.length - 1) []))) O) : OpW K (rIxL K) (.dat (lS cs)) (iV (-1)) O Q := by
  refine o_ixL (d := tI (cs.getD (cs.length - 1) [])) ?_ q
  rw [at_last (d := .none) (by simpa using h)]
  congr 1
  rw [List.length_map, List.getD_eq_getElem?_getD, List.getElem?_map, getD_some (d := []) (by have := List.length_pos_iff.mpr h; omega)]
  rfl
end
theorem cut_length {α : Type} (xs : List α) (lo hi : Option Int) : (cut xs lo hi).length = min (HT.sIx xs.length xs.length hi - HT.sIx xs.length 0 lo) (xs.length - HT.sIx xs.length 0 lo) := by
  unfold cut
  rw [List.length_take, List.length_drop]
/-- lists of shapes of bounded sizes -/
def GoodX (n : Nat) (xs : List PyData) : Prop := ∃ o : List (List Int), xs = o.map (fun c => tI c) ∧ o.length ≤ n ∧ ∀ c ∈ o, c.length ≤ 1000
theorem GoodX.cut {n : Nat} {xs : List PyData} (h : GoodX n xs) (lo hi : Option Int) : GoodX n (cut xs lo hi) := by
  obtain ⟨o, rfl, h1, h2⟩ := h
  refine ⟨Wk.cut o lo hi, cut_map _ _ _ _, Nat.le_trans (cut_len _ _ _) h1, fun c hc => h2 c ?_⟩
  unfold Wk.cut at hc
  exact List.mem_of_mem_drop (List.mem_of_mem_take hc)
theorem GoodX.app {n m : Nat} {xs ys : List PyData} (h : GoodX n xs) (k : GoodX m ys) : GoodX (n + m) (xs ++ ys) := by
  obtain ⟨o, rfl, h1, h2⟩ := h
  obtain ⟨p, rfl, k1, k2⟩ := k
  refine ⟨o ++ p, by rw [List.map_append], by rw [List.length_append]; omega, fun c hc => ?_⟩
  rcases List.mem_append.mp hc with hc | hc
  · exact h2 c hc
  · exact k2 c hc
theorem GoodX.rev {n : Nat} {xs : List PyData} (h : GoodX n xs) : GoodX n xs.reverse := by
  obtain ⟨o, rfl, h1, h2⟩ := h
  exact ⟨o.reverse, by rw [List.map_reverse], by rw [List.length_reverse]; exact h1, fun c hc => h2 c (List.mem_reverse.mp hc)⟩
theorem GoodX.one {ns : List Int} (h : ns.length ≤ 1000) : GoodX 1 [tI ns] := ⟨[ns], rfl, Nat.le_refl _, fun c hc => by rw [List.mem_singleton.mp hc]; exact h⟩
theorem GoodX.len {n : Nat} {xs : List PyData} (h : GoodX n xs) : xs.length ≤ n := by
  obtain ⟨o, rfl, h1, h2⟩ := h
  rw [List.length_map]
  exact h1
section
variable {K : PySem.W.Frag} {O O' : Own} {ds : List SD} {Q : SD → Own → Prop} {x y : SD} {es : List PyData} {d e : PyData}
theorem Lst.ne (l : Lst O x es) : x ≠ .non := by
  cases l with
  | d => exact fun z => nomatch z
  | o _ _ => exact fun z => nomatch z
theorem Lst.weak (l : Lst O x es) (h : ∀ p ∈ O, p ∈ O') : Lst O' x es := by
  cases l with
  | d => exact .d
  | o hm hd => exact .o (h _ hm) hd
theorem w_vX {i : Nat} (h : ds[i]? = some x) (l : Lst O x es) (q : Q x O) : EvW K (tVar i) O ds Q := w_var h l.ne q
theorem o_nthG {cs : List (List Int)} {i : Int} (l : Lst O x (cs.map fun c => tI c)) (h0 : 0 ≤ i) (h1 : i < cs.length) (q : Q (.dat (tI (cs.getD i.toNat []))) O) : OpW K (rIxL K) x (iV i) O Q := by
  obtain ⟨d, h, e, _⟩ := atI_in (xs := cs.map fun c => tI c) h0 (by rw [List.length_map]; exact h1)
  rw [List.getElem?_map, getD_some (d := []) (by omega)] at e
  cases e
  exact g_ix l h q
/-- what may be compared: data, or an owned list of data -/
inductive Val (O : Own) : SD → PyData → Prop
  | d {d : PyData} : Val O (.dat d) d
  | l {x : SD} {es : List PyData} (h : Lst O x es) : Val O x (.list es)
theorem Val.dp {H Hk : Hp} (v : Val O x d) (h : Hold K Hk O H) {u : V} (hu : SDok K Hk u x) : Dp K H u d := by
  cases v with
  | d => exact (Da.mono h.kn hu).dp
  | l h1 =>
    obtain ⟨a, xs, rfl, g1, g2⟩ := h1.get h hu
    exact .lst (sq_of g1) (DaAll.mono h.kn g2).dp
theorem o_eqV (v1 : Val O x d) (v2 : Val O y e) (h1 : plB 8 d = true) (h2 : plB 8 e = true) (q : ∀ b, (b = true ↔ d = e) → Q (bV b) O) : OpW K (rEqD K) x y O Q := fun Hk H h u v hu hv Q' k =>
  ⟨d, e, v1.dp h hu, v2.dp h hv, pl_shaped h1 (by decide), pl_shaped h2 (by decide), k.now h (r := bV _) (.bl _) (q _ (eqv_iff 8 d e h1 h2))⟩
theorem o_neV (v1 : Val O x d) (v2 : Val O y e) (h1 : plB 8 d = true) (h2 : plB 8 e = true) (q : ∀ b, (b = true ↔ d = e) → Q (bV (!b)) O) : OpW K (rNeD K) x y O Q := fun Hk H h u v hu hv Q' k =>
  ⟨d, e, v1.dp h hu, v2.dp h hv, pl_shaped h1 (by decide), pl_shaped h2 (by decide), k.now h (r := bV _) (.bl _) (q _ (eqv_iff 8 d e h1 h2))⟩
end
theorem w_chain {K : PySem.W.Frag} {O : Own} {ds : List SD} {Q : SD → Own → Prop} {r r' : R2} {ta tb tc : TE} (h : EvW K ta O ds fun x O1 => EvW K tb O1 ds fun y O2 => OpW K r x y O2 fun z O3 => ∃ k, z = bV k ∧ (k = true → EvW K tc O3 ds fun w O4 => OpW K r' y w O4 Q) ∧ (k = false → Q (bV false) O3)) : EvW K (tChain r r' ta tb tc) O ds Q := fun Hk σ H p Q' k =>
  h Hk σ H p _ fun v1 x O1 Hk1 H1 e1 h1 s1 q1 => q1 Hk1 σ H1 (p.ext e1 h1) _ fun v2 y O2 Hk2 H2 e2 h2 s2 q2 =>
    q2 Hk2 H2 h2 v1 v2 (s1.mono e2) s2 _ fun v3 z O3 Hk3 H3 e3 h3 s3 q3 => by
      obtain ⟨c, rfl, qt, qf⟩ := q3
      cases (show Da Hk3 v3 (.bool c) from s3)
      refine ⟨c, rfl, ?_⟩
      cases c with
      | true => exact iteT (qt rfl Hk3 σ H3 (((p.ext e1 h1).ext e2 h2).ext e3 h3) _ fun v4 w O4 Hk4 H4 e4 h4 s4 q4 => q4 Hk4 H4 h4 v2 v4 (s2.mono (e3.trans e4)) s4 Q' (k.ext (e1.trans (e2.trans (e3.trans e4)))))
      | false => exact iteF (k _ (bV false) O3 Hk3 H3 (e1.trans (e2.trans e3)) h3 (.bl false) (qf rfl))
end Wk
namespace Wk
open PySem PySem.Spec PyProof.Rows L2
/-! ### enumerate of a tuple -/
theorem enumT_meets (a : Addr) (xs : Array Value) (n : Nat) (d0 : Option Addr) (sl : Array (Option Value)) :
    Meets (Builtin.«enumerate.__new__» ⟨[.type "enumerate", .ref a], []⟩) (fun _ R s => s.heap.get? a = some { cls := .type "tuple", dict := d0, data := .seq xs n, slots := sl } ∧
      R (.ok (.ret (.ref (s.heap.push { cls := .type "tuple_iterator", data := .fields #[.ref a, .int 0 0] }).objs.size)))
        { s with heap := (s.heap.push { cls := .type "tuple_iterator", data := .fields #[.ref a, .int 0 0] }).push { cls := .type "enumerate", data := .fields #[.none, .bool false, .ref s.heap.objs.size, rawInt 0, .none, .none] } }) :=
  .of_wp fun prog w A R s h => by
    obtain ⟨hp, g, dr, tk, os⟩ := s
    obtain ⟨ha, h⟩ := h
    have sub := sub_enumerate
    have hT : Heap.IsTuple (Shared.heap ⟨hp, g, dr, tk, os⟩) a xs := ⟨_, ha, rfl, n, rfl⟩
    wp_walk using AutoSeq1.wpAny_loadPart' ha
    refine wpAny_stack_any fun st => wpAny_pure ?_
    split
    · rename_i c _ _ _ _ _
      cases (c == Value.type "enumerate")
      · wp_walk using AutoSeq1.wpAny_loadPart' ha, wpAny_pyIter_tuple hT
        exact ⟨_, rfl, h⟩
      · wp_walk using AutoSeq1.wpAny_loadPart' ha, wpAny_pyIter_tuple hT
        exact ⟨_, rfl, h⟩
    · wp_walk using AutoSeq1.wpAny_loadPart' ha, wpAny_pyIter_tuple hT
      exact ⟨_, rfl, h⟩
theorem call_enumT {prog : Program} {w : World} {A : Around} {E : Value → Shared → Prop} {s : Shared} {a : Addr} {xs : Array Value} {Q : Value → Shared → Prop} (hT : s.heap.IsTuple a xs)
    (h : ∀ h', IsEnum h' (s.heap.objs.size + 1) s.heap.objs.size 0 .none → h'.IsTupleIter s.heap.objs.size a 0 → h'.objs.size = s.heap.objs.size + 2 → (∀ b o, s.heap.get? b = some o → h'.get? b = some o) →
      Q (.ref (s.heap.objs.size + 1)) { s with heap := h' }) : wpAny (model prog w) A (call (.type "enumerate") [.ref a]) Q E s := by
  obtain ⟨⟨c, d0, dt, sl⟩, ha, hc, n, hd⟩ := hT
  replace hc : c = .type "tuple" := hc
  replace hd : dt = .seq xs n := hd
  subst hc hd
  refine callType_new F.called_enumerate (by decide) (F.typeCall_enumerate_1 _) (F.newCall_enumerate_1 _) (fun ob => F.args_object_init_2 ob _) F.entry_enumerate_new (enumT_meets a xs n d0 sl) ⟨ha, ?_⟩
  have z1 : (s.heap.push { cls := .type "tuple_iterator", data := .fields #[.ref a, .int 0 0] }).objs.size = s.heap.objs.size + 1 := Heap.size_push ..
  show _ ∧ _
  rw [z1]
  have he : IsEnum ((s.heap.push { cls := .type "tuple_iterator", data := .fields #[.ref a, .int 0 0] }).push { cls := .type "enumerate", data := .fields #[.none, .bool false, .ref s.heap.objs.size, rawInt 0, .none, .none] }) (s.heap.objs.size + 1) s.heap.objs.size 0 .none := by
    have g := Heap.get?_push_size (s.heap.push { cls := .type "tuple_iterator", data := .fields #[.ref a, .int 0 0] }) (o := { cls := .type "enumerate", data := .fields #[.none, .bool false, .ref s.heap.objs.size, rawInt 0, .none, .none] }) rfl
    rw [z1] at g
    exact g
  refine ⟨⟨_, he, rfl⟩, h _ he ⟨_, Heap.get?_push_of_some _ (Heap.get?_push_size _ rfl), rfl, rfl⟩ ?_ fun b o y => Heap.get?_push_of_some _ (Heap.get?_push_of_some _ y)⟩
  rw [Heap.size_push, z1]
/-- a tuple's items, each in a new pair with its number -/
def IteT (K : PySem.W.Frag) (a : Addr) : It :=
  ⟨fun i H => ∃ (xs : List V) (x : V), SqT K H a xs ∧ xs[i]? = some x, fun i H v H' => ∃ T x, v = .ref T ∧ H T = none ∧ H' = upd H T (.tup [.int (i : Nat), x]) ∧ ∀ xs, SqT K H a xs → xs[i]? = some x, fun i H => ∃ xs : List V, SqT K H a xs ∧ xs.length = i⟩
theorem turn_enumT {P : Program} {w : World} {K : PySem.W.Frag} {elts : List Expr} {kk : Nat} {tpos : Pos} (a e it : Addr) (ne : e ≠ it) (na : a ≠ it) (nea : e ≠ a) :
    Turn P w K (.Tuple elts kk tpos) (IteT K a) [e, it] e (fun i h => (∃ old, IsEnum h e it ((i : Nat) : Int) old) ∧ h.IsTupleIter it a i) where
  mem := by simp
  obj := fun i h st b hb => by
    obtain ⟨⟨old, he⟩, ⟨o, ho, hc, hd⟩⟩ := st
    have e' : b = e ∨ b = it := by simpa using hb
    rcases e' with z | z
    · subst z
      exact ⟨_, he, fun v q => nomatch q⟩
    · subst z
      exact ⟨o, ho, fun v q => by rw [hd] at q; cases q⟩
  keep := fun i h h' st k => let ⟨⟨old, he⟩, hi⟩ := st; ⟨⟨old, k e (by simp) _ he⟩, hi.at fun o q => k it (by simp) o q⟩
  item := by
    intro X hP hw hK hc i pins s σ H E I hf st hg
    subst hP hw hK
    obtain ⟨⟨old, he⟩, hit⟩ := st
    obtain ⟨xs, x, hq, hx⟩ := hg
    obtain ⟨its, rv, p, hz⟩ := I.tuple hq
    obtain ⟨u, hu, ru⟩ := rv.get hx
    have hel : e < s.heap.objs.size := Heap.lt_size he
    have hil : it < s.heap.objs.size := by obtain ⟨_, q, _⟩ := hit; exact Heap.lt_size q
    have hlt : i < its.toArray.size := by
      have := (List.getElem?_eq_some_iff.mp hu).1
      simpa using this
    refine wpAny_pyNext_enum_itemD (Draws.tuple (A := X.A.in1) (show X.A.in1.handled = none from I.ok.hd hc) it a na its.toArray) he ⟨hit, show s.heap.IsTuple a its.toArray from p⟩ hlt ne (by simp [ne, nea]) fun x' h' tk hx' ho hst' hT hsz hk => ?_
    have ex : x' = u := by
      rw [List.getElem?_toArray, hu] at hx'
      exact (Option.some.inj hx').symm
    subst ex
    refine ⟨_, rfl, wpAny_letOwnedTupleGo_enum (s := { s with heap := h', toks := tk + 1 }) ho fun h'' he' sb => ?_⟩
    have hT2 : h''.get? s.heap.objs.size = some { cls := .type "tuple", data := .seq #[.int i tk, x'] } := (sb.2 _ (Nat.ne_of_gt hel)).trans hT
    have new : ObjOk X.prog X.w (upd H s.heap.objs.size (.tup [.int (i : Nat), x])) h'' s.heap.objs.size (.tup [.int (i : Nat), x]) :=
      ⟨by show 2 ≤ sizeLine; decide, [.int i tk, x'], .cons ⟨_, rfl⟩ (.cons ru .nil), ⟨_, hT2, rfl, _, rfl⟩⟩
    have I1 : Inv X pins σ (upd H s.heap.objs.size (.tup [.int (i : Nat), x])) { s with heap := h'', toks := tk + 1 } :=
      I.turnedNew (ch := [e, it]) (fun b ob hb q => (sb.2 b (fun z => hb (by simp [z]))).trans (hk b ob (fun z => hb (by simp [z])) (fun z => hb (by simp [z])) q)) hf (Nat.le_refl _) new
    refine ⟨.ref s.heap.objs.size, _, I1, rfl, ⟨_, x, rfl, I.hok.fresh (Nat.le_refl _), rfl, fun ys hy => by rw [I.tuple_inj hy hq]; exact hx⟩, ⟨⟨x', ?_⟩, hst'.1.at fun o q => (sb.2 it (Ne.symm ne)).trans q⟩, fun b hb => ?_⟩
    · have e1 : ((i + 1 : Nat) : Int) = (i : Int) + 1 := by omega
      rw [e1]
      exact he'
    · have hb' : b < s.heap.objs.size := by
        have e' : b = e ∨ b = it := by simpa using hb
        rcases e' with z | z
        · subst z; exact hel
        · subst z; exact hil
      rw [upd_ne (Nat.ne_of_lt hb')]
      exact (hf b hb).1
  done := by
    intro X hP hw hK hc i pins s σ H E I hf st hg
    subst hP hw hK
    obtain ⟨⟨old, he⟩, hit⟩ := st
    obtain ⟨xs, hq, hx⟩ := hg
    obtain ⟨its, rv, p, hz⟩ := I.tuple hq
    obtain ⟨f0, f1, f2, f3, f4, f5⟩ := hf it (by simp)
    have hl := rv.length
    have hs : its.toArray.size = i := by rw [List.size_toArray]; omega
    have hit2 : s.heap.IsTupleIter it a its.toArray.size := by rw [hs]; exact hit
    exact wpAny_pyNext_enum_endD (Draws.tuple (A := X.A.in1) (show X.A.in1.handled = none from I.ok.hd hc) it a na its.toArray) he ⟨hit2, show s.heap.IsTuple a its.toArray from p⟩ fun h' eb => ⟨rfl, I.turned (t' := s.toks) (fun b o hb q => eb b o hb q) f0 f1 f3 f4 f5⟩
  self := fun A i s Q E st h => let ⟨⟨_, he⟩, _⟩ := st; wpAny_pyIter_enum he h
def iEnumT (K : PySem.W.Frag) (ta : TA) : TI := fun σ H R => ta σ H fun vs H1 => ∃ a xs, vs = [.ref a] ∧ SqT K H1 a xs ∧ R (IteT K a) H1
theorem pi_enumT {X : Cx} (K : PySem.W.Frag) {e : Expr} {ta : TA} {p pos tpos : Pos} {elts : List Expr} {kk : Nat} (hg : Gl X "enumerate") (hm : X.mg "enumerate" = none) (ha : PA X [e] ta) (hK : X.K = K := by rfl) (hs : starEach [e] X.env = [(false, eval e X.env)] := by rfl) :
    PI X (.Tuple elts kk tpos) (.Call (.Name "enumerate" p) [e] [] pos) (iEnumT K ta) := by
  subst hK
  refine ⟨fun pins s σ H R I h => ?_⟩
  refine Call_ (ld_blt I hg hm boot_enumerate (PyProof.Rows.callWith_type1 (thn (ha.run pos pins s σ H _ I h) fun us s1 ⟨vs, H1, I1, r1, q1⟩ => ?_) hs rfl))
  obtain ⟨a, xs, ex, hq, q⟩ := q1
  subst ex
  cases r1 with
  | cons r rr =>
    cases rr
    cases r
    obtain ⟨its, rv, p', hz⟩ := I1.tuple hq
    have hT : s1.heap.IsTuple a its.toArray := p'
    have hal : a < s1.heap.objs.size := by obtain ⟨_, g, _⟩ := hT; exact Heap.lt_size g
    refine call_enumT hT fun h' he hit hsz hk => wpAny_pyIter_enum he ?_
    have I2 : Inv X pins σ H1 { s1 with heap := h' } := I1.kept (t' := s1.toks) hk
    refine ⟨s1.heap.objs.size + 1, [s1.heap.objs.size + 1, s1.heap.objs.size], _, _, H1, rfl, I2, turn_enumT a (s1.heap.objs.size + 1) s1.heap.objs.size (Nat.succ_ne_self _) (Nat.ne_of_lt hal) (Nat.ne_of_gt (Nat.lt_succ_of_lt hal)), ⟨⟨.none, he⟩, hit⟩, fun b hb => ?_, q⟩
    have e' : b = s1.heap.objs.size + 1 ∨ b = s1.heap.objs.size := by simpa using hb
    have hle : s1.heap.objs.size ≤ b := by
      rcases e' with z | z
      · rw [z]; exact Nat.le_add_right _ _
      · rw [z]; exact Nat.le_refl _
    exact I1.fpOk hle (I1.hok.fresh hle)
theorem pgTup {X : Cx} (K : PySem.W.Frag) {es : List Expr} {k : Nat} {pos : Pos} {t : TGs} {n : Nat} (hc : X.calm = true) (h : PGs X es t) (hK : X.K = K := by rfl) (hn : (assignEach es X.env).length = n := by rfl)
    (hst : (assignEach es X.env).findIdx? (·.1) = none := by rfl) : PG X (.Tuple es k pos) (gTup K n t) := hK ▸ pg_tup hc h hn hst
section
variable {K : PySem.W.Frag} {Hk Hk' H H' : Hp} {O O' : Own} {ds : List SD} {σ : L2.St} {Q : SD → Own → Prop} {A : AE}
/-- for i, x in enumerate(t), t data -/
theorem s_forET {ta : TA} {j1 j2 : Nat} {tb : TS} (h : AvW K ta O ds fun rs O1 => ∃ es : List PyData, rs = [.dat (.tuple es)] ∧ ∃ I : Nat → Own → List SD → Prop, I 0 O1 ds ∧
    (∀ (i : Nat) d O2 ds2, es[i]? = some d → I i O2 ds2 → ∀ B : AE, Bdy I i A B → StW K tb O2 ((ds2.set j1 (iV (i : Int))).set j2 (.dat d)) B) ∧ ∀ O2 ds2, I es.length O2 ds2 → A.nx O2 ds2) :
    StW K (tFor (iEnumT K ta) (gTup K 2 (gCons (gName j1) (gCons (gName j2) gNil))) tb) O ds A := fun Hk σ H D p l =>
  h Hk σ H p _ fun vs rs O1 Hk1 H1 e1 h1 s1 q1 => by
    obtain ⟨es, rfl, I, h0, hs, hd⟩ := q1
    obtain ⟨v, rfl, hv⟩ := all1 s1
    cases (show Da Hk1 v (.tuple es) from hv) with
    | @tup a xs _ g1 g2 =>
      refine ⟨a, xs, rfl, .inl (.inl (h1.kn _ _ g1)), fun i m σ H => m = xs.length - i ∧ i ≤ xs.length ∧ ∃ O2 ds2 Hk2, Same Hk1 Hk2 ∧ Pt K Hk2 O2 ds2 σ H ∧ I i O2 ds2, ⟨xs.length, by simp, Nat.zero_le _, O1, ds, Hk1, Same.refl _, p.ext e1 h1, h0⟩, ?_⟩
      rintro i m σ' H' ⟨rfl, hi, O2, ds2, Hk2, e, p2, q⟩
      have sq : SqT K H' a xs := .inl (.inl (p2.hold.kn _ _ (e _ _ g1)))
      by_cases hlt : i < xs.length
      · have hx : xs[i]? = some xs[i] := List.getElem?_eq_getElem hlt
        refine .inr ⟨⟨xs, xs[i], sq, hx⟩, fun σ2 H2 => ∃ O3 ds3 Hk3, Same Hk1 Hk3 ∧ Pt K Hk3 O3 ds3 σ2 H2 ∧ I (i + 1) O3 ds3, fun σ2 H2 hN => ⟨xs.length - (i + 1), by omega, rfl, hlt, hN⟩, fun x H2 y => ?_⟩
        obtain ⟨T, x', rfl, nT, rfl, fx⟩ := y
        have ex : x' = xs[i] := by
          have := fx xs sq
          rw [hx] at this
          exact (Option.some.inj this).symm
        obtain ⟨d, hd1, hd2⟩ := g2.getV hx
        have smT : Same Hk2 (upd Hk2 T (.tup [.int (i : Nat), x'])) := same_new (p2.hold.kn.free nT)
        have p3 : Pt K (upd Hk2 T (.tup [.int (i : Nat), x'])) O2 ds2 σ' (upd H' T (.tup [.int (i : Nat), x'])) := p2.ext smT (p2.hold.know nT)
        refine ⟨T, [.int (i : Nat), x'], rfl, .inl (.inl upd_same), rfl, .int (i : Nat), [x'], rfl, x', [], rfl, rfl, ?_⟩
        have hdx : SDok K (upd Hk2 T (.tup [.int (i : Nat), x'])) x' (.dat d) := by
          have := Da.mono (e.trans smT) hd2
          rw [← ex] at this
          exact this
        have e4 := e.trans smT
        exact hs i d O2 ds2 hd1 q _ .mk' _ _ _ _ ((p3.set (j := j1) (r := iV (i : Int)) (.int _)).set (j := j2) hdx) ⟨fun O3 ds3 Hk3 σ3 H3 e3 p3 q3 => ⟨O3, ds3, Hk3, e4.trans e3, p3, q3⟩, l.rt.ext (e1.trans e4), l.nx.ext (e1.trans e4), fun O3 ds3 Hk3 σ3 H3 e3 p3 q3 => ⟨O3, ds3, Hk3, e4.trans e3, p3, q3⟩, l.xt.ext (e1.trans e4)⟩
      · have ei : i = xs.length := by omega
        refine .inl ⟨⟨xs, sq, ei.symm⟩, ?_⟩
        rw [ei, g2.length] at q
        exact l.nx O2 ds2 Hk2 σ' H' (e1.trans e) p2 (hd O2 ds2 q)
end
end Wk
namespace Wk
open PySem PySem.Spec PyProof.Rows L2
/-! ### the sum of a tuple -/
theorem sum_rawT {prog : Program} {w : World} {A : Around} {E : Value → Shared → Prop} {s : Shared} {l : Addr} {its : List Value} {ns : List Int} {Q : Value → Shared → Prop} (hh : A.handled = none) (hl : s.heap.IsTuple l its.toArray) (hi : IntsAre its ns)
    (h : ∀ h' tk t', (∀ b o, s.heap.get? b = some o → h'.get? b = some o) → Q (.int ns.sum t') { s with heap := h', toks := tk }) : wpAny (model prog w) A (call (.builtin "sum") [.ref l]) Q E s := by
  obtain ⟨xs, e⟩ := hi.allInts.items
  have hn : numsOf (intItems xs).toList = ns := by rw [← e]; exact hi.numsOf
  rw [nums_intItems] at hn
  rw [e] at hl
  refine PySem.W.ktm_sumG hh hl fun h' tk t' hk => ?_
  have := h h' tk t' hk
  rw [preSum_eq, List.take_of_length_le (by simp), hn]
  exact this
def rSumT (K : PySem.W.Frag) : List V → Hp → VK → Prop := fun vs H Q => ∃ (a : Addr) (ns : List Int), vs = [V.ref a] ∧ SqT K H a (ns.map V.int) ∧ Q (.int ns.sum) H
theorem cr_sumT {X : Cx} (hc : X.calm = true) : CallR X (.builtin "sum") (rSumT X.K) := by
  intro pins s σ H vs us Q I r h
  obtain ⟨a, ns, rfl, hs, q⟩ := h
  obtain ⟨its, rv, hl, _⟩ := I.tuple hs
  rw [Vals.ref1 r]
  exact sum_rawT (I.ok.hd hc) hl rv.ints fun h' tk t' hk => ⟨.int _, H, I.kept hk, ⟨_, rfl⟩, q⟩
section
variable {X : Cx} (K : PySem.W.Frag)
theorem kSumT (hc : X.calm = true) (h : X.K = K := by rfl) : CallR X (.builtin "sum") (rSumT K) := h ▸ cr_sumT hc
end
section
variable {K : PySem.W.Frag} {O : Own} {Q : SD → Own → Prop}
theorem g_sumT {ns : List Int} (q : Q (iV ns.sum) O) : CbW K (rSumT K) [.dat (tI ns)] O Q := fun Hk H h us hus Q' k => by
  obtain ⟨u, rfl, hu⟩ := all1 hus
  cases (show Da Hk u (.tuple (ns.map .int)) from hu) with
  | @tup a xs _ h1 h2 =>
    rw [h2.ints] at h1
    exact ⟨_, ns, rfl, .inl (.inl (h.kn _ _ h1)), k.now h (r := iV _) (.int _) q⟩
variable {x : SD} {es : List PyData}
theorem g_repO {k : Int} (l1 : Lst O x es) (h0 : k ≤ 1000) (h00 : -1000 ≤ k) (hz : es.length ≤ 1000) (q : ∀ l, Q (.ad l) ((l, .lst ((List.replicate k.toNat es).flatten.map .dat)) :: O)) : OpW K rRep x (iV k) O Q := fun Hk H h u v hu hv Q' kk => by
  obtain ⟨a, xs, rfl, h1, h2⟩ := l1.get h hu
  cases (show Da Hk v (.int k) from hv)
  refine ⟨_, k, xs, rfl, rfl, h1, by omega, by omega, ?_, fun l hf => kk.newO h hf (h2.rep _) q⟩
  rw [h2.length]
  have h3 : es.length * k.toNat ≤ 1000 * 1000 := Nat.mul_le_mul hz (by omega)
  exact Nat.le_trans h3 (by decide)
theorem at_snoc {α : Type} (xs : List α) (x : α) : atI (xs ++ [x]) (-1) = some x := by
  rw [at_last (d := x) (by simp), List.getD_eq_getElem?_getD, List.length_append, List.length_singleton, Nat.add_sub_cancel, List.getElem?_append_right (Nat.le_refl _), Nat.sub_self]
  rfl
end
end Wk
namespace Wk
open PySem PySem.Spec PyProof.Rows L2
/-! ### what is owned, seen as data for a while -/
section
variable {K : PySem.W.Frag} {Hk H H' : Hp} {O : Own} {ds : List SD} {Q : SD → Own → Prop} {x y : SD} {d e : PyData}
theorem Hold.grow (h : Hold K Hk O H) (s : Same H H') : Hold K Hk O H' := ⟨h.kn.trans s, fun p hp => ⟨by
    obtain ⟨h1, _⟩ := h.ow p hp
    obtain ⟨a, o⟩ := p
    cases o with
    | lst rs =>
      obtain ⟨vs, g1, g2⟩ := h1
      exact ⟨vs, s _ _ g1, g2⟩
    | dK kvs =>
      obtain ⟨vs, g1, g2⟩ := h1
      exact ⟨vs, s _ _ g1, g2⟩
    | tup kvs =>
      obtain ⟨vs, g1, g2⟩ := h1
      exact ⟨vs, s _ _ g1, g2⟩
    | lstX vs kvs =>
      obtain ⟨g1, g2⟩ := h1
      exact ⟨s _ _ g1, g2⟩
    | obj o vs kvs =>
      obtain ⟨g1, g2⟩ := h1
      exact ⟨s _ _ g1, g2⟩, (h.ow p hp).2⟩, h.nd⟩
/-- the data that it reads as, now -/
def VD (K : PySem.W.Frag) (O : Own) (x : SD) (d : PyData) : Prop := ∀ (Hk H : Hp), Hold K Hk O H → ∀ u : V, SDok K Hk u x → Da H u d
inductive VDs (K : PySem.W.Frag) (O : Own) : List SD → List PyData → Prop
  | nil : VDs K O [] []
  | cons {x : SD} {d : PyData} {rs : List SD} {es : List PyData} : VD K O x d → VDs K O rs es → VDs K O (x :: rs) (d :: es)
theorem VD.kn : VD K O (.dat d) d := fun _ _ h _ hu => Da.mono h.kn hu
theorem VDs.kn : ∀ es : List PyData, VDs K O (es.map SD.dat) es
  | [] => .nil
  | _ :: r => .cons VD.kn (VDs.kn r)
theorem VDs.all {Hk H : Hp} (h : Hold K Hk O H) : ∀ {rs : List SD} {es : List PyData} {vs : List V}, VDs K O rs es → SDall K Hk vs rs → DaAll H vs es
  | _, _, _, .nil, .nil => .nil
  | _, _, _, .cons a r, .cons b s => .cons (a _ _ h _ b) (VDs.all h r s)
theorem VD.o {a : Addr} {rs : List SD} {es : List PyData} (hm : (a, OD.lst rs) ∈ O) (hv : VDs K O rs es) : VD K O (.ad a) (.list es) := fun Hk H h u hu => by
  obtain ⟨⟨vs, h1, h2⟩, _⟩ := h.ow _ hm
  cases (show u = .ref a from hu)
  exact .lst h1 (hv.all h h2)
theorem VD.o' {a : Addr} {rs : List SD} {es : List PyData} (hm : (a, OD.lst rs) ∈ O) (hd : Dats rs es) : VD K O (.ad a) (.list es) := by
  obtain rfl := hd.eq
  exact VD.o hm (VDs.kn es)
theorem o_eqW (v1 : VD K O x d) (v2 : VD K O y e) (h1 : plB 8 d = true) (h2 : plB 8 e = true) (q : ∀ b, (b = true ↔ d = e) → Q (bV b) O) : OpW K (rEqD K) x y O Q := fun Hk H h u v hu hv Q' k =>
  ⟨d, e, (v1 _ _ h _ hu).dp, (v2 _ _ h _ hv).dp, pl_shaped h1 (by decide), pl_shaped h2 (by decide), k.now h (r := bV _) (.bl _) (q _ (eqv_iff 8 d e h1 h2))⟩
theorem o_neW (v1 : VD K O x d) (v2 : VD K O y e) (h1 : plB 8 d = true) (h2 : plB 8 e = true) (q : ∀ b, (b = true ↔ d = e) → Q (bV (!b)) O) : OpW K (rNeD K) x y O Q := fun Hk H h u v hu hv Q' k =>
  ⟨d, e, (v1 _ _ h _ hu).dp, (v2 _ _ h _ hv).dp, pl_shaped h1 (by decide), pl_shaped h2 (by decide), k.now h (r := bV _) (.bl _) (q _ (eqv_iff 8 d e h1 h2))⟩
/-- [.. for x in xs if t], where the test says no to every one -/
theorem w_lcNone {tl : TE} {j : Nat} {tt : TT} {te : TE} (h : EvW K tl O ds fun r O1 => ∃ es : List PyData, VD K O1 r (.list es) ∧
    (∀ (i : Nat) (d : PyData) (Dl : Addr), es[i]? = some d → TvW K tt [(Dl, OD.lst [])] (ds.set j (.dat d)) fun b O3 => b = false ∧ O3 = [(Dl, OD.lst [])]) ∧ ∀ Dl, Q (.ad Dl) ((Dl, .lst []) :: O1)) : EvW K (tLc (iList K tl) (gName j) tt te [j]) O ds Q := fun Hk σ H p Q' k =>
  h Hk σ H p _ fun v r O1 Hk1 H1 e1 h1 s1 q1 => by
    obtain ⟨es, hv, hs, hd⟩ := q1
    cases (hv _ _ h1 _ s1) with
    | @lst a xs _ g1 g2 =>
    have h0 : Hold K H1 [] H1 := ⟨Same.refl _, fun _ h => absurd h List.not_mem_nil, List.nodup_nil⟩
    refine ⟨a, rfl, ⟨xs, .inl (.inl g1)⟩, fun Dl hf => lc_list (xs := xs) (fun i H => ∃ Hk2, Same H1 Hk2 ∧ Hold K Hk2 [(Dl, OD.lst [])] H)
      ⟨H1, Same.refl _, h0.own hf .nil⟩ (fun i H2 _ ⟨Hk2, e2, hh⟩ => .inl (.inl (hh.kn _ _ (e2 _ _ g1)))) (fun i x H2 hi hP => ?_) (fun H2 hP => ?_)⟩
    · obtain ⟨Hk2, e2, hh⟩ := hP
      obtain ⟨d, hd1, hd2⟩ := g2.getV hi
      have pp : Pt K Hk2 [] ds σ H2 := ⟨hh.sub (List.nil_sublist _), p.len, fun i r hr => (p.env i r hr).imp id fun ⟨v, a, b⟩ => ⟨v, a, b.mono (e1.trans (h1.kn.trans e2))⟩⟩
      refine lc_turn (d := .dat d) (acc := []) (O2 := []) (Dl := Dl) (P' := fun H => ∃ Hk2, Same H1 Hk2 ∧ Hold K Hk2 [(Dl, OD.lst [])] H) (I' := fun acc2 O3 => acc2 = [] ∧ O3 = []) ?_ (by decide) pp hh (Da.mono e2 hd2) ?_
      · intro Dl2 Hk3 σ3 H3 p3 Q3 k3
        refine hs i d Dl2 hd1 Hk3 σ3 H3 p3 Q3 fun b O3 Hk4 H4 e4 h4 q4 => k3 b O3 Hk4 H4 e4 h4 ⟨fun hb => ?_, fun hb => ?_⟩
        · rw [q4.1] at hb
          cases hb
        · rw [q4.2]
          exact ⟨[], .refl _, rfl, rfl⟩
      · rintro _ _ Hk3 H3 e3 hh3 ⟨rfl, rfl⟩
        exact ⟨Hk3, e2.trans e3, hh3⟩
    · obtain ⟨Hk2, e2, hh⟩ := hP
      have h5 := h1.own hf (rs := []) .nil
      refine k _ (.ad Dl) _ Hk1 H2 e1 (h5.grow fun b o hb => ?_) rfl (hd Dl)
      obtain ⟨⟨vs, g3, g4⟩, _⟩ := hh.ow _ List.mem_cons_self
      cases g4
      by_cases z : b = Dl
      · subst z
        rw [show upd H1 b (.lst []) b = some (.lst []) from by simp [upd]] at hb
        rw [← hb]
        exact g3
      · rw [show upd H1 Dl (.lst []) b = H1 b from by simp [upd, z]] at hb
        exact hh.kn _ _ (e2 _ _ hb)
end
end Wk
namespace Wk
open PySem PySem.Spec PyProof.Rows L2
/-! ### the greatest of a tuple -/
section
variable {prog : Program} {w : World} {A : Around} {E : Value → Shared → Prop} {s : Shared} {l : Addr}
theorem max_tupInts {xs : Array (Int × Tok)} {Q : Value → Shared → Prop} (hh : A.handled = none) (ht : s.heap.IsTuple l (intItems xs)) (hne : 0 < xs.size)
    (h : ∀ v h' tk, (intItems xs)[argBest (fun i j => decide (numAt xs i > numAt xs j)) (xs.size - 1)]? = some v → (∀ b o, s.heap.get? b = some o → h'.get? b = some o) → Q v { s with heap := h', toks := tk }) :
    wpAny (model prog w) A (call (.builtin "max") [.ref l]) Q E s := by
  obtain ⟨o, ho, hc, n, hd⟩ := id ht
  have hn2 : l ≠ s.heap.objs.size := Nat.ne_of_lt (Heap.lt_size ho)
  refine call_max_walk (wpAny_pyIter_tuple ht ?_)
  refine ⟨s.heap.objs.size, _, _, _, _, _, _, rfl, Walks.tuple (A := A.in1) hh s.heap.objs.size l hn2 (intItems xs), ⟨⟨_, Heap.get?_push_size _ rfl, rfl, rfl⟩, ht.at fun o e => Heap.get?_push_of_some _ e⟩, fun b hb => ?_, by simpa [intItems] using hne, CmpOf.ints_gt (numAt xs) (fun _ _ => intItems_at), fun v h' tk hP hk => ?_⟩
  · rcases List.mem_cons.mp hb with rfl | hb
    · exact Heap.lt_size (Heap.get?_push_size _ rfl)
    · obtain rfl := List.mem_singleton.mp hb
      exact Heap.lt_size (Heap.get?_push_of_some _ ho)
  · exact h v h' tk (by simpa [intItems] using hP) fun b o e => hk b o (fun hb => absurd (Heap.lt_size e) ((List.mem_singleton.mp hb) ▸ Nat.lt_irrefl _)) (Heap.get?_push_of_some _ e)
theorem max_rawT {its : List Value} {ns : List Int} {Q : Value → Shared → Prop} (hh : A.handled = none) (hl : s.heap.IsTuple l its.toArray) (hi : IntsAre its ns) (hne : 0 < ns.length)
    (h : ∀ h' tk M t', (∀ b o, s.heap.get? b = some o → h'.get? b = some o) → M ∈ ns → (∀ a, a ∈ ns → a ≤ M) → Q (.int M t') { s with heap := h', toks := tk }) : wpAny (model prog w) A (call (.builtin "max") [.ref l]) Q E s := by
  obtain ⟨xs, e⟩ := hi.allInts.items
  have hn : numsOf (intItems xs).toList = ns := by rw [← e]; exact hi.numsOf
  rw [nums_intItems] at hn
  subst hn
  rw [e] at hl
  have hsz : 0 < xs.size := by simpa using hne
  refine max_tupInts hh hl hsz fun v h' tk hv hk => ?_
  obtain ⟨t, rfl⟩ := intItems_at hv
  obtain ⟨h1, h2⟩ := argBest_gt (numAt xs) (xs.size - 1)
  refine h h' tk _ t hk ?_ fun a ha => ?_
  · rw [numAt_eq]; exact PySem.getD_mem (by rw [List.length_map, Array.length_toList]; omega)
  · obtain ⟨i, hi, rfl⟩ := List.mem_iff_getElem.mp ha
    have hi2 : i < xs.size := by simpa using hi
    have := h2 i (by omega)
    rw [numAt_eq xs i, List.getD_eq_getElem?_getD, List.getElem?_eq_getElem hi] at this
    exact this
end
def rMaxT (K : PySem.W.Frag) : List V → Hp → VK → Prop := fun vs H Q => ∃ (a : Addr) (ns : List Int), vs = [V.ref a] ∧ SqT K H a (ns.map V.int) ∧ 0 < ns.length ∧ ∀ m, m ∈ ns → (∀ y, y ∈ ns → y ≤ m) → Q (.int m) H
theorem cr_maxT {X : Cx} (hc : X.calm = true) : CallR X (.builtin "max") (rMaxT X.K) := by
  intro pins s σ H vs us Q I r h
  obtain ⟨a, ns, rfl, hs, hne, q⟩ := h
  obtain ⟨its, rv, hl, _⟩ := I.tuple hs
  rw [Vals.ref1 r]
  exact max_rawT (I.ok.hd hc) hl rv.ints hne fun h' tk m t' hk h1 h2 => ⟨.int _, H, I.kept hk, ⟨_, rfl⟩, q m h1 h2⟩
section
variable {X : Cx} (K : PySem.W.Frag)
theorem kMaxT (hc : X.calm = true) (h : X.K = K := by rfl) : CallR X (.builtin "max") (rMaxT K) := h ▸ cr_maxT hc
end
section
variable {K : PySem.W.Frag} {O : Own} {Q : SD → Own → Prop}
theorem g_maxT {ns : List Int} (hn : 0 < ns.length) (q : ∀ m, m ∈ ns → (∀ y ∈ ns, y ≤ m) → Q (iV m) O) : CbW K (rMaxT K) [.dat (tI ns)] O Q := fun Hk H h us hus Q' k => by
  obtain ⟨u, rfl, hu⟩ := all1 hus
  cases (show Da Hk u (.tuple (ns.map .int)) from hu) with
  | @tup a xs _ h1 h2 =>
    rw [h2.ints] at h1
    exact ⟨_, ns, rfl, .inl (.inl (h.kn _ _ h1)), hn, fun m hm hy => k.now h (r := iV m) (.int m) (q m hm hy)⟩
end
end Wk
namespace Wk
open PySem PySem.Spec PyProof.Rows L2
/-! ### a tuple, one time and more -/
theorem tuple_mul1 (l : Addr) (items : Array Value) (n : Nat) (dd : Option Addr) (sl : Array (Option Value)) (x : Int) (u : Tok) (c0 : (decide (x < -(2 ^ 63)) || decide (x ≥ 2 ^ 63)) = false) (c1 : (items.isEmpty || x == 1) = true) :
    Meets (Builtin.«tuple.__mul__» ⟨[.ref l, .int x u], []⟩) (fun _ R s => s.heap.get? l = some { cls := .type "tuple", dict := dd, data := .seq items n, slots := sl } ∧ R (.ok (.ret (Value.ref l))) s) :=
  .of_wp fun prog w A R s h => by
    obtain ⟨hp, g, d, tk, os⟩ := s
    obtain ⟨hl, h⟩ := h
    have f1 := AutoSeq1.idx_int
    wp_walk using wpAny_loadPart' hl
    repeat (first
      | (refine wpAny_ite_false (decide_eq_false (by rw [c0]; exact Bool.false_ne_true)) ?_; wp_walk using wpAny_loadPart' hl)
      | (refine wpAny_ite_true (decide_eq_true (by rw [c1])) ?_; wp_walk using wpAny_loadPart' hl))
    exact ⟨_, rfl, h⟩
def rRep1 (K : PySem.W.Frag) : R2 := fun x y H Q => rRepT K x y H Q ∨ ∃ l xs, x = .ref l ∧ y = .int 1 ∧ SqT K H l xs ∧ Q (.ref l) H
theorem op_rep1 {X : Cx} : OpR X (binaryOp .Mult) (rRep1 X.K) := by
  intro pins s σ H x y v u Q I rx ry h
  rcases h with h | h
  · exact op_repT pins s σ H x y v u Q I rx ry h
  obtain ⟨l, xs, rfl, rfl, hT, q⟩ := h
  cases rx
  obtain ⟨t, rfl⟩ := ry
  obtain ⟨its, r, ⟨⟨cls, dd, data, sl⟩, ho, hc, n, hd⟩, hs⟩ := I.tuple hT
  simp only at hc hd
  subst hc hd
  refine wpAny_binaryOp_repeat_ref (T := "tuple") (U := "int") (by decide) ⟨_, ho, rfl⟩ (fun s' => typeIs_int s' 1 t) noFill_tuple_mul F.fills_int_mul F.slot_int_rmul repeat_tuple F.slot_int_index.lookup
    (call_meets F.slot_int_rmul (typeIs_int s 1 t) F.entry_int_rmul (F.args_int_rmul_2 _ _) (int_rmul_tuple 1 t l its.toArray n dd sl)
      ⟨ho, rfl, ⟨_, ho, rfl⟩, call_meets F.slot_tuple_mul ⟨_, ho, rfl⟩ F.entry_tuple_mul (F.args_tuple_mul_2 _ _) (tuple_mul1 l its.toArray n dd sl 1 t (by decide) (by simp)) ⟨ho, ?_⟩⟩)
  exact ⟨.ref l, H, I.kept (t' := s.toks) (fun _ _ q => q), rfl, q⟩
section
variable {X : Cx} (K : PySem.W.Frag)
theorem kRep1 (h : X.K = K := by rfl) : OpR X (binaryOp .Mult) (rRep1 K) := h ▸ op_rep1
end
section
variable {K : PySem.W.Frag} {O : Own} {Q : SD → Own → Prop}
theorem rep_one {α : Type} (x : α) : ∀ n : Nat, (List.replicate n [x]).flatten = List.replicate n x
  | 0 => rfl
  | n + 1 => by
    rw [List.replicate_succ, List.flatten_cons, rep_one x n, List.replicate_succ]
    rfl
theorem g_rep1 {d : PyData} {k : Int} (h0 : 1 ≤ k) (h1 : k ≤ 1000) (q : Q (.dat (.tuple (List.replicate k.toNat d))) O) : OpW K (rRep1 K) (.dat (.tuple [d])) (iV k) O Q := fun Hk H h u v hu hv Q' kk => by
  cases (show Da Hk v (.int k) from hv)
  cases (show Da Hk u (.tuple [d]) from hu) with
  | @tup a xs _ g1 g2 =>
    by_cases e : k = 1
    · subst e
      exact .inr ⟨a, xs, rfl, rfl, .inl (.inl (h.kn _ _ g1)), kk.now h (r := .dat (.tuple [d])) (.tup g1 g2) q⟩
    · have hl : xs.length = 1 := g2.length
      refine .inl ⟨a, k, xs, rfl, rfl, .inl (.inl (h.kn _ _ g1)), (fun z => by rw [z] at hl; cases hl), by omega, h1, by omega, fun l hf => ?_⟩
      have sm := same_new (o := .tup (List.replicate k.toNat xs).flatten) (h.kn.free hf)
      refine kk _ (.dat (.tuple (List.replicate k.toNat d))) O _ _ sm (h.know hf) (.tup upd_same (DaAll.mono sm ?_)) q
      have e2 := g2.rep k.toNat
      rw [rep_one d] at e2
      exact e2
end
end Wk
namespace Wk
open PySem PySem.Spec PyProof.Rows L2
/-! ### errors: raised, let through, caught -/
/-- what is wanted of an error, met: W is told the slots too -/
def KonX (K : PySem.W.Frag) (Hk : Hp) (Qx : Addr → Option (Str × PyData) → Own → Prop) (E : XK) : Prop :=
  ∀ cls d C fs O2 Hk2 H2, Same Hk Hk2 → Hold K Hk2 O2 H2 → XDok Hk2 cls d C fs → Qx C fs O2 → E cls d H2
def KonW (K : PySem.W.Frag) (Hk : Hp) (Qs : Addr → Option (Str × PyData) → Own → List SD → Prop) (W : WX) : Prop :=
  ∀ cls d C fs σ O2 ds2 Hk2 H2, Same Hk Hk2 → Pt K Hk2 O2 ds2 σ H2 → XDok Hk2 cls d C fs → Qs C fs O2 ds2 → W cls d σ H2
/-- the promise of a def that may raise -/
def spX (K : PySem.W.Frag) (pre : List SD → Own → (SD → Own → Prop) → (Addr → Option (Str × PyData) → Own → Prop) → Prop) : Sp := fun vs H Q' E =>
  ∃ Hk O rs Q Qx, Hold K Hk O H ∧ SDall K Hk vs rs ∧ pre rs O Q Qx ∧ Kont K Hk Q Q' ∧ KonX K Hk Qx E
/-- an expression that may let an error out, to W -/
def EvX (K : PySem.W.Frag) (W : WX) (Qs : Addr → Option (Str × PyData) → Own → List SD → Prop) (t : TE) (O : Own) (ds : List SD) (Q : SD → Own → Prop) : Prop :=
  ∀ Hk σ H, Pt K Hk O ds σ H → KonW K Hk Qs W → ∀ Q' : VK, Kont K Hk Q Q' → t σ H Q'
section
variable {K : PySem.W.Frag} {Hk Hk' H H' : Hp} {O O' Oa : Own} {ds : List SD} {σ : L2.St} {Q : SD → Own → Prop} {Q' : VK} {x y : SD} {A : AE} {D : Ends} {t u : TS} {te : TE} {ta : TA} {W : WX}
  {Qs : Addr → Option (Str × PyData) → Own → List SD → Prop} {Qx : Addr → Option (Str × PyData) → Own → Prop} {preX : List SD → Own → (SD → Own → Prop) → (Addr → Option (Str × PyData) → Own → Prop) → Prop}
theorem KonX.ext {E : XK} (k : KonX K Hk Qx E) (e : Same Hk Hk') : KonX K Hk' Qx E := fun cls d C fs O2 Hk2 H2 e2 => k cls d C fs O2 Hk2 H2 (e.trans e2)
theorem KonW.ext (k : KonW K Hk Qs W) (e : Same Hk Hk') : KonW K Hk' Qs W := fun cls d C fs σ O2 ds2 Hk2 H2 e2 => k cls d C fs σ O2 ds2 Hk2 H2 (e.trans e2)
theorem x_of (h : EvW K te O ds Q) : EvX K W Qs te O ds Q := fun Hk σ H p _ Q' k => h Hk σ H p Q' k
theorem x_call (h : AvW K ta O ds fun rs O1 => preX rs O1 Q fun C fs O2 => Qs C fs O2 ds) : EvX K W Qs (tCallS (spX K preX) (WE W) ta) O ds Q := fun Hk σ H p kw Q' k =>
  h Hk σ H p _ fun vs rs O1 Hk1 H1 e1 h1 s1 q1 => ⟨Hk1, O1, rs, Q, _, h1, s1, q1, k.ext e1, fun cls d C fs O2 Hk2 H2 e2 h2 ok q => kw cls d C fs σ O2 ds Hk2 H2 (e1.trans e2) (p.ext (e1.trans e2) h2) ok q⟩
theorem sx_ret (hW : ∀ Hk, A.xt Hk → KonW K Hk Qs W) (h : EvX K W Qs te O ds A.rt) : StW K (tRet te) O ds A := fun Hk σ H D p l => h Hk σ H p (hW Hk (l.xt Hk (Same.refl _))) _ l.rt
theorem sx_asg {i : Nat} (hW : ∀ Hk, A.xt Hk → KonW K Hk Qs W) (h : EvX K W Qs te O ds fun r O1 => A.nx O1 (ds.set i r)) : StW K (tAsg te (gName i)) O ds A := fun Hk σ H D p l =>
  h Hk σ H p (hW Hk (l.xt Hk (Same.refl _))) _ fun v r O1 Hk1 H1 e1 h1 s1 q1 => l.nx O1 _ Hk1 _ H1 e1 ((p.ext e1 h1).set s1) q1
/-- a, b = e: a pair of data -/
def unp2 (te : TE) (K : PySem.W.Frag) (i j : Nat) : TS := tAsg te (gTup K 2 (gCons (gName i) (gCons (gName j) gNil)))
theorem unp2_go {i j : Nat} {d e : PyData} {v : V} {Hk1 H1 : Hp} {O1 : Own} (p1 : Pt K Hk1 O1 ds σ H1) (s1 : Da Hk1 v (.tuple [d, e])) (e1 : Same Hk Hk1) (l : Post K Hk A.nx D.nx) (q : A.nx O1 ((ds.set i (.dat d)).set j (.dat e))) :
    gTup K 2 (gCons (gName i) (gCons (gName j) gNil)) v σ H1 D.nx := by
  cases s1 with
  | @tup a xs _ h1 h2 =>
    cases h2 with
    | @cons v1 _ _ _ g1 r =>
      cases r with
      | @cons v2 _ _ _ g2 r =>
        cases r
        refine ⟨a, [v1, v2], rfl, .inl (.inl (p1.hold.kn _ _ h1)), rfl, v1, [v2], rfl, v2, [], rfl, rfl, ?_⟩
        exact l O1 _ Hk1 _ H1 e1 ((p1.set (j := i) (r := .dat d) g1).set (j := j) (r := .dat e) g2) q
theorem s_unp2 {i j : Nat} (h : EvW K te O ds fun r O1 => ∃ d e, r = .dat (.tuple [d, e]) ∧ A.nx O1 ((ds.set i (.dat d)).set j (.dat e))) : StW K (tAsg te (gTup K 2 (gCons (gName i) (gCons (gName j) gNil)))) O ds A := fun Hk σ H D p l =>
  h Hk σ H p _ fun v r O1 Hk1 H1 e1 h1 s1 q1 => by
    obtain ⟨d, e, rfl, q⟩ := q1
    exact unp2_go (p.ext e1 h1) s1 e1 l.nx q
theorem sx_unp2 {i j : Nat} (hW : ∀ Hk, A.xt Hk → KonW K Hk Qs W) (h : EvX K W Qs te O ds fun r O1 => ∃ d e, r = .dat (.tuple [d, e]) ∧ A.nx O1 ((ds.set i (.dat d)).set j (.dat e))) : StW K (tAsg te (gTup K 2 (gCons (gName i) (gCons (gName j) gNil)))) O ds A := fun Hk σ H D p l =>
  h Hk σ H p (hW Hk (l.xt Hk (Same.refl _))) _ fun v r O1 Hk1 H1 e1 h1 s1 q1 => by
    obtain ⟨d, e, rfl, q⟩ := q1
    exact unp2_go (p.ext e1 h1) s1 e1 l.nx q
/-! ### raise -/
/-- raise X('..'), X without an __init__ -/
def tRz (C : Addr) (W : WX) : TS := fun _ σ H => W (.ref C) none σ H
theorem s_rz {C : Addr} (hW : ∀ Hk, A.xt Hk → KonW K Hk Qs W) (q : Qs C none O ds) : StW K (tRz C W) O ds A := fun Hk σ H D p l =>
  hW Hk (l.xt Hk (Same.refl _)) (.ref C) none C none σ O ds Hk H (Same.refl _) p ⟨rfl, rfl⟩ q
/-- self.f = v of an exception that is being made: its __init__ -/
def spIni (C : Addr) (f : Str) : Sp := fun vs H Q _ => ∃ (a : Addr) (v : V), vs = [.ref a, v] ∧ H a = some (exo a C none) ∧ ∀ dx, H dx = none → dx ≠ a → Q .non (upd (upd H dx (exd dx [(f, v)])) a (exo a C (some dx)))
/-- raise X(e), X's __init__ keeps e as its field f -/
def tRzI (C : Addr) (f : Str) (W : WX) (ta : TA) : TS := fun _ σ H => tMkO C (spIni C f) [] ta σ H fun cls d H' => W cls d σ H'
theorem s_rzI {C : Addr} {f : Str} (hW : ∀ Hk, A.xt Hk → KonW K Hk Qs W) (h : AvW K ta O ds fun rs O1 => ∃ d, rs = [.dat d] ∧ Qs C (some (f, d)) O1 ds) : StW K (tRzI C f W ta) O ds A := fun Hk σ H D p l =>
  h Hk σ H p _ fun vs rs O1 Hk1 H1 e1 h1 s1 q1 => by
    obtain ⟨x, rfl, q⟩ := q1
    obtain ⟨v, rfl, hv⟩ := all1 s1
    refine ⟨Nat.le_of_ble_eq_true rfl, fun a ha => ⟨a, v, rfl, upd_same, fun dx hdx hne => ⟨rfl, dx, [(f, v)], upd_same, by rw [upd_ne hne]; exact upd_same, ?_, ?_⟩⟩⟩
    · rw [upd_ne hne] at hdx
      exact hdx
    · rw [upd_ne hne] at hdx
      have eH : upd (del (upd (upd (upd H1 a (exo a C none)) dx (exd dx [(f, v)])) a (exo a C (some dx))) a) dx (.xd [(f, v)]) = upd H1 dx (.xd [(f, v)]) := by
        funext b
        by_cases hb : b = dx
        · rw [hb, upd_same, upd_same]
        · rw [upd_ne hb, upd_ne hb]
          by_cases hba : b = a
          · rw [hba, del_same, ha]
          · rw [del_ne hba, upd_ne hba, upd_ne hb, upd_ne hba]
      rw [eH]
      have sm : Same Hk1 (upd Hk1 dx (.xd [(f, v)])) := same_new (h1.kn.free hdx)
      exact hW Hk (l.xt Hk (Same.refl _)) (.ref C) (some dx) C (some (f, x)) σ O1 ds _ _ (e1.trans sm) (p.ext (e1.trans sm) (h1.know hdx)) ⟨rfl, dx, v, rfl, upd_same, Da.mono sm hv⟩ q
/-! ### try .. except X as n -/
/-- try .. except X as n -/
def tTry (K : PySem.W.Frag) (c : Value) (i : Nat) (tb : WX → TS) (ts : Addr → Value → Option Addr → TS) (Wout : WX) : TS := fun D σ H => tb (wAs K c i ts Wout D) D σ H
theorem s_try {c : Value} {i : Nat} {tb : WX → TS} {ts : Addr → Value → Option Addr → TS} {Wout : WX} (Qs : Addr → Option (Str × PyData) → Own → List SD → Prop)
    (hb : ∀ W : WX, StW K (tb W) O ds { A with xt := fun Hk => KonW K Hk Qs W })
    (hs : ∀ C fs O2 ds2, Qs C fs O2 ds2 → PySem.W.exmOne K (.ref C) c = some true ∧ ∀ (a : Addr) (cls : Value) (d : Option Addr), ∀ B : AE,
      (∀ O3 ds3, A.nx O3 (ds3.set i .non) → B.nx O3 ds3) → (∀ r O3, A.rt r O3 → B.rt r O3) → (∀ O3 ds3, A.bk O3 (ds3.set i .non) → B.bk O3 ds3) → (∀ O3 ds3, A.ct O3 (ds3.set i .non) → B.ct O3 ds3) →
      StW K (ts a cls d) O2 (ds2.set i (.exc a cls d C fs)) B) : StW K (tTry K c i tb ts Wout) O ds A := fun Hk σ H D p l => by
  have setN : ∀ {Hk2 H2 : Hp} {σ2 : L2.St} {O2 : Own} {ds2 : List SD}, Pt K Hk2 O2 ds2 σ2 H2 → Pt K Hk2 O2 (ds2.set i .non) (σ2.set i none) H2 := fun {Hk2 H2 σ2 O2 ds2} p2 =>
    ⟨p2.hold, by rw [List.length_set, List.length_set, p2.len], fun j r hr => by
      by_cases hj : j = i
      · subst hj
        have hl : j < (ds2.set j SD.non).length := (List.getElem?_eq_some_iff.mp hr).1
        rw [List.length_set] at hl
        rw [List.getElem?_set_self hl] at hr
        cases hr
        exact .inl rfl
      · rw [List.getElem?_set_ne (Ne.symm hj)] at hr
        rw [List.getElem?_set_ne (Ne.symm hj)]
        exact p2.env j r hr⟩
  refine hb (wAs K c i ts Wout D) Hk σ H D p ⟨l.nx, l.rt, l.bk, l.ct, fun Hk' e' cls d C fs σ2 O2 ds2 Hk2 H2 e2 p2 ok q => ?_⟩
  obtain ⟨ec, hsu⟩ := hs C fs O2 ds2 q
  have ec2 := ok.1
  subst ec2
  refine ⟨true, ec, fun _ a ha => ?_, fun z => Bool.noConfusion z⟩
  have e := e'.trans e2
  refine hsu a (.ref C) d ⟨fun O3 ds3 => A.nx O3 (ds3.set i .non), A.rt, fun O3 ds3 => A.bk O3 (ds3.set i .non), fun O3 ds3 => A.ct O3 (ds3.set i .non), fun _ => True⟩ (fun _ _ z => z) (fun _ _ z => z) (fun _ _ z => z) (fun _ _ z => z)
    Hk2 _ H2 _ (p2.set (j := i) (r := .exc a (.ref C) d C fs) (v := .ref a) ⟨rfl, ok⟩) ⟨fun O3 ds3 Hk3 σ3 H3 e3 p3 q3 => l.nx O3 _ Hk3 _ H3 (e.trans e3) (setN p3) q3, l.rt.ext e, fun O3 ds3 Hk3 σ3 H3 e3 p3 q3 => l.bk O3 _ Hk3 _ H3 (e.trans e3) (setN p3) q3,
      fun O3 ds3 Hk3 σ3 H3 e3 p3 q3 => l.ct O3 _ Hk3 _ H3 (e.trans e3) (setN p3) q3, fun _ _ => True.intro⟩
/-- e.f of a caught error -/
theorem w_exc {i : Nat} {a C : Addr} {cls : Value} {d : Option Addr} {fs : Option (Str × PyData)} (h : ds[i]? = some (.exc a cls d C fs)) (q : Q (.exc a cls d C fs) O) : EvW K (tVar i) O ds Q := w_var h (fun z => nomatch z) q
theorem w_xf {a C : Addr} {cls : Value} {d : Option Addr} {f : Str} (h : EvW K te O ds fun r O1 => ∃ x, r = .exc a cls d C (some (f, x)) ∧ Q (.dat x) O1) : EvW K (tXf a cls d C f te) O ds Q := fun Hk σ H p Q' k =>
  h Hk σ H p _ fun v r O1 Hk1 H1 e1 h1 s1 q1 => by
    obtain ⟨x, rfl, q⟩ := q1
    obtain ⟨rfl, rfl, dd, v, rfl, g1, g2⟩ := s1
    exact ⟨rfl, rfl, dd, _, v, rfl, h1.kn _ _ g1, by simp [List.lookup], k _ (.dat x) O1 Hk1 H1 e1 h1 g2 q⟩
end
/-- isinstance(e, c), e a caught error (its own dict or none) -/
def rIsX (K : PySem.W.Frag) (a : Addr) (cls : Value) (d : Option Addr) : List V → Hp → VK → Prop := fun xs H Q => ∃ (C : Addr) (c : V) (cv : Value) (b : Bool), cls = .ref C ∧ ExcC K C ∧ (d = none ∨ ∃ dd fs, d = some dd ∧ H dd = some (.xd fs)) ∧ xs = [.ref a, c] ∧ (∀ u, RelV c u → u = cv) ∧ PySem.W.kitOne K (.ref C) cv = some b ∧ Q (.bl b) H
theorem any_isSome {K : PySem.W.Frag} {C : Addr} (h : PySem.W.hasDictIn K C = true) : (PySem.W.clsIn K C).isSome = true := by
  unfold PySem.W.hasDictIn at h
  cases e : PySem.W.clsIn K C with
  | none => rw [e] at h; cases h
  | some _ => rfl
theorem call_isX {X : Cx} {a : Addr} {cls : Value} {d : Option Addr} {oe : Obj} {pn : List (Addr × Obj)} (hz : Zc cls d oe) (hf : ∃ vs, oe.data = .fields vs) : CallR (X.suite a ((a, oe) :: pn)) (.builtin "isinstance") (rIsX X.K a cls d) := by
  intro pins s σ H xs us Q I r h
  obtain ⟨C, c, cv, b, rfl, T, hd, rfl, hcv, e, q⟩ := h
  cases r with
  | cons rx rr =>
    cases rr with
    | cons rt rr =>
      cases rr
      cases rx
      have ec := hcv _ rt
      subst ec
      obtain ⟨hget, _⟩ := I.pin (a, oe) (List.mem_append.mpr (.inl List.mem_cons_self))
      obtain ⟨vs, hv⟩ := hf
      have J : ∃ od, PySem.W.InstAt s.heap a oe C od := by
        rcases hd with hd | ⟨dd, fs, hd, hx⟩
        · refine ⟨none, hget, hz.1, by unfold PySem.W.notCls; rw [hv] <;> rfl, ?_⟩
          rw [hz.2, hd]
          trivial
        · have hx' : ObjOk X.prog X.w H s.heap dd (.xd fs) := I.hok dd _ hx
          obtain ⟨mA, hns, hr⟩ := hx'
          obtain ⟨od, ho, hl⟩ := lookIn_ns hns
          exact ⟨some od, hget, hz.1, by unfold PySem.W.notCls; rw [hv] <;> rfl, by rw [hz.2, hd]; exact ho⟩
      obtain ⟨od, J⟩ := J
      exact PySem.W.kia_one (PySem.W.kitx_exc (any_isSome T.hd) T.hg T.hk T.hs T.ha T.hn T.ht T.hm) I.kIn J e (fun z => nomatch z) fun tk => ⟨.bl b, H, I.kept (t' := tk) fun _ _ z => z, rfl, q⟩
section
variable {K : PySem.W.Frag} {O : Own} {Q : SD → Own → Prop} {ds : List SD} {A : AE}
theorem g_isX {a C C' : Addr} {cls : Value} {d : Option Addr} {fs : Option (Str × PyData)} {b : Bool} (T : ExcC K C) (e : PySem.W.kitOne K (.ref C) (.ref C') = some b) (q : Q (bV b) O) : CbW K (rIsX K a cls d) [.exc a cls d C fs, .ad C'] O Q := fun Hk H h us hus Q' k => by
  obtain ⟨u, v, rfl, hu, hv⟩ := all2 hus
  cases (show v = .ref C' from hv)
  obtain ⟨rfl, rfl, hx⟩ := hu
  refine ⟨C, .ref C', .ref C', b, rfl, T, ?_, rfl, fun u r => r, e, k.now h (r := bV _) (.bl _) q⟩
  cases fs with
  | none => exact .inl hx
  | some p =>
    obtain ⟨dd, v, h1, h2, h3⟩ := hx
    exact .inr ⟨dd, _, h1, h.kn _ _ h2⟩
theorem g_isXT {a C : Addr} {n : String} {cls : Value} {d : Option Addr} {fs : Option (Str × PyData)} {b : Bool} (T : ExcC K C) (e : PySem.W.kitOne K (.ref C) (.type n) = some b) (q : Q (bV b) O) : CbW K (rIsX K a cls d) [.exc a cls d C fs, .ty n] O Q := fun Hk H h us hus Q' k => by
  obtain ⟨u, v, rfl, hu, hv⟩ := all2 hus
  cases (show v = .ty n from hv)
  obtain ⟨rfl, rfl, hx⟩ := hu
  refine ⟨C, .ty n, .type n, b, rfl, T, ?_, rfl, fun u r => r, e, k.now h (r := bV _) (.bl _) q⟩
  cases fs with
  | none => exact .inl hx
  | some p =>
    obtain ⟨dd, v, h1, h2, h3⟩ := hx
    exact .inr ⟨dd, _, h1, h.kn _ _ h2⟩
/-! ### dicts that are known -/
/-- {'k': e} as data -/
theorem w_dic1 {f : Str} {tv : TE} (h : ∀ pn, EvW K tv ((pn, .dK []) :: O) ds fun r O1 => ∃ d Oa, r = .dat d ∧ O1 = (pn, .dK []) :: Oa ∧ Q (.dic [(.inr f, d)]) Oa) : EvW K (tDisp [(tC (.str f), tv)]) O ds Q := fun Hk σ H p Q' k pn hf => by
  have h0 := p.hold.ownG (p := pn) (o := .dK []) (x := .dK []) hf ⟨[], upd_same, rfl, .nil⟩
  show tv σ (upd H pn (.dK [])) _
  refine h pn Hk σ _ ⟨h0, p.len, p.env⟩ _ fun v r O1 Hk1 H1 e1 h1 s1 q1 => ?_
  obtain ⟨d, Oa, rfl, rfl, q⟩ := q1
  obtain ⟨⟨vs, g1, g2, g3⟩, g4⟩ := h1.ow (pn, .dK []) List.mem_cons_self
  have e0 : vs = [] := by
    cases vs with
    | nil => rfl
    | cons a b => cases g2
  subst e0
  refine ⟨g1, [(.inr f, v)], rfl, Nat.le_of_ble_eq_true rfl, ?_⟩
  show Q' (.ref pn) (upd H1 pn (.dK [(.inr f, v)]))
  have nd := h1.nd
  rw [List.map_cons, List.nodup_cons] at nd
  have sm : Same Hk1 (upd Hk1 pn (.dK [(.inr f, v)])) := same_new g4
  refine k _ (.dic [(.inr f, d)]) Oa (upd Hk1 pn (.dK [(.inr f, v)])) _ (e1.trans sm) ⟨fun b y e => ?_, fun q hq => ?_, nd.2⟩ ⟨pn, [(.inr f, v)], rfl, upd_same, rfl, .cons (Da.mono sm s1) .nil⟩ q
  · by_cases hb : b = pn
    · subst hb
      rw [upd_same] at e ⊢
      exact e
    · rw [upd_ne hb] at e ⊢
      exact h1.kn b y e
  · have ne : q.1 ≠ pn := fun z => nd.1 (z ▸ List.mem_map.mpr ⟨q, hq, rfl⟩)
    obtain ⟨h5, h6⟩ := h1.ow q (List.mem_cons_of_mem _ hq)
    exact ⟨h5.mono sm (upd_ne ne), by rw [upd_ne ne]; exact h6⟩
end
/-- one of two readings -/
def rOr (r r' : R2) : R2 := fun x y H Q => r x y H Q ∨ r' x y H Q
theorem op_or {X : Cx} {f : Value → Value → Sem Value} {r r' : R2} (h : OpR X f r) (h' : OpR X f r') : OpR X f (rOr r r') := by
  intro pins s σ H x y v u Q I rx ry z
  rcases z with z | z
  · exact h pins s σ H x y v u Q I rx ry z
  · exact h' pins s σ H x y v u Q I rx ry z
section
variable {K : PySem.W.Frag} {O : Own} {Q : SD → Own → Prop} {ds : List SD} {A : AE} {x y : SD} {r r' : R2}
theorem o_orL (h : OpW K r x y O Q) : OpW K (rOr r r') x y O Q := fun Hk H hh u v hu hv Q' k => .inl (h Hk H hh u v hu hv Q' k)
theorem o_orR (h : OpW K r' x y O Q) : OpW K (rOr r r') x y O Q := fun Hk H hh u v hu hv Q' k => .inr (h Hk H hh u v hu hv Q' k)
def flatD : PyData → Bool
  | .none => true | .bool _ => true | .int _ => true | .str _ => true | _ => false
theorem flat_of {H : Hp} {v : V} {d : PyData} (h : Da H v d) (hd : flatD d = true) : flatB v = true := by
  cases h <;> first | rfl | cases hd
/-- flat data is one thing -/
theorem flat_one {H : Hp} {v w : V} {d : PyData} (h : Da H v d) (h' : Da H w d) (hd : flatD d = true) : v = w := by
  cases h <;> first | (cases h'; rfl) | cases hd
/-- {'k': d} != {'k': d} -/
theorem o_neDic1 {f : Key} {d : PyData} (hd : flatD d = true) (q : Q (bV false) O) : OpW K rNeDA (.dic [(f, d)]) (.dic [(f, d)]) O Q := fun Hk H h u v hu hv Q' k => by
  obtain ⟨a, vs, rfl, g1, g2, g3⟩ := hu
  obtain ⟨b, ws, rfl, j1, j2, j3⟩ := hv
  match vs, ws, g2, j2, g3, j3 with
  | [(k1, v1)], [(k2, w1)], g2, j2, .cons g3 _, .cons j3 _ =>
    have e1 : k1 = f := by injection g2
    have e2 : k2 = f := by injection j2
    subst e1
    subst e2
    have e3 := flat_one g3 j3 hd
    have e3' : v1 = w1 := e3
    subst e3'
    refine ⟨a, b, _, _, rfl, rfl, h.kn _ _ g1, h.kn _ _ j1, rfl, fun p hp => ?_, k.now h (r := bV false) (.bl _) q⟩
    obtain rfl := List.mem_singleton.mp hp
    exact ⟨by simp [valV], flat_of g3 hd⟩
theorem i_Dic {kvs : List (Key × PyData)} {n : String} {b : Bool} (hb : kitB "dict" n = some b) (q : Q (bV b) O) : CbW K (rIsi K) [.dic kvs, .ty n] O Q := fun Hk H h us hus Q' k => by
  obtain ⟨u, v, rfl, hu, hv⟩ := all2 hus
  cases (show v = .ty n from hv)
  obtain ⟨a, vs, rfl, g1, g2, g3⟩ := hu
  exact ⟨_, .ty n, _, _, b, rfl, .ty n, .base (.dK (h.kn _ _ g1)), kit_ty hb, k.now h (r := bV _) (.bl _) q⟩
theorem w_vDic {i : Nat} {kvs : List (Key × PyData)} (h : ds[i]? = some (.dic kvs)) (q : Q (.dic kvs) O) : EvW K (tVar i) O ds Q := w_var h (fun z => nomatch z) q
end
end Wk
namespace Wk
open PySem PySem.Spec PyProof.Rows L2
/-! ### a def that may raise; the classes of errors -/
section
variable {P : Program} {w : World} {K : PySem.W.Frag} {mg : Str → Option Value} {base : Heap}
/-- the wish of a def's own errors -/
def wE (E : XK) : WX := fun cls d _ H => E cls d H
theorem KonX.toW {Hk : Hp} {Qx : Addr → Option (Str × PyData) → Own → Prop} {E : XK} (k : KonX K Hk Qx E) : KonW K Hk (fun C fs O _ => Qx C fs O) (wE E) := fun cls d C fs σ O2 ds2 Hk2 H2 e p ok q => k cls d C fs O2 Hk2 H2 e p.hold ok q
theorem fnx_ok {x qual : Str} {st : Stmt} {f : Addr} {fd : FuncData} {N ps : List Str} {k : Nat} {pre : List SD → Own → (SD → Own → Prop) → (Addr → Option (Str × PyData) → Own → Prop) → Prop} (F : Fun K x qual st f fd) (S : FnScope N ps (defScope st)) (len : ∀ rs O Q Qx, pre rs O Q Qx → rs.length = ps.length)
    (hbody : ∀ (cdv : Value) (A : Around) (outer : List Env) (s : Shared) (H : Hp) (E : XK), Room k (A.deeper (envOfC qual (defScope st) s.heap.objs.size f cdv)) →
      ∃ t, PSs (cxOf (L2.CX P w) P w K mg base N qual (defScope st) f cdv A outer s H E) (defBody st) t ∧ ∀ rs O Q Qx, pre rs O Q Qx →
        StW K t O (rs ++ List.replicate (N.length - rs.length) .non) ⟨fun O _ => Q (.dat .none) O, Q, fun _ _ => False, fun _ _ => False, fun Hk => KonW K Hk (fun C fs O _ => Qx C fs O) (wE E)⟩) :
    FnOk P w K mg base (L2.CX P w) (k + 1) f fd ps (spX K pre) :=
  F.okX S (fun vs H Q E ⟨Hk, O, rs, Q0, Qx, h, hv, hp, kk, kx⟩ => by rw [hv.length]; exact len rs O Q0 Qx hp) fun cdv A outer s H vs Q E hr ⟨Hk, O, rs, Q0, Qx, h, hv, hp, kk, kx⟩ => by
    obtain ⟨t, ht, hs⟩ := hbody cdv A outer s H E hr
    exact ⟨t, ht, hs rs O Q0 Qx hp Hk _ H _ (start_pt h hv) ⟨fun O2 ds2 Hk2 σ2 H2 e p2 q => kk _ (.dat .none) O2 Hk2 H2 e p2.hold .non q, kk, fun O2 ds2 Hk2 σ2 H2 e p2 q => q.elim, fun O2 ds2 Hk2 σ2 H2 e p2 q => q.elim, fun Hk2 e2 => (kx.ext e2).toW⟩⟩
def CalleeX (P : Program) (w : World) (K : PySem.W.Frag) (mg : Str → Option Value) (base : Heap) (x : Str) (ps : List Str) (k : Nat) (pre : List SD → Own → (SD → Own → Prop) → (Addr → Option (Str × PyData) → Own → Prop) → Prop) : Prop :=
  ∃ f fd, FnOk P w K mg base (L2.CX P w) k f fd ps (spX K pre) ∧ mg x = some (.ref f) ∧ PySem.W.keepIn K (.ref f) = true ∧ Binds K fd ps [] ∧ ∃ oc od sl, K.lookup f = some ⟨oc, od, .func fd, sl⟩
end
/-- a class of errors of the program -/
structure ExS (K : PySem.W.Frag) (mg : Str → Option Value) (x : Str) (C : Addr) : Prop where
  g : mg x = some (.ref C)
  k : PySem.W.keepIn K (.ref C) = true
  is : ExcC K C
  ty : PySem.W.typeIn K (.ref C) = some (.type "type")
theorem ExS.names {K : PySem.W.Frag} {mg : Str → Option Value} {x : Str} {C : Addr} (E : ExS K mg x C) {X : Cx} (hm : X.mg = mg) (hg : Gl X x) (hd : (x == ("__debug__" : Str)) = false) : Names X x (.ref C) := ⟨hg, hd, .inl (by rw [hm]; exact E.g)⟩
theorem ExS.xf {K : PySem.W.Frag} {mg : Str → Option Value} {x : Str} {C : Addr} (E : ExS K mg x C) : XfC K C := ⟨E.is.hg, E.is.hk, E.is.hs, E.is.hd⟩
theorem ExS.exm {K : PySem.W.Frag} {mg : Str → Option Value} {x : Str} {C : Addr} (E : ExS K mg x C) {cls : Value} {b : Bool} (h : PySem.W.subIn K cls (.ref C) = some b) : PySem.W.exmOne K cls (.ref C) = some b := PySem.W.exm_ref E.is.hs E.is.hd E.ty h
abbrev veAll : List Value := [.type "ValueError", .type "Exception", .type "BaseException", .type "object"]
structure ExN (K : PySem.W.Frag) (mg : Str → Option Value) (x : Str) (C : Addr) : Prop where
  s : ExS K mg x C
  ex : PySem.W.excIn K C veAll "ValueError.__new__" = true
/-- .. with an __init__ that keeps its argument as the field f -/
structure ExI (P : Program) (w : World) (K : PySem.W.Frag) (mg : Str → Option Value) (base : Heap) (x f : Str) (C : Addr) : Prop where
  s : ExS K mg x C
  o : OexC K C
  no : PySem.W.findIn K (.ref C) f = some none
  ic : ∃ fI fd, PySem.W.findIn K (.ref C) "__init__" = some (some (.ref fI)) ∧ PySem.W.typeIn K (.ref fI) = some (.type "function") ∧ FnOk P w K mg base CX0 1 fI fd ["self", f] (spIni C f) ∧ Binds K fd ["self", f] []
theorem ini_ok {P : Program} {w : World} {K : PySem.W.Frag} {mg : Str → Option Value} {base : Heap} {x qual f : Str} {st : Stmt} {fI C : Addr} {fd : FuncData} (T : OexC K C) (no : PySem.W.findIn K (.ref C) f = some none) (F : Fun K x qual st fI fd) (S : FnScope ["self", f] ["self", f] (defScope st))
    (hb : ∀ (cdv : Value) (A : Around) (outer : List Env) (s : Shared) (H : Hp) (E : XK), PSs (cxOf CX0 P w K mg base ["self", f] qual (defScope st) fI cdv A outer s H E).nox (defBody st) (tOst K f (tVar 0) (tVar 1))) : FnOk P w K mg base CX0 1 fI fd ["self", f] (spIni C f) :=
  F.ok (k := 0) S (fun vs H Q E ⟨a, v, e, _⟩ => by rw [e]; rfl) fun cdv A outer s H vs Q E hr ⟨a, v, e, ha, k⟩ => by
    subst e
    exact ⟨_, hb cdv A outer s H E, v, rfl, .ref a, rfl, a, C, rfl, T, no, .inl ⟨ha, fun dx h1 h2 => k dx h1 h2⟩⟩
section
variable {X : Cx} {K : PySem.W.Frag} {W : WX}
theorem psRz {x m : Str} {j : Nat} {p p2 pos pos2 : Pos} {C : Addr} (T : ExN K X.mg x C) (hc : X.calm = true) (tk : Takes X W) (hg : Gl X x) (hK : X.K = K := by rfl) (hdb : (x == ("__debug__" : Str)) = false := by decide) :
    PS X (.Raise (some (.Call (.Name x p) [.Constant (.str m) j p2] [] pos)) none pos2) (tRz C W) := by
  subst hK
  exact ps_raise hc tk (pmk_own PySem.F.excBase_ValueError T.ex T.s.g T.s.k (raises_own T.s.is.hs T.s.ty) hg hdb)
theorem psRzI {x f : Str} {e : Expr} {p pos pos2 : Pos} {C : Addr} {ta : TA} (T : ExI X.prog X.w K X.mg X.base x f C) (hc : X.calm = true) (tk : Takes X W) (hr : Room 2 X.A) (hg : Gl X x) (ha : PA X [e] ta) (hK : X.K = K := by rfl) (hdb : (x == ("__debug__" : Str)) = false := by decide)
    (he : starEach [e] X.env = (false, eval e X.env) :: starEach [] X.env := by rfl) (hpl : (backTo pos (starEach [] X.env)).any (·.1) = false := by rfl) :
    PS X (.Raise (some (.Call (.Name x p) [e] [] pos)) none pos2) (tRzI C f W ta) := by
  subst hK
  obtain ⟨fI, fd, h1, h2, h3, h4⟩ := T.ic
  exact ps_raise hc tk (pmk_oex T.o h1 h2 h3 hr h4 .nil pass0 hg T.s.g ha hdb he hpl)
theorem psTry {x n : Str} {C : Addr} {i : Nat} {body suite : List Stmt} {b₀ : Stmt} {np pos pos' : Pos} {tb : WX → TS} {ts : Addr → Value → Option Addr → TS} {Wout : WX}
    (hb : ∀ (W : WX) (pn : List (Addr × Obj)) (xe : Value → Shared → Prop), Takes (X.tr pn xe) W → PSs (X.tr pn xe) body (tb W))
    (hsu : ∀ (a : Addr) (oe : Obj) (cls : Value) (d : Option Addr) (pn : List (Addr × Obj)), Zc cls d oe → (∃ vs, oe.data = .fields vs) → PSs (X.suite a ((a, oe) :: pn)) (b₀ :: suite) (ts a cls d))
    (hs : X.stack = X.env :: X.outer) (hf : X.env.frame = some X.env.locals) (hN : X.N.Nodup) (hi : X.N[i]? = some n) (hln : X.env.kindOf n = some .local) (hc : Names X x (.ref C)) (tk : Takes X Wout) (hK : X.K = K := by rfl) :
    PS X (.Try body [.ExceptHandler (some (.Name x np)) (some n) (b₀ :: suite) pos'] [] [] pos) (tTry K (.ref C) i tb ts Wout) := by
  subst hK
  exact ps_try_as hs hf hN hi hln hc tk (fun W pn xe t _ => hb W pn xe t) hsu
theorem kIsX {a : Addr} {cls : Value} {d : Option Addr} {oe : Obj} {pn : List (Addr × Obj)} (hz : Zc cls d oe) (hf : ∃ vs, oe.data = .fields vs) (hK : X.K = K := by rfl) : CallR (X.suite a ((a, oe) :: pn)) (.builtin "isinstance") (rIsX K a cls d) := by
  subst hK
  exact call_isX hz hf
theorem psXf {a C : Addr} {oe : Obj} {cls : Value} {d : Option Addr} {pn : List (Addr × Obj)} {e : Expr} {te : TE} {pos : Pos} {n x : Str} {mg : Str → Option Value} (T : ExS K mg x C) (hno : PySem.W.findIn K (.ref C) n = some none)
    (hz : Zc cls d oe) (hf : ∃ vs, oe.data = .fields vs) (he : PE (X.suite a ((a, oe) :: pn)) e te) (hK : X.K = K := by rfl) (hb : attributeBase e n X.env (eval e X.env) = eval e X.env := by rfl) :
    PE (X.suite a ((a, oe) :: pn)) (.Attribute e n pos) (tXf a cls d C n te) := by
  subst hK
  exact pe_xf T.xf hno hz hf he hb
end
end Wk
namespace Wk
open PySem PySem.Spec PyProof.Rows L2
/-! ### what is owned, said otherwise; tuples that hold what is owned; a loop over an owned list -/
def Cv (K : PySem.W.Frag) (O O' : Own) : Prop := ∀ Hk H, Hold K Hk O H → ∃ Hk', Same Hk Hk' ∧ Hold K Hk' O' H
section
variable {K : PySem.W.Frag} {Hk Hk' H H' : Hp} {O O' Oa : Own} {ds : List SD} {σ : L2.St} {Q : SD → Own → Prop} {Q' : VK} {x y : SD} {A : AE} {D : Ends} {t u : TS} {te : TE} {ta : TA} {d e : PyData}
theorem Cv.refl : Cv K O O := fun Hk H h => ⟨Hk, Same.refl _, h⟩
theorem Cv.trans {O2 : Own} (a : Cv K O O') (b : Cv K O' O2) : Cv K O O2 := fun Hk H h => by
  obtain ⟨Hk1, e1, h1⟩ := a Hk H h
  obtain ⟨Hk2, e2, h2⟩ := b Hk1 H h1
  exact ⟨Hk2, e1.trans e2, h2⟩
theorem Cv.perm (s : O.Perm O') : Cv K O O' := fun Hk H h => ⟨Hk, Same.refl _, h.perm s⟩
theorem Cv.sub (s : List.Sublist O' O) : Cv K O O' := fun Hk H h => ⟨Hk, Same.refl _, h.sub s⟩
theorem w_cv (h : EvW K te O ds fun r O1 => ∃ O2, Cv K O1 O2 ∧ Q r O2) : EvW K te O ds Q := fun Hk σ H p Q' k =>
  h Hk σ H p _ fun v r O1 Hk1 H1 e1 h1 s1 q1 => by
    obtain ⟨O2, c, q⟩ := q1
    obtain ⟨Hk2, e2, h2⟩ := c Hk1 H1 h1
    exact k v r O2 Hk2 H1 (e1.trans e2) h2 (s1.mono e2) q
theorem s_cv (c : Cv K O O') (h : StW K t O' ds A) : StW K t O ds A := fun Hk σ H D p l => by
  obtain ⟨Hk2, e2, h2⟩ := c Hk H p.hold
  exact h Hk2 σ H D (p.ext e2 h2) (l.ext e2)
theorem SDall.split : ∀ {us : List SD} {vs : List V} {ws : List SD}, SDall K Hk vs (us ++ ws) → ∃ v1 v2, vs = v1 ++ v2 ∧ SDall K Hk v1 us ∧ SDall K Hk v2 ws
  | [], vs, ws, h => ⟨[], vs, rfl, .nil, h⟩
  | u :: us, _, ws, h => by
    rw [List.cons_append] at h
    cases h with
    | cons a r =>
      obtain ⟨v1, v2, rfl, h1, h2⟩ := SDall.split r
      exact ⟨_ :: v1, v2, rfl, .cons a h1, h2⟩
/-- an owned list of data within an owned list becomes data -/
theorem Cv.frzIn {c a : Addr} {us ws rs : List SD} {es : List PyData} (hd : Dats rs es) : Cv K ((c, .lst (us ++ .ad a :: ws)) :: (a, .lst rs) :: O) ((c, .lst (us ++ .dat (.list es) :: ws)) :: O) := fun Hk H h => by
  obtain rfl := hd.eq
  obtain ⟨Hk2, e2, h2, d2⟩ := (h.perm (.swap ..)).freeze
  obtain ⟨⟨vs, g1, g2⟩, _⟩ := h2.ow _ List.mem_cons_self
  obtain ⟨v1, v2, rfl, s1, s2⟩ := g2.split
  cases s2 with
  | cons s3 s4 =>
    cases (show _ = V.ref a from s3)
    exact ⟨Hk2, e2, h2.tell ⟨_, g1, s1.append (.cons d2 s4)⟩⟩
/-- a tuple that holds what is owned -/
theorem w_tupO (h : AvW K ta O ds fun rs O1 => rs.length ≤ sizeLine ∧ ∀ l, Q (.ad l) ((l, .tup rs) :: O1)) : EvW K (tTup ta) O ds Q := fun Hk σ H p Q' k =>
  h Hk σ H p _ fun vs rs O1 Hk1 H1 e1 h1 s1 q1 => by
    obtain ⟨hl, q⟩ := q1
    exact ⟨by rw [s1.length]; exact hl, fun l hp => k _ (.ad l) _ Hk1 _ e1 (h1.ownG (x := .tup rs) hp ⟨vs, upd_same, s1⟩) rfl (q l)⟩
theorem o_ixTO {a : Addr} {rs : List SD} {i : Int} {d : SD} (hm : (a, OD.tup rs) ∈ O) (ha : atI rs i = some d) (q : Q d O) : OpW K (rIxT K) (.ad a) (iV i) O Q := fun Hk H h u v hu hv Q' k => by
  cases (show Da Hk v (.int i) from hv)
  cases (show u = .ref a from hu)
  obtain ⟨⟨vs, h1, h2⟩, _⟩ := h.ow _ hm
  obtain ⟨j, e1, e2⟩ := atI_get ha
  obtain ⟨w, g1, g2⟩ := h2.get e2
  exact ⟨a, vs, i, w, rfl, rfl, .inl (.inl h1), atI_of (by rw [h2.length]; exact e1) g1, k.now h g2 q⟩
theorem i_TO {a : Addr} {rs : List SD} {n : String} {b : Bool} (hm : (a, OD.tup rs) ∈ O) (hb : kitB "tuple" n = some b) (q : Q (bV b) O) : CbW K (rIsi K) [.ad a, .ty n] O Q := fun Hk H h us hus Q' k => by
  obtain ⟨u, v, rfl, hu, hv⟩ := all2 hus
  cases (show v = .ty n from hv)
  cases (show u = .ref a from hu)
  obtain ⟨⟨vs, h1, h2⟩, _⟩ := h.ow _ hm
  exact ⟨_, .ty n, _, _, b, rfl, .ty n, .base (.tup h1), kit_ty hb, k.now h (r := bV _) (.bl _) q⟩
theorem VD.ot {a : Addr} {rs : List SD} {es : List PyData} (hm : (a, OD.tup rs) ∈ O) (hv : VDs K O rs es) : VD K O (.ad a) (.tuple es) := fun Hk H h u hu => by
  obtain ⟨⟨vs, h1, h2⟩, _⟩ := h.ow _ hm
  cases (show u = .ref a from hu)
  exact .tup h1 (hv.all h h2)
/-- [e for x in xs if t] over an owned list -/
theorem w_lcX {tl : TE} {j : Nat} {tt : TT} {te : TE} (h : EvW K tl O ds fun r O1 => ∃ a rs Oa, r = .ad a ∧ O1.Perm ((a, OD.lst rs) :: Oa) ∧ rs.length ≤ 1000000 ∧ ∀ vs : List V, ∃ I : Nat → List SD → Own → Prop, I 0 [] ((a, .lstX vs rs) :: Oa) ∧
    (∀ i acc O2, I i acc O2 → (a, OD.lstX vs rs) ∈ O2) ∧
    (∀ (i : Nat) r acc O2, rs[i]? = some r → acc.length ≤ i → I i acc O2 → LcTurn K tt te O2 (ds.set j r) acc (I (i + 1))) ∧ ∀ acc O2 Dl, I rs.length acc O2 → ∃ Ob, O2.Perm ((a, OD.lstX vs rs) :: Ob) ∧ Q (.ad Dl) ((Dl, .lst acc) :: (a, .lst rs) :: Ob)) : EvW K (tLc (iList K tl) (gName j) tt te [j]) O ds Q := fun Hk σ H p Q' k =>
  h Hk σ H p _ fun v rs O1 Hk1 H1 e1 h1' s1 q1 => by
    obtain ⟨a, rs, Oa, rfl, hp, hn, q1⟩ := q1
    cases (show v = .ref a from s1)
    have h1 := h1'.perm hp
    obtain ⟨⟨xs, g1, g2⟩, _⟩ := h1.ow _ List.mem_cons_self
    obtain ⟨I, h0, hin, hs, hd⟩ := q1 xs
    have h2 : Hold K Hk1 ((a, .lstX xs rs) :: Oa) H1 := h1.tell ⟨g1, g2⟩
    have seq : ∀ {acc : List SD} {O2 : Own} {Hk2 H2 : Hp} {i : Nat} {Dl : Addr}, Hold K Hk2 ((Dl, OD.lst acc) :: O2) H2 → I i acc O2 → H2 a = some (.lst xs) ∧ SDall K Hk2 xs rs := fun {acc O2 Hk2 H2 i Dl} hh q => (hh.ow _ (List.mem_cons_of_mem _ (hin _ _ _ q))).1
    refine ⟨a, rfl, ⟨xs, .inl (.inl g1)⟩, fun Dl hf => lc_list (xs := xs) (fun i H => ∃ acc O2 Hk2, Same Hk1 Hk2 ∧ acc.length ≤ i ∧ Hold K Hk2 ((Dl, OD.lst acc) :: O2) H ∧ I i acc O2)
      ⟨[], _, Hk1, Same.refl _, Nat.le_refl _, h2.own hf .nil, h0⟩ (fun i H2 _ ⟨acc, O2, Hk2, e2, hl, hh, q⟩ => .inl (.inl (seq hh q).1)) (fun i x H2 hi hP => ?_) (fun H2 hP => ?_)⟩
    · obtain ⟨acc, O2, Hk2, e2, hl, hh, q⟩ := hP
      have sa := (seq hh q).2
      obtain ⟨r, hr1⟩ : ∃ r, rs[i]? = some r := by
        have hlt := (List.getElem?_eq_some_iff.mp hi).1
        exact ⟨_, List.getElem?_eq_getElem (by rw [← sa.length]; exact hlt)⟩
      obtain ⟨w, hw1, hw2⟩ := sa.get hr1
      rw [hi] at hw1
      cases hw1
      have hlt := (List.getElem?_eq_some_iff.mp hr1).1
      have hz : acc.length < sizeLine := Nat.lt_of_lt_of_le (show acc.length < 1000001 by omega) (by decide)
      have ht := hs i r acc O2 hr1 hl q
      refine lc_turn (d := r) (P' := fun H => ∃ acc2 O3 Hk2, Same Hk1 Hk2 ∧ acc2.length ≤ i + 1 ∧ Hold K Hk2 ((Dl, OD.lst acc2) :: O3) H ∧ I (i + 1) acc2 O3) (I' := fun acc2 O3 => acc2.length ≤ i + 1 ∧ I (i + 1) acc2 O3) ?_ hz ((p.ext e1 h1').ext e2 (hh.sub (List.sublist_cons_self ..))) hh hw2 fun acc2 O3 Hk3 H3 e3 h3 q3 => ⟨acc2, O3, Hk3, e2.trans e3, q3.1, h3, q3.2⟩
      intro Dl2 Hk3 σ3 H3 p3 Q3 k3
      refine ht Dl2 Hk3 σ3 H3 p3 Q3 fun b O3 Hk4 H4 e4 h4 q4 => k3 b O3 Hk4 H4 e4 h4 ⟨fun hb => w_mono (q4.1 hb) fun r O4 ⟨O5, hp, q5⟩ => ⟨O5, hp, by rw [List.length_append]; simp; omega, q5⟩, fun hb => ?_⟩
      obtain ⟨O5, hp, q5⟩ := q4.2 hb
      exact ⟨O5, hp, by omega, q5⟩
    · obtain ⟨acc, O2, Hk2, e2, hl, hh, q⟩ := hP
      have sa := (seq hh q)
      rw [sa.2.length] at q
      obtain ⟨Ob, hp2, q2⟩ := hd acc O2 Dl q
      have h3 := (hh.perm (hp2.cons (Dl, OD.lst acc))).perm (.swap ..)
      exact k _ (.ad Dl) _ Hk2 H2 (e1.trans e2) ((h3.tell (y := .lst rs) ⟨xs, sa.1, sa.2⟩).perm (.swap ..)) rfl q2
end
end Wk
namespace Wk
open PySem PySem.Spec PyProof.Rows L2
section
variable {K : PySem.W.Frag} {Hk Hk' H H' : Hp} {O O' Oa : Own} {ds : List SD} {σ : L2.St} {Q : SD → Own → Prop} {Q' : VK} {x y : SD} {A : AE} {D : Ends} {t u : TS} {te : TE} {ta : TA} {W : WX}
  {Qs : Addr → Option (Str × PyData) → Own → List SD → Prop}
/-- for x in range(lo, hi, -1) -/
theorem s_for3N {ta : TA} {j : Nat} {tb : TS} (h : AvW K ta O ds fun rs O1 => ∃ lo hi : Int, rs = [iV lo, iV hi, iV (-1)] ∧ (-(2 ^ 62) ≤ lo ∧ lo < 2 ^ 62 ∧ -(2 ^ 62) ≤ hi ∧ hi < 2 ^ 62) ∧ ∃ I : Nat → Own → List SD → Prop, I 0 O1 ds ∧
    (∀ (i : Nat) O2 ds2, hi + (i : Int) < lo → I i O2 ds2 → ∀ B : AE, Bdy I i A B → StW K tb O2 (ds2.set j (iV (lo - (i : Int)))) B) ∧ ∀ O2 ds2, I (lo - hi).toNat O2 ds2 → A.nx O2 ds2) : StW K (tFor (iRng3 ta) (gName j) tb) O ds A := fun Hk σ H D p l =>
  h Hk σ H p _ fun vs rs O1 Hk1 H1 e1 h1 s1 q1 => by
    obtain ⟨lo, hi, rfl, ⟨b1, b2, b3, b4⟩, I, h0, hs, hd⟩ := q1
    cases s1 with
    | @cons v1 _ _ _ g1 r =>
      cases r with
      | @cons v2 _ _ _ g2 r =>
        cases r with
        | @cons v3 _ _ _ g3 r =>
          cases r
          cases (show Da Hk1 v1 (.int lo) from g1)
          cases (show Da Hk1 v2 (.int hi) from g2)
          cases (show Da Hk1 v3 (.int (-1)) from g3)
          have p1 := p.ext e1 h1
          have l1 := l.ext e1
          refine ⟨lo, hi, -1, (lo - hi).toNat, rfl, RgC.neg b1 b2 b3 b4, for_rangeC (fun i σ H => ∃ O2 ds2 Hk2, Same Hk1 Hk2 ∧ Pt K Hk2 O2 ds2 σ H ∧ I i O2 ds2) ⟨O1, ds, Hk1, Same.refl _, p1, h0⟩
            (fun i σ' H' hi' ⟨O2, ds2, Hk2, e, p2, q⟩ => ?_) (fun σ' H' ⟨O2, ds2, Hk2, e, p2, q⟩ => l1.nx O2 ds2 Hk2 σ' H' e p2 (hd O2 ds2 q))⟩
          have ev : lo + ((i : Nat) : Int) * -1 = lo - (i : Int) := by omega
          rw [ev]
          exact hs i O2 ds2 (by omega) q _ .mk' Hk2 _ H' _ (p2.set (r := iV (lo - (i : Int))) (.int _))
            ⟨fun O3 ds3 Hk3 σ3 H3 e3 p3 q3 => ⟨O3, ds3, Hk3, e.trans e3, p3, q3⟩, l1.rt.ext e, l1.nx.ext e, fun O3 ds3 Hk3 σ3 H3 e3 p3 q3 => ⟨O3, ds3, Hk3, e.trans e3, p3, q3⟩, l1.xt.ext e⟩
/-- f'..{e}', e an int -/
def tFs (m : Str) (te : TE) : TE := fun σ H Q => tJs [tC (.str m), tFmt te] Str.empty σ H fun out H1 => Q (.str out) H1
theorem w_fs {m : Str} (hm : m.length ≤ 1000) (h : EvW K te O ds fun r O1 => ∃ i : Int, r = iV i ∧ i.natAbs.log2 < 1920 ∧ ∀ s, Q (.dat (.str s)) O1) : EvW K (tFs m te) O ds Q := fun Hk σ H p Q' k => by
  have e0 : (Str.empty ++ m).length ≤ 1000 := by
    rw [Str.length_append]
    show 0 + m.length ≤ 1000
    omega
  refine ⟨m, rfl, Nat.le_trans e0 (by decide), ?_⟩
  refine h Hk σ H p _ fun v r O1 Hk1 H1 e1 h1 s1 q1 => ?_
  obtain ⟨i, rfl, hi, q⟩ := q1
  cases (show Da Hk1 v (.int i) from s1)
  refine .inr ⟨i, rfl, hi, _, rfl, ?_, ?_⟩
  · have e := int_text_length_le (k := 1920) (by decide) hi
    rw [Str.length_append, PySem.ofString_length]
    refine Nat.le_trans (Nat.add_le_add e0 e) (by decide)
  · exact k _ (.dat (.str _)) O1 Hk1 H1 e1 h1 (.str _) (q _)
/-- raise X(e), X without an __init__ -/
def tRz1 (C : Addr) (W : WX) (te : TE) : TS := fun _ σ H => te σ H fun _ H1 => W (.ref C) none σ H1
theorem s_rz1 {C : Addr} (hW : ∀ Hk, A.xt Hk → KonW K Hk Qs W) (h : EvW K te O ds fun _ O1 => Qs C none O1 ds) : StW K (tRz1 C W te) O ds A := fun Hk σ H D p l =>
  h Hk σ H p _ fun v r O1 Hk1 H1 e1 h1 s1 q1 => hW Hk (l.xt Hk (Same.refl _)) (.ref C) none C none σ O1 ds Hk1 H1 e1 (p.ext e1 h1) ⟨rfl, rfl⟩ q1
end
section
variable {X : Cx} {K : PySem.W.Frag} {W : WX}
theorem psRz1 {x : Str} {e : Expr} {te : TE} {p pos pos2 : Pos} {C : Addr} (T : ExN K X.mg x C) (hc : X.calm = true) (tk : Takes X W) (hg : Gl X x) (he : PE X e te) (hK : X.K = K := by rfl) (hs : starEach [e] X.env = (false, eval e X.env) :: starEach [] X.env := by rfl) (hdb : (x == ("__debug__" : Str)) = false := by decide) :
    PS X (.Raise (some (.Call (.Name x p) [e] [] pos)) none pos2) (tRz1 C W te) := by
  subst hK
  exact ps_raise hc tk (SkE.pmk_own1 PySem.F.excBase_ValueError T.ex T.s.g T.s.k (raises_own T.s.is.hs T.s.ty) hg he hs hdb)
theorem psFs {te : TE} {pos p2 : Pos} {m : Str} {j : Nat} {v2 : Expr} (h1 : PE X (.Constant (.str m) j p2) (tC (.str m))) (h2 : PE X v2 (tFmt te)) : PE X (.JoinedStr [.Constant (.str m) j p2, v2] pos) (tFs m te) := pe_joined (.cons h1 (.cons h2 .nil))
end
section
variable {K : PySem.W.Frag} {Hk Hk' H H' : Hp} {O O' Oa : Own} {ds : List SD} {Q : SD → Own → Prop} {A : AE} {ta : TA} {W : WX} {preX : List SD → Own → (SD → Own → Prop) → (Addr → Option (Str × PyData) → Own → Prop) → Prop}
  {Qs : Addr → Option (Str × PyData) → Own → List SD → Prop}
/-- what is owned besides may be let go -/
theorem KonW.sub (k : KonW K Hk Qs W) : KonW K Hk (fun C fs O2 ds2 => ∃ O3, List.Sublist O3 O2 ∧ Qs C fs O3 ds2) W := fun cls d C fs σ O2 ds2 Hk2 H2 e p ok ⟨O3, s, q⟩ =>
  k cls d C fs σ O3 ds2 Hk2 H2 e ⟨p.hold.sub s, p.len, p.env⟩ ok q
/-- a def that may raise, called where it does not -/
theorem w_callN (h : AvW K ta O ds fun rs O1 => preX rs O1 Q fun _ _ _ => False) : EvW K (tCallS (spX K preX) (WE fun _ _ _ _ => False) ta) O ds Q := fun Hk σ H p Q' k =>
  h Hk σ H p _ fun vs rs O1 Hk1 H1 e1 h1 s1 q1 => ⟨Hk1, O1, rs, Q, _, h1, s1, q1, k.ext e1, fun cls d C fs O2 Hk2 H2 e2 h2 ok q => q.elim⟩
/-- {'k': e, 'l': f} as data -/
theorem w_dic2 {f g : Str} {tv tw : TE} (hfg : ∀ v w : V, mergeK [] [((Sum.inr f : Key), v), (Sum.inr g, w)] = [(Sum.inr f, v), (Sum.inr g, w)]) (h : ∀ pn, EvW K tv ((pn, .dK []) :: O) ds fun r O1 => ∃ d, r = .dat d ∧ EvW K tw O1 ds fun r2 O2 => ∃ e Oa, r2 = .dat e ∧ O2 = (pn, .dK []) :: Oa ∧ Q (.dic [(.inr f, d), (.inr g, e)]) Oa) : EvW K (tDisp [(tC (.str f), tv), (tC (.str g), tw)]) O ds Q := fun Hk σ H p Q' k pn hf => by
  have h0 := p.hold.ownG (p := pn) (o := .dK []) (x := .dK []) hf ⟨[], upd_same, rfl, .nil⟩
  have p0 : Pt K Hk ((pn, .dK []) :: O) ds σ (upd H pn (.dK [])) := ⟨h0, p.len, p.env⟩
  show tv σ (upd H pn (.dK [])) fun y H2 => tw σ H2 _
  refine h pn Hk σ _ p0 _ fun v r O1 Hk1 H1 e1 h1 s1 q1 => ?_
  obtain ⟨d, rfl, q1⟩ := q1
  refine q1 Hk1 σ H1 (p0.ext e1 h1) _ fun w r2 O2 Hk2 H2 e2 h2 s2 q2 => ?_
  obtain ⟨e, Oa, rfl, rfl, q⟩ := q2
  obtain ⟨⟨vs, g1, g2, g3⟩, g4⟩ := h2.ow (pn, .dK []) List.mem_cons_self
  have e0 : vs = [] := by
    cases vs with
    | nil => rfl
    | cons a b => cases g2
  subst e0
  refine ⟨g1, [(.inr f, v), (.inr g, w)], rfl, Nat.le_of_ble_eq_true rfl, ?_⟩
  rw [hfg]
  have nd := h2.nd
  rw [List.map_cons, List.nodup_cons] at nd
  have sm : Same Hk2 (upd Hk2 pn (.dK [(.inr f, v), (.inr g, w)])) := same_new g4
  refine k _ (.dic [(.inr f, d), (.inr g, e)]) Oa (upd Hk2 pn (.dK [(.inr f, v), (.inr g, w)])) _ (e1.trans (e2.trans sm)) ⟨fun b y e => ?_, fun q hq => ?_, nd.2⟩ ⟨pn, [(.inr f, v), (.inr g, w)], rfl, upd_same, rfl, .cons (Da.mono (e2.trans sm) s1) (.cons (Da.mono sm s2) .nil)⟩ q
  · by_cases hb : b = pn
    · subst hb
      rw [upd_same] at e ⊢
      exact e
    · rw [upd_ne hb] at e ⊢
      exact h2.kn b y e
  · have ne : q.1 ≠ pn := fun z => nd.1 (z ▸ List.mem_map.mpr ⟨q, hq, rfl⟩)
    obtain ⟨h5, h6⟩ := h2.ow q (List.mem_cons_of_mem _ hq)
    exact ⟨h5.mono sm (upd_ne ne), by rw [upd_ne ne]; exact h6⟩
theorem flat_all : ∀ {kvs : List (Key × PyData)} {ks ls : List (Key × V)} {H : Hp}, (∀ p ∈ kvs, flatD p.2 = true) → ks.map (·.1) = kvs.map (·.1) → ls.map (·.1) = kvs.map (·.1) → DaAll H (ks.map (·.2)) (kvs.map (·.2)) → DaAll H (ls.map (·.2)) (kvs.map (·.2)) → ks = ls ∧ ∀ p ∈ ks, flatB p.2 = true
  | [], [], [], _, _, _, _, _, _ => ⟨rfl, fun _ h => absurd h List.not_mem_nil⟩
  | [], _ :: _, _, _, _, h, _, _, _ => by cases h
  | [], [], _ :: _, _, _, _, h, _, _ => by cases h
  | _ :: _, [], _, _, _, h, _, _, _ => by cases h
  | _ :: _, _ :: _, [], _, _, _, h, _, _ => by cases h
  | (k, d) :: kvs, (k1, v1) :: ks, (k2, v2) :: ls, H, hf, h1, h2, .cons a1 r1, .cons a2 r2 => by
    injection h1 with e1 h1
    injection h2 with e2 h2
    obtain ⟨e, hr⟩ := flat_all (fun p hp => hf p (List.mem_cons_of_mem _ hp)) h1 h2 r1 r2
    have hd := hf _ List.mem_cons_self
    have ev : v1 = v2 := flat_one a1 a2 hd
    have e1' : k1 = k := e1
    have e2' : k2 = k := e2
    refine ⟨by rw [e1', e2', ev, e], fun p hp => ?_⟩
    rcases List.mem_cons.mp hp with rfl | hp
    · exact flat_of a1 hd
    · exact hr p hp
theorem val_of : ∀ {ks : List (Key × V)}, (ks.map (·.1)).Nodup → ∀ p ∈ ks, valV ks p.1 = some p.2
  | [], _, _, h => absurd h List.not_mem_nil
  | q :: ks, hn, p, hp => by
    rw [List.map_cons, List.nodup_cons] at hn
    rcases List.mem_cons.mp hp with rfl | hp
    · exact valV_pos rfl
    · have ne : q.1 ≠ p.1 := fun z => hn.1 (z ▸ List.mem_map.mpr ⟨p, hp, rfl⟩)
      rw [valV_neg ne]
      exact val_of hn.2 p hp
theorem o_neDic {kvs : List (Key × PyData)} (hf : ∀ p ∈ kvs, flatD p.2 = true) (hn : (kvs.map (·.1)).Nodup) (q : Q (bV false) O) : OpW K rNeDA (.dic kvs) (.dic kvs) O Q := fun Hk H h u v hu hv Q' k => by
  obtain ⟨a, vs, rfl, g1, g2, g3⟩ := hu
  obtain ⟨b, ws, rfl, j1, j2, j3⟩ := hv
  obtain ⟨e, hfl⟩ := flat_all hf g2 j2 g3 j3
  subst e
  exact ⟨a, b, vs, vs, rfl, rfl, h.kn _ _ g1, h.kn _ _ j1, rfl, fun p hp => ⟨val_of (by rw [g2]; exact hn) p hp, hfl p hp⟩, k.now h (r := bV false) (.bl _) q⟩
end
end Wk
namespace Wk
open PySem PySem.Spec PyProof.Rows L2
/-! ### dicts that are owned -/
def valS (kvs : List (Key × SD)) (k : Key) : Option SD := (kvs.find? fun p => decide (p.1 = k)).map (·.2)
def putS (kvs : List (Key × SD)) (k : Key) (r : SD) : List (Key × SD) := kvs.map fun p => if p.1 = k then (p.1, r) else p
section
variable {K : PySem.W.Frag} {Hk Hk' H H' : Hp} {O O' Oa : Own} {ds : List SD} {σ : L2.St} {Q : SD → Own → Prop} {Q' : VK} {x y : SD} {A : AE} {D : Ends} {t u : TS} {te td to : TE} {ta : TA}
theorem val_at {k : Key} {d : SD} : ∀ {vs : List (Key × V)} {kvs : List (Key × SD)}, vs.map (·.1) = kvs.map (·.1) → SDall K Hk (vs.map (·.2)) (kvs.map (·.2)) → valS kvs k = some d → ∃ v, valV vs k = some v ∧ SDok K Hk v d
  | _, [], _, _, h => by cases h
  | [], _ :: _, e, _, _ => by cases e
  | v :: vs, p :: kvs, e, .cons a r, h => by
    injection e with e1 e2
    have e1' : v.1 = p.1 := e1
    by_cases z : p.1 = k
    · have : valS (p :: kvs) k = some p.2 := by simp [valS, List.find?_cons, z]
      rw [this] at h
      cases h
      exact ⟨v.2, valV_pos (e1'.trans z), a⟩
    · have : valS (p :: kvs) k = valS kvs k := by simp [valS, List.find?_cons, z]
      rw [this] at h
      obtain ⟨w, h1, h2⟩ := val_at e2 r h
      exact ⟨w, by rw [valV_neg (by rw [e1']; exact z)]; exact h1, h2⟩
theorem put_at {k : Key} {d r : SD} {v : V} (hv : SDok K Hk v r) {vs : List (Key × V)} {kvs : List (Key × SD)} (e : vs.map (·.1) = kvs.map (·.1)) (h : SDall K Hk (vs.map (·.2)) (kvs.map (·.2))) (hk : valS kvs k = some d) :
    (putK vs k v).map (·.1) = (putS kvs k r).map (·.1) ∧ SDall K Hk ((putK vs k v).map (·.2)) ((putS kvs k r).map (·.2)) := by
  have hany : (vs.any fun kv => decide (kv.1 = k)) = true := by
    obtain ⟨w, h1, _⟩ := val_at e h hk
    rw [valV_any, h1]
    rfl
  have key : ∀ {vs : List (Key × V)} {kvs : List (Key × SD)}, vs.map (·.1) = kvs.map (·.1) → SDall K Hk (vs.map (·.2)) (kvs.map (·.2)) → (vs.map fun kv => if kv.1 = k then (kv.1, v) else kv).map (·.1) = (putS kvs k r).map (·.1) ∧ SDall K Hk ((vs.map fun kv => if kv.1 = k then (kv.1, v) else kv).map (·.2)) ((putS kvs k r).map (·.2)) := by
    intro vs
    induction vs with
    | nil =>
      intro kvs e h
      cases kvs with
      | nil => exact ⟨rfl, .nil⟩
      | cons p kvs => cases e
    | cons w vs ih =>
      intro kvs e h
      cases kvs with
      | nil => cases e
      | cons p kvs =>
        injection e with e1 e2
        have e1' : w.1 = p.1 := e1
        cases h with
        | cons a b =>
          obtain ⟨i1, i2⟩ := ih e2 b
          by_cases z : p.1 = k
          · have z' : w.1 = k := e1'.trans z
            refine ⟨?_, ?_⟩
            · show (if w.1 = k then (w.1, v) else w).1 :: _ = (if p.1 = k then (p.1, r) else p).1 :: _
              rw [if_pos z, if_pos z']
              exact congr (congrArg _ e1') i1
            · show SDall K Hk ((if w.1 = k then (w.1, v) else w).2 :: _) ((if p.1 = k then (p.1, r) else p).2 :: _)
              rw [if_pos z, if_pos z']
              exact .cons hv i2
          · have z' : ¬ w.1 = k := fun q => z (e1'.symm.trans q)
            refine ⟨?_, ?_⟩
            · show (if w.1 = k then (w.1, v) else w).1 :: _ = (if p.1 = k then (p.1, r) else p).1 :: _
              rw [if_neg z, if_neg z']
              exact congr (congrArg _ e1') i1
            · show SDall K Hk ((if w.1 = k then (w.1, v) else w).2 :: _) ((if p.1 = k then (p.1, r) else p).2 :: _)
              rw [if_neg z, if_neg z']
              exact .cons a i2
  have := key e h
  unfold putK
  rw [if_pos hany]
  exact this
/-- d['k'], d owned -/
theorem w_dget {f : Str} (h : EvW K td O ds fun r O1 => ∃ a kvs d, r = .ad a ∧ (a, OD.dK kvs) ∈ O1 ∧ valS kvs (.inr f) = some d ∧ Q d O1) : EvW K (tDGet td (tC (.str f))) O ds Q := fun Hk σ H p Q' k =>
  h Hk σ H p _ fun v r O1 Hk1 H1 e1 h1 s1 q1 => by
    obtain ⟨a, kvs, d, rfl, hm, hv, q⟩ := q1
    cases (show v = .ref a from s1)
    obtain ⟨⟨vs, g1, g2, g3⟩, _⟩ := h1.ow _ hm
    obtain ⟨w, h2, h3⟩ := val_at g2 g3 hv
    refine ⟨a, w, rfl, ?_, k w d O1 Hk1 H1 e1 h1 h3 q⟩
    have := DGet.k (k := .inr f) g1
    rw [h2] at this
    exact this
/-- d['k'] = e, d owned, k there -/
theorem s_setD {f : Str} (h : EvW K te O ds fun r O1 => EvW K to O1 ds fun ro O2 => ∃ a kvs d Oa O4, ro = .ad a ∧ O2.Perm ((a, .dK kvs) :: Oa) ∧ kvs.length ≤ 1000 ∧ valS kvs (.inr f) = some d ∧ Own.P ((a, .dK (putS kvs (.inr f) r)) :: Oa) O4 ∧ A.nx O4 ds) : StW K (tAsg te (gSub to (tC (.str f)) rSetD)) O ds A := fun Hk σ H D p l =>
  h Hk σ H p _ fun v r O1 Hk1 H1 e1 h1 s1 q1 => q1 Hk1 σ H1 (p.ext e1 h1) _ fun vo ro O2 Hk2 H2 e2 h2 s2 q2 => by
    obtain ⟨a, kvs, d, Oa, O4, rfl, hp, hl, hv, hp2, q⟩ := q2
    cases (show vo = .ref a from s2)
    have h' := h2.perm hp
    obtain ⟨⟨vs, g1, g2, g3⟩, _⟩ := h'.ow _ List.mem_cons_self
    obtain ⟨p1, p2⟩ := put_at (s1.mono e2) g2 g3 hv
    have hlen : vs.length < sizeLine := by
      have := congrArg List.length g2
      rw [List.length_map, List.length_map] at this
      rw [this]
      exact Nat.lt_of_le_of_lt hl (by decide)
    refine ⟨a, _, rfl, DPut.k (k := .inr f) g1 hlen, ?_⟩
    exact l.nx _ ds Hk2 σ _ (e1.trans e2) (p.ext (e1.trans e2) ((h'.writeG (y := .dK (putS kvs (.inr f) r)) ⟨_, upd_same, p1, p2⟩).perm hp2)) q
/-- {'k': e, 'l': f} as a dict that is owned -/
theorem w_dic2O {f g : Str} {tv tw : TE} (hfg : ∀ v w : V, mergeK [] [((Sum.inr f : Key), v), (Sum.inr g, w)] = [(Sum.inr f, v), (Sum.inr g, w)]) (h : ∀ pn, EvW K tv ((pn, .dK []) :: O) ds fun r O1 => EvW K tw O1 ds fun r2 O2 => ∃ Oa, O2 = (pn, .dK []) :: Oa ∧ Q (.ad pn) ((pn, .dK [(.inr f, r), (.inr g, r2)]) :: Oa)) : EvW K (tDisp [(tC (.str f), tv), (tC (.str g), tw)]) O ds Q := fun Hk σ H p Q' k pn hf => by
  have h0 := p.hold.ownG (p := pn) (o := .dK []) (x := .dK []) hf ⟨[], upd_same, rfl, .nil⟩
  have p0 : Pt K Hk ((pn, .dK []) :: O) ds σ (upd H pn (.dK [])) := ⟨h0, p.len, p.env⟩
  show tv σ (upd H pn (.dK [])) fun y H2 => tw σ H2 _
  refine h pn Hk σ _ p0 _ fun v r O1 Hk1 H1 e1 h1 s1 q1 => ?_
  refine q1 Hk1 σ H1 (p0.ext e1 h1) _ fun w r2 O2 Hk2 H2 e2 h2 s2 q2 => ?_
  obtain ⟨Oa, rfl, q⟩ := q2
  obtain ⟨⟨vs, g1, g2, g3⟩, g4⟩ := h2.ow (pn, .dK []) List.mem_cons_self
  have e0 : vs = [] := by
    cases vs with
    | nil => rfl
    | cons a b => cases g2
  subst e0
  refine ⟨g1, [(.inr f, v), (.inr g, w)], rfl, Nat.le_of_ble_eq_true rfl, ?_⟩
  rw [hfg]
  exact k _ (.ad pn) _ Hk2 _ (e1.trans e2) (h2.writeG (y := .dK [(.inr f, r), (.inr g, r2)]) ⟨[(.inr f, v), (.inr g, w)], upd_same, rfl, .cons (s1.mono e2) (.cons s2 .nil)⟩) rfl q
/-- two owned lists, one behind the other -/
theorem g_catS {a b : Addr} {rs qs : List SD} (hm : (a, OD.lst rs) ∈ O) (hn : (b, OD.lst qs) ∈ O) (hz : rs.length + qs.length ≤ 1000000) (q : ∀ l, Q (.ad l) ((l, .lst (rs ++ qs)) :: O)) : OpW K rCat (.ad a) (.ad b) O Q := fun Hk H h u v hu hv Q' k => by
  cases (show u = .ref a from hu)
  cases (show v = .ref b from hv)
  obtain ⟨⟨vs, h1, h2⟩, _⟩ := h.ow _ hm
  obtain ⟨⟨ws, g1, g2⟩, _⟩ := h.ow _ hn
  exact ⟨a, b, vs, ws, rfl, rfl, h1, g1, by rw [h2.length, g2.length]; exact Nat.le_trans hz (by decide), fun l hf => k _ (.ad l) _ Hk _ (Same.refl _) (h.own hf (h2.append g2)) rfl (q l)⟩
theorem o_eqT {i j : Str} (q : Q (bV (decide (i = j))) O) : OpW K rEq (.dat (.str i)) (.dat (.str j)) O Q := fun Hk H h u v hu hv Q' k => by
  cases (show Da Hk u (.str i) from hu)
  cases (show Da Hk v (.str j) from hv)
  refine ⟨rfl, ?_⟩
  have e : decide (V.str i = V.str j) = decide (i = j) := by
    by_cases z : i = j
    · rw [decide_eq_true z, decide_eq_true (congrArg V.str z)]
    · rw [decide_eq_false z, decide_eq_false fun q => z (V.str.inj q)]
  rw [e]
  exact k.now h (r := bV _) (.bl _) q
/-! ### exceptions as values -/
/-- X(e), X without an __init__ -/
def tXv0 (C : Addr) (te : TE) : TE := fun σ H Q => te σ H fun _ H1 => ∀ a, H1 a = none → Q (.ref a) (upd H1 a (ExO (.ref C) a))
theorem w_xv0 {C : Addr} (h : EvW K te O ds fun _ O1 => Q (.xob C none) O1) : EvW K (tXv0 C te) O ds Q := fun Hk σ H p Q' k =>
  h Hk σ H p _ fun v r O1 Hk1 H1 e1 h1 s1 q1 a ha => by
    have sm : Same Hk1 (upd Hk1 a (ExO (.ref C) a)) := same_new (h1.kn.free ha)
    exact k _ (.xob C none) O1 _ _ (e1.trans sm) (h1.know ha) ⟨a, rfl, upd_same⟩ q1
/-- X(e), X's __init__ keeps e as its field f -/
def tXvI (C : Addr) (f : Str) (ta : TA) : TE := fun σ H Q => ta σ H fun vs H1 => vs.length ≤ 1000 ∧ ∀ a, H1 a = none → spIni C f (.ref a :: vs) (upd H1 a (exo a C none)) (fun v H2 => v = .non ∧ Q (.ref a) H2) (fun _ _ _ => False)
theorem w_xvI {C : Addr} {f : Str} (h : AvW K ta O ds fun rs O1 => ∃ d, rs = [.dat d] ∧ Q (.xob C (some (f, d))) O1) : EvW K (tXvI C f ta) O ds Q := fun Hk σ H p Q' k =>
  h Hk σ H p _ fun vs rs O1 Hk1 H1 e1 h1 s1 q1 => by
    obtain ⟨x, rfl, q⟩ := q1
    obtain ⟨v, rfl, hv⟩ := all1 s1
    refine ⟨Nat.le_of_ble_eq_true rfl, fun a ha => ⟨a, v, rfl, upd_same, fun dx hdx hne => ⟨rfl, ?_⟩⟩⟩
    rw [upd_ne hne] at hdx
    have eH : upd (upd (upd H1 a (exo a C none)) dx (exd dx [(f, v)])) a (exo a C (some dx)) = upd (upd H1 dx (exd dx [(f, v)])) a (exo a C (some dx)) := by
      funext b
      by_cases hb : b = a
      · rw [hb, upd_same, upd_same]
      · rw [upd_ne hb, upd_ne hb]
        by_cases hd : b = dx
        · rw [hd, upd_same, upd_same]
        · rw [upd_ne hd, upd_ne hd, upd_ne hb]
    rw [eH]
    have ha2 : upd H1 dx (exd dx [(f, v)]) a = none := by rw [upd_ne (Ne.symm hne)]; exact ha
    have h2 := h1.know (o := exd dx [(f, v)]) hdx
    have h3 := h2.know (o := exo a C (some dx)) ha2
    have s2 : Same Hk1 (upd Hk1 dx (exd dx [(f, v)])) := same_new (h1.kn.free hdx)
    have s3 : Same (upd Hk1 dx (exd dx [(f, v)])) (upd (upd Hk1 dx (exd dx [(f, v)])) a (exo a C (some dx))) := same_new (h2.kn.free ha2)
    exact k _ (.xob C (some (f, x))) O1 _ _ (e1.trans (s2.trans s3)) h3 ⟨a, rfl, dx, v, upd_same, by rw [upd_ne hne]; exact upd_same, Da.mono (s2.trans s3) hv⟩ q
/-- e.f of such a value -/
def tXvf (C : Addr) (f : Str) (te : TE) : TE := fun σ H Q => te σ H fun x H1 => ∃ a d fs v, x = .ref a ∧ H1 a = some (exo a C (some d)) ∧ H1 d = some (exd d fs) ∧ fs.lookup f = some v ∧ Q v H1
theorem w_xvf {C : Addr} {f : Str} (h : EvW K te O ds fun r O1 => ∃ x, r = .xob C (some (f, x)) ∧ Q (.dat x) O1) : EvW K (tXvf C f te) O ds Q := fun Hk σ H p Q' k =>
  h Hk σ H p _ fun v r O1 Hk1 H1 e1 h1 s1 q1 => by
    obtain ⟨x, rfl, q⟩ := q1
    obtain ⟨a, rfl, d, w, g1, g2, g3⟩ := s1
    exact ⟨a, d, _, w, rfl, h1.kn _ _ g1, h1.kn _ _ g2, by simp [List.lookup], k _ (.dat x) O1 Hk1 H1 e1 h1 g3 q⟩
/-- isinstance(e, c) of such a value -/
def rIsV (K : PySem.W.Frag) : List V → Hp → VK → Prop := fun xs H Q => ∃ (a C : Addr) (c : V) (cv : Value) (b : Bool), ExcC K C ∧ (H a = some (ExO (.ref C) a) ∨ ∃ d fs, H a = some (exo a C (some d)) ∧ H d = some (exd d fs)) ∧ xs = [.ref a, c] ∧ (∀ u, RelV c u → u = cv) ∧ PySem.W.kitOne K (.ref C) cv = some b ∧ Q (.bl b) H
theorem g_isV {C C' : Addr} {fs : Option (Str × PyData)} {b : Bool} (T : ExcC K C) (e : PySem.W.kitOne K (.ref C) (.ref C') = some b) (q : Q (bV b) O) : CbW K (rIsV K) [.xob C fs, .ad C'] O Q := fun Hk H h us hus Q' k => by
  obtain ⟨u, v, rfl, hu, hv⟩ := all2 hus
  cases (show v = .ref C' from hv)
  obtain ⟨a, rfl, hx⟩ := hu
  refine ⟨a, C, .ref C', .ref C', b, T, ?_, rfl, fun u r => r, e, k.now h (r := bV _) (.bl _) q⟩
  cases fs with
  | none => exact .inl (h.kn _ _ hx)
  | some p =>
    obtain ⟨d, w, h1, h2, _⟩ := hx
    exact .inr ⟨d, _, h.kn _ _ h1, h.kn _ _ h2⟩
theorem g_isVT {C : Addr} {n : String} {fs : Option (Str × PyData)} {b : Bool} (T : ExcC K C) (e : PySem.W.kitOne K (.ref C) (.type n) = some b) (q : Q (bV b) O) : CbW K (rIsV K) [.xob C fs, .ty n] O Q := fun Hk H h us hus Q' k => by
  obtain ⟨u, v, rfl, hu, hv⟩ := all2 hus
  cases (show v = .ty n from hv)
  obtain ⟨a, rfl, hx⟩ := hu
  refine ⟨a, C, .ty n, .type n, b, T, ?_, rfl, fun u r => r, e, k.now h (r := bV _) (.bl _) q⟩
  cases fs with
  | none => exact .inl (h.kn _ _ hx)
  | some p =>
    obtain ⟨d, w, h1, h2, _⟩ := hx
    exact .inr ⟨d, _, h.kn _ _ h1, h.kn _ _ h2⟩
theorem w_xob {i : Nat} {C : Addr} {fs : Option (Str × PyData)} (h : ds[i]? = some (.xob C fs)) (q : Q (.xob C fs) O) : EvW K (tVar i) O ds Q := w_var h (fun z => nomatch z) q
end
section
variable {X : Cx} {K : PySem.W.Frag}
theorem peXv0 {x : Str} {e : Expr} {te : TE} {p pos : Pos} {C : Addr} (T : ExN K X.mg x C) (hg : Gl X x) (he : PE X e te) (hK : X.K = K := by rfl) (hs : starEach [e] X.env = (false, eval e X.env) :: starEach [] X.env := by rfl) (hdb : (x == ("__debug__" : Str)) = false := by decide) :
    PE X (.Call (.Name x p) [e] [] pos) (tXv0 C te) := by
  subst hK
  exact pe_exc1 PySem.F.excBase_ValueError T.ex T.s.g T.s.k hg he hs hdb
theorem peXvI {x f : Str} {e : Expr} {p pos : Pos} {C : Addr} {ta : TA} (T : ExI X.prog X.w K X.mg X.base x f C) (hr : Room 2 X.A) (hg : Gl X x) (ha : PA X [e] ta) (hK : X.K = K := by rfl) (hdb : (x == ("__debug__" : Str)) = false := by decide)
    (he : starEach [e] X.env = (false, eval e X.env) :: starEach [] X.env := by rfl) (hpl : (backTo pos (starEach [] X.env)).any (·.1) = false := by rfl) :
    PE X (.Call (.Name x p) [e] [] pos) (tXvI C f ta) := by
  subst hK
  obtain ⟨fI, fd, iC, tI, F1, hb⟩ := T.ic
  refine ⟨fun pins s σ H Q I h => ?_⟩
  obtain ⟨nm, q, N, bs, bm, sn, sub, ab, col, dd, k0, k1, k2, k3, k5, hC, hbm⟩ := T.o.cls
  refine wpAny_Call_Name_kw (ld_glob I hg T.s.g ?_ hdb)
  refine PySem.W.callWith_K (h₀ := X.base) I.ok.mod.kin T.o.kC (thn (ha.run pos pins s σ H _ I h) fun us s1 ⟨vs, H1, I1, r1, hz, q1⟩ => ⟨I1.kIn, ?_⟩) he hpl
  show wpAny _ _ (call (.ref C) us) _ _ _
  obtain ⟨hp, g, dr, tk, os⟩ := s1
  have hsz : hp.objs.size ≤ hp.objs.size + 1 := Nat.le_succ _
  have hn : H1 (hp.objs.size + 1) = none := I1.hok.fresh hsz
  have hq := q1 (hp.objs.size + 1) hn
  have kk : ∀ b o, hp.get? b = some o → ((hp.push (PySem.W.kdv_tup us)).push (PySem.HandSPX.excO C hp.objs.size)).get? b = some o := fun b o e => Heap.get?_push_of_some _ (Heap.get?_push_of_some _ e)
  have hget : ((hp.push (PySem.W.kdv_tup us)).push (PySem.HandSPX.excO C hp.objs.size)).get? (hp.objs.size + 1) = some (PySem.HandSPX.excO C hp.objs.size) := by heap_get
  have I2 : Inv X pins σ (upd H1 (hp.objs.size + 1) (exo (hp.objs.size + 1) C none)) ⟨(hp.push (PySem.W.kdv_tup us)).push (PySem.HandSPX.excO C hp.objs.size), g, dr, tk, os⟩ :=
    I1.laid (t' := tk) (a := hp.objs.size + 1) (o := exo (hp.objs.size + 1) C none) (h' := (hp.push (PySem.W.kdv_tup us)).push (PySem.HandSPX.excO C hp.objs.size)) kk hsz (exo_ok hget)
  have r2 : Vals (V.ref (hp.objs.size + 1) :: vs) (Value.ref (hp.objs.size + 1) :: us) := .cons rfl r1
  have hl : (Value.ref (hp.objs.size + 1) :: us).length = ([("self" : Str), f] : List Str).length := by
    have e := r2.length
    rw [F1.len _ _ _ _ hq] at e
    exact e.symm
  have hus : us.length ≤ sizeLine := by
    rw [← Paired.length r1, sizeLine_eq]
    omega
  have hb2 := hb ⟨(hp.push (PySem.W.kdv_tup us)).push (PySem.HandSPX.excO C hp.objs.size), g, dr, tk, os⟩ (Value.ref (hp.objs.size + 1) :: us) I2.kIn (by rw [List.append_nil]; exact hl)
  rw [List.append_nil] at hb2
  refine wpAny_call (PySem.HandSPX.call_own F.excBase_ValueError (fun Y => PySem.HandSPX.refsVE_contains Y bm hbm) (I1.kIn _ _ hC) (PySem.W.looks_findIn I1.kIn iC) (fun self => PySem.W.bind_fn I1.kIn self tI) hus
    (codeAny_mono (F1.run _ X.stack _ _ ⟨Value.ref (hp.objs.size + 1) :: us, []⟩ (Value.ref (hp.objs.size + 1) :: us) _ _ (fun _ _ _ => False) (hr.make C us []) (I2.env0.make C us []) hb2 r2 hq) fun r s' hq' => ?_))
  cases r with
  | error er => exact hq'.elim
  | ok fl =>
    cases fl with
    | ret u =>
      obtain ⟨v, H2, I3, r3, ev, q2⟩ := I2.after hq'
      subst ev
      exact ⟨r3, .ref (hp.objs.size + 1), H2, I3, rfl, q2⟩
    | next => exact False.elim hq'
    | brk => exact False.elim hq'
    | cont => exact False.elim hq'
theorem peXvf {C : Addr} {e : Expr} {te : TE} {pos : Pos} {n x : Str} {mg : Str → Option Value} (T : ExS K mg x C) (hno : PySem.W.findIn K (.ref C) n = some none) (he : PE X e te) (hK : X.K = K := by rfl) (hb : attributeBase e n X.env (eval e X.env) = eval e X.env := by rfl) :
    PE X (.Attribute e n pos) (tXvf C n te) := by
  subst hK
  refine ⟨fun pins s σ H Q I h => ?_⟩
  refine attr_of hb (thn (he.run pins s σ H _ I h) fun u s1 hh => ?_)
  obtain ⟨x, H1, I1, rx, a, d, fs, v, ex, ea, ed, l, q⟩ := hh
  subst ex
  obtain rfl : u = Value.ref a := rx
  obtain ⟨t1, ho⟩ := exo_at I1.hok ea
  obtain ⟨mA, hns, hr⟩ := exd_at I1.hok ed
  obtain ⟨od, ho2, hl⟩ := lookIn_ns hns
  obtain ⟨u, hu, ru⟩ := RelO.some_of (v := v) (o := mA n) (by rw [← l]; exact hr n)
  have J : PySem.W.InstAt s1.heap a { cls := .ref C, dict := some d, data := .fields #[.ref t1, .none, .none, .none, .bool false, .none] } C (some od) := ⟨ho, rfl, rfl, ho2⟩
  exact PySem.HandSPX.exc_get I1.kIn J T.xf.ga T.xf.gg T.xf.exC (PySem.W.findObj_own T.xf.hdC hno rfl (by rw [hl, hu])) (handed_of ru) ⟨v, H1, I1.tok _, ru, q⟩
theorem kIsV (hK : X.K = K := by rfl) : CallR X (.builtin "isinstance") (rIsV K) := by
  subst hK
  intro pins s σ H xs us Q I r h
  obtain ⟨a, C, c, cv, b, T, hx, rfl, hcv, e, q⟩ := h
  cases r with
  | cons rx rr =>
    cases rr with
    | cons rt rr =>
      cases rr
      cases rx
      have ec := hcv _ rt
      subst ec
      have J : ∃ oe od, PySem.W.InstAt s.heap a oe C od := by
        rcases hx with ha | ⟨d, fs, ha, hd⟩
        · obtain ⟨⟨oe, vs, g1, g2, g3, _⟩, _⟩ := I.hok a _ ha
          refine ⟨oe, none, g1, g2.1, by unfold PySem.W.notCls; rw [g3] <;> rfl, ?_⟩
          rw [g2.2]
          trivial
        · obtain ⟨t1, ho⟩ := exo_at I.hok ha
          obtain ⟨mA, hns, hr⟩ := exd_at I.hok hd
          obtain ⟨od, ho2, hl⟩ := lookIn_ns hns
          exact ⟨_, some od, ho, rfl, rfl, ho2⟩
      obtain ⟨oe, od, J⟩ := J
      exact PySem.W.kia_one (PySem.W.kitx_exc (any_isSome T.hd) T.hg T.hk T.hs T.ha T.hn T.ht T.hm) I.kIn J e (fun z => nomatch z) fun tk => ⟨.bl b, H, I.kept (t' := tk) fun _ _ z => z, rfl, q⟩
end
end Wk
namespace Wk
open PySem PySem.Spec PyProof.Rows L2
section
variable {K : PySem.W.Frag} {Hk Hk' H H' : Hp} {O O' Oa : Own} {ds : List SD} {σ : L2.St} {Q : SD → Own → Prop} {Q' : VK} {x y : SD} {A : AE} {D : Ends} {t u : TS} {te : TE} {ta : TA} {W : WX}
  {Qs : Addr → Option (Str × PyData) → Own → List SD → Prop}
/-! ### while -/
structure BdyW (I : Nat → Own → List SD → Prop) (m : Nat) (A B : AE) : Prop where
  nx : ∀ m' O ds, m' < m → I m' O ds → B.nx O ds
  ct : ∀ m' O ds, m' < m → I m' O ds → B.ct O ds
  rt : ∀ r O, A.rt r O → B.rt r O
  bk : ∀ O ds, A.nx O ds → B.bk O ds
  xt : ∀ Hk, B.xt Hk → A.xt Hk
theorem s_while {tc : TT} {tb : TS} (I : Nat → Own → List SD → Prop) (h0 : ∃ m, I m O ds)
    (hs : ∀ m O1 ds1, I m O1 ds1 → TvW K tc O1 ds1 fun b O2 => (b = true → ∀ B : AE, BdyW I m A B → StW K tb O2 ds1 B) ∧ (b = false → A.nx O2 ds1)) : StW K (tWhile tc tb) O ds A := fun Hk σ H D p l => by
  obtain ⟨m0, h0⟩ := h0
  refine ⟨fun m σ H => ∃ O2 ds2 Hk2, Same Hk Hk2 ∧ Pt K Hk2 O2 ds2 σ H ∧ I m O2 ds2, ⟨m0, O, ds, Hk, Same.refl _, p, h0⟩, ?_⟩
  rintro m σ' H' ⟨O2, ds2, Hk2, e, p2, q⟩
  refine hs m O2 ds2 q Hk2 σ' H' p2 _ fun b O3 Hk3 H3 e3 h3 q3 => ?_
  have e4 := e.trans e3
  cases b with
  | false => exact iteF (l.nx O3 ds2 Hk3 σ' H3 e4 (p2.ext e3 h3) (q3.2 rfl))
  | true =>
    refine iteT ⟨fun σ2 H2 => ∃ m', m' < m ∧ ∃ O4 ds4 Hk4, Same Hk Hk4 ∧ Pt K Hk4 O4 ds4 σ2 H2 ∧ I m' O4 ds4, fun σ2 H2 ⟨m', hm, hh⟩ => ⟨m', hm, hh⟩, ?_⟩
    exact q3.1 rfl ⟨fun O ds => ∃ m', m' < m ∧ I m' O ds, A.rt, A.nx, fun O ds => ∃ m', m' < m ∧ I m' O ds, A.xt⟩ ⟨fun m' _ _ h1 h2 => ⟨m', h1, h2⟩, fun m' _ _ h1 h2 => ⟨m', h1, h2⟩, fun _ _ h => h, fun _ _ h => h, fun _ h => h⟩
      Hk3 σ' H3 _ (p2.ext e3 h3) ⟨fun O5 ds5 Hk5 σ5 H5 e5 p5 ⟨m', h1, h2⟩ => ⟨m', h1, O5, ds5, Hk5, e4.trans e5, p5, h2⟩, l.rt.ext e4, l.nx.ext e4, fun O5 ds5 Hk5 σ5 H5 e5 p5 ⟨m', h1, h2⟩ => ⟨m', h1, O5, ds5, Hk5, e4.trans e5, p5, h2⟩, l.xt.ext e4⟩
/-! ### x += e -/
theorem s_aug {i : Nat} {f : Int → Int → Int} (h : ∃ x, ds[i]? = some (iV x) ∧ EvW K te O ds fun r O1 => ∃ y, r = iV y ∧ A.nx O1 (ds.set i (iV (f x y)))) : StW K (tAug i te (ipI f)) O ds A := fun Hk σ H D p l => by
  obtain ⟨x, hx, h⟩ := h
  obtain z | ⟨v, hv, sv⟩ := p.env i _ hx
  · cases z
  · cases (show Da Hk v (.int x) from sv)
    refine ⟨.int x, hv, h Hk σ H p _ fun v2 r O1 Hk1 H1 e1 h1 s1 q1 => ?_⟩
    obtain ⟨y, rfl, q⟩ := q1
    cases (show Da Hk1 v2 (.int y) from s1)
    exact ⟨x, y, rfl, rfl, l.nx _ _ Hk1 _ _ e1 ((p.ext e1 h1).set (r := iV (f x y)) (.int _)) q⟩
/-! ### for a, b in zip(t, u), tuples -/
theorem s_forZT {ta : TA} {j1 j2 : Nat} {tb : TS} (h : AvW K ta O ds fun rs O1 => ∃ es fs : List PyData, rs = [.dat (.tuple es), .dat (.tuple fs)] ∧ ∃ I : Nat → Own → List SD → Prop, I 0 O1 ds ∧
    (∀ (i : Nat) d e O2 ds2, es[i]? = some d → fs[i]? = some e → I i O2 ds2 → ∀ B : AE, Bdy I i A B → StW K tb O2 ((ds2.set j1 (.dat d)).set j2 (.dat e)) B) ∧ ∀ O2 ds2, I (min es.length fs.length) O2 ds2 → A.nx O2 ds2) :
    StW K (tFor (RZ.iZipA K ta) (gTup K 2 (gCons (gName j1) (gCons (gName j2) gNil))) tb) O ds A := fun Hk σ H D p l =>
  h Hk σ H p _ fun vs rs O1 Hk1 H1 e1 h1 s1 q1 => by
    obtain ⟨es, fs, rfl, I, h0, hs, hd⟩ := q1
    obtain ⟨v, u, rfl, hv, hu⟩ := all2 s1
    cases (show Da Hk1 v (.tuple es) from hv) with
    | @tup a xs _ g1 g2 =>
      cases (show Da Hk1 u (.tuple fs) from hu) with
      | @tup b ys _ k1 k2 =>
      refine ⟨a, b, xs, ys, rfl, .inr ⟨.inl (.inl (h1.kn _ _ g1)), .inl (.inl (h1.kn _ _ k1)), fun i m σ H => m = min xs.length ys.length - i ∧ i ≤ min xs.length ys.length ∧ ∃ O2 ds2 Hk2, Same Hk1 Hk2 ∧ Pt K Hk2 O2 ds2 σ H ∧ I i O2 ds2, ⟨min xs.length ys.length, by simp, Nat.zero_le _, O1, ds, Hk1, Same.refl _, p.ext e1 h1, h0⟩, ?_⟩⟩
      rintro i m σ' H' ⟨rfl, hi, O2, ds2, Hk2, e, p2, q⟩
      have sq : SqT K H' a xs := .inl (.inl (p2.hold.kn _ _ (e _ _ g1)))
      have sk : SqT K H' b ys := .inl (.inl (p2.hold.kn _ _ (e _ _ k1)))
      by_cases hlt : i < min xs.length ys.length
      · have hlx : i < xs.length := by omega
        have hly : i < ys.length := by omega
        have hx : xs[i]? = some xs[i] := List.getElem?_eq_getElem hlx
        have hy : ys[i]? = some ys[i] := List.getElem?_eq_getElem hly
        refine .inr ⟨⟨xs, ys, xs[i], ys[i], sq, sk, hx, hy⟩, fun σ2 H2 => ∃ O3 ds3 Hk3, Same Hk1 Hk3 ∧ Pt K Hk3 O3 ds3 σ2 H2 ∧ I (i + 1) O3 ds3, fun σ2 H2 hN => ⟨min xs.length ys.length - (i + 1), by omega, rfl, hlt, hN⟩, fun x H2 y => ?_⟩
        obtain ⟨T, x', y', rfl, nT, rfl, fx, fy⟩ := y
        have ex : x' = xs[i] := by
          have := fx xs sq
          rw [hx] at this
          exact (Option.some.inj this).symm
        have ey : y' = ys[i] := by
          have := fy ys sk
          rw [hy] at this
          exact (Option.some.inj this).symm
        obtain ⟨d, hd1, hd2⟩ := g2.getV hx
        obtain ⟨d', hd3, hd4⟩ := k2.getV hy
        have smT : Same Hk2 (upd Hk2 T (.tup [x', y'])) := same_new (p2.hold.kn.free nT)
        have p3 : Pt K (upd Hk2 T (.tup [x', y'])) O2 ds2 σ' (upd H' T (.tup [x', y'])) := p2.ext smT (p2.hold.know nT)
        refine ⟨T, [x', y'], rfl, .inl (.inl upd_same), rfl, x', [y'], rfl, y', [], rfl, rfl, ?_⟩
        have hdx : SDok K (upd Hk2 T (.tup [x', y'])) x' (.dat d) := by
          have := Da.mono (e.trans smT) hd2
          rw [← ex] at this
          exact this
        have hdy : SDok K (upd Hk2 T (.tup [x', y'])) y' (.dat d') := by
          have := Da.mono (e.trans smT) hd4
          rw [← ey] at this
          exact this
        have e4 := e.trans smT
        exact hs i d d' O2 ds2 hd1 hd3 q _ .mk' _ _ _ _ ((p3.set (j := j1) hdx).set (j := j2) hdy) ⟨fun O3 ds3 Hk3 σ3 H3 e3 p3 q3 => ⟨O3, ds3, Hk3, e4.trans e3, p3, q3⟩, l.rt.ext (e1.trans e4), l.nx.ext (e1.trans e4), fun O3 ds3 Hk3 σ3 H3 e3 p3 q3 => ⟨O3, ds3, Hk3, e4.trans e3, p3, q3⟩, l.xt.ext (e1.trans e4)⟩
      · have ei : i = min xs.length ys.length := by omega
        refine .inl ⟨⟨xs, ys, sq, sk, by omega⟩, ?_⟩
        rw [ei, g2.length, k2.length] at q
        exact l.nx O2 ds2 Hk2 σ' H' (e1.trans e) p2 (hd O2 ds2 q)
theorem pi_zipT {X : Cx} (K : PySem.W.Frag) {e e2 : Expr} {ta : TA} {p pos tpos : Pos} {elts : List Expr} {kk : Nat} (hg : Gl X "zip") (hm : X.mg "zip" = none) (ha : PA X [e, e2] ta) (hK : X.K = K := by rfl)
    (hs : starEach [e, e2] X.env = (false, eval e X.env) :: starEach [e2] X.env := by rfl) (hpl : (backTo pos (starEach [e2] X.env)).any (·.1) = false := by rfl) :
    PI X (.Tuple elts kk tpos) (.Call (.Name "zip" p) [e, e2] [] pos) (RZ.iZipA K ta) := hK ▸ RZ.pi_zipA hg hm ha hs hpl
/-! ### xs.extend(ys) -/
theorem m_ext {a : Addr} {rs : List SD} {es : List PyData} (l : Lst ((a, OD.lst rs) :: Oa) x es) (hx : x ≠ .ad a) (hz : rs.length + es.length ≤ 1000000) (q : Q (.dat .none) ((a, .lst (rs ++ es.map .dat)) :: Oa)) : MbW K rExtend (.ad a) [x] ((a, OD.lst rs) :: Oa) Q := fun Hk H h u us hu hus Q' k => by
  obtain ⟨v, rfl, hv⟩ := all1 hus
  obtain ⟨b, zs, rfl, hb, hd⟩ := l.get h hv
  have e : u = .ref a := hu
  subst e
  obtain ⟨⟨vs, ha, hvs⟩, _⟩ := h.ow (a, .lst rs) List.mem_cons_self
  refine ⟨a, b, vs, zs, rfl, rfl, ha, hb, ?_, ?_⟩
  · rw [hvs.length, hd.length]
    exact Nat.le_trans hz (by decide)
  · exact k _ (.dat .none) _ Hk _ (Same.refl _) (h.write (hvs.append (SDall.of_dats hd))) .non q
/-! ### texts with values -/
def tJf (ts : List TE) : TE := fun σ H Q => tJs ts Str.empty σ H fun out H1 => Q (.str out) H1
def JsW (K : PySem.W.Frag) (ts : List TE) (n : Nat) (O : Own) (ds : List SD) (Q : Own → Prop) : Prop :=
  ∀ Hk σ H, Pt K Hk O ds σ H → ∀ acc : Str, acc.length ≤ n → ∀ Q' : Str → Hp → Prop, (∀ out O2 Hk2 H2, Same Hk Hk2 → Hold K Hk2 O2 H2 → Q O2 → Q' out H2) → tJs ts acc σ H Q'
theorem j_nil {n : Nat} {Q : Own → Prop} (q : Q O) : JsW K [] n O ds Q := fun Hk σ H p acc _ Q' k => k acc O Hk H (Same.refl _) p.hold q
theorem j_str {n : Nat} {m : Str} {ts : List TE} {Q : Own → Prop} (h : JsW K ts (n + 1000) O ds Q) (hm : m.length ≤ 1000 := by decide) (hn : n ≤ 100000 := by decide) : JsW K (tC (.str m) :: ts) n O ds Q := fun Hk σ H p acc ha Q' k => by
  have e0 : (acc ++ m).length ≤ n + 1000 := by
    rw [Str.length_append]
    omega
  exact ⟨m, rfl, Nat.le_trans e0 (Nat.le_trans (Nat.add_le_add_right hn _) (by decide)), h Hk σ H p _ e0 Q' k⟩
theorem j_fmt {n : Nat} {ts : List TE} {Q : Own → Prop} (h : EvW K te O ds fun r O1 => ∃ i : Int, r = iV i ∧ i.natAbs.log2 < 1920 ∧ JsW K ts (n + 3000) O1 ds Q) (hn : n ≤ 100000 := by decide) : JsW K (tFmt te :: ts) n O ds Q := fun Hk σ H p acc ha Q' k => by
  refine h Hk σ H p _ fun v r O1 Hk1 H1 e1 h1 s1 q1 => ?_
  obtain ⟨i, rfl, hi, q⟩ := q1
  cases (show Da Hk1 v (.int i) from s1)
  have e := int_text_length_le (k := 1920) (by decide) hi
  have e0 : (acc ++ toString i).length ≤ n + 3000 := by
    rw [Str.length_append]
    show acc.length + (PySem.Str.ofString (toString i)).length ≤ _
    rw [PySem.ofString_length]
    omega
  exact .inr ⟨i, rfl, hi, _, rfl, Nat.le_trans e0 (Nat.le_trans (Nat.add_le_add_right hn _) (by decide)), q Hk1 σ H1 (p.ext e1 h1) _ e0 Q' fun out O2 Hk2 H2 e2 => k out O2 Hk2 H2 (e1.trans e2)⟩
theorem w_js {ts : List TE} (h : JsW K ts 0 O ds fun O1 => ∀ s, Q (.dat (.str s)) O1) : EvW K (tJf ts) O ds Q := fun Hk σ H p Q' k =>
  h Hk σ H p Str.empty (Nat.le_refl _) _ fun out O2 Hk2 H2 e2 h2 q => k _ (.dat (.str out)) O2 Hk2 H2 e2 h2 (.str out) (q out)
theorem psJf {X : Cx} {v1 v2 : Expr} {rest : List Expr} {ts : List TE} {pos : Pos} (h : PJ X (v1 :: v2 :: rest) ts) : PE X (.JoinedStr (v1 :: v2 :: rest) pos) (tJf ts) := pe_joined h
theorem psExt {X : Cx} (K : PySem.W.Frag) {st : Stmt} {to : TE} {ta : TA} (hs : PS X st (tDrop (tBM X.K "list" rExtend to ta))) (h : X.K = K := by rfl) : PS X st (tDrop (tBM K "list" rExtend to ta)) := h ▸ hs
theorem sx_drop (hW : ∀ Hk, A.xt Hk → KonW K Hk Qs W) (h : EvX K W Qs te O ds fun _ O1 => A.nx O1 ds) : StW K (tDrop te) O ds A := fun Hk σ H D p l =>
  h Hk σ H p (hW Hk (l.xt Hk (Same.refl _))) _ fun v r O1 Hk1 H1 e1 h1 s1 q1 => l.nx _ _ Hk1 _ _ e1 (p.ext e1 h1) q1
/-! ### is None -/
theorem o_notN {d : PyData} {b : Bool} (hb : b = match d with | .none => false | _ => true) (q : Q (bV b) O) : OpW K (fun x y H Q => y = .non ∧ Q (.bl (!decide (x = .non))) H) (.dat d) (.dat .none) O Q := fun Hk H h u v hu hv Q' k => by
  cases (show Da Hk v .none from hv)
  refine ⟨rfl, ?_⟩
  have e : (!decide (u = V.non)) = b := by
    rw [hb]
    cases (show Da Hk u d from hu) <;> simp
  rw [e]
  exact k.now h (r := bV b) (.bl b) q
theorem o_isN {d : PyData} {b : Bool} (hb : b = match d with | .none => true | _ => false) (q : Q (bV b) O) : OpW K (fun x y H Q => y = .non ∧ Q (.bl (decide (x = .non))) H) (.dat d) (.dat .none) O Q := fun Hk H h u v hu hv Q' k => by
  cases (show Da Hk v .none from hv)
  refine ⟨rfl, ?_⟩
  have e : (decide (u = V.non)) = b := by
    rw [hb]
    cases (show Da Hk u d from hu) <;> simp
  rw [e]
  exact k.now h (r := bV b) (.bl b) q
/-! ### try .. except X: -/
def tTryO (K : PySem.W.Frag) (c : Value) (tb : WX → TS) (ts : Addr → Value → Option Addr → TS) (Wout : WX) : TS := fun D σ H => tb (wOnly K c ts Wout D) D σ H
theorem s_tryO {c : Value} {tb : WX → TS} {ts : Addr → Value → Option Addr → TS} {Wout : WX} (Qs : Addr → Option (Str × PyData) → Own → List SD → Prop)
    (hb : ∀ W : WX, StW K (tb W) O ds { A with xt := fun Hk => KonW K Hk Qs W })
    (hs : ∀ C fs O2 ds2, Qs C fs O2 ds2 → PySem.W.exmOne K (.ref C) c = some true ∧ ∀ (a : Addr) (cls : Value) (d : Option Addr), StW K (ts a cls d) O2 ds2 A) : StW K (tTryO K c tb ts Wout) O ds A := fun Hk σ H D p l => by
  refine hb (wOnly K c ts Wout D) Hk σ H D p ⟨l.nx, l.rt, l.bk, l.ct, fun Hk' e' cls d C fs σ2 O2 ds2 Hk2 H2 e2 p2 ok q => ?_⟩
  obtain ⟨ec, hsu⟩ := hs C fs O2 ds2 q
  have ec2 := ok.1
  subst ec2
  exact ⟨true, ec, fun _ a ha => hsu a (.ref C) d Hk2 σ2 H2 D p2 (l.ext (e'.trans e2)), fun z => Bool.noConfusion z⟩
theorem psTryO {X : Cx} {x : Str} {C : Addr} {body suite : List Stmt} {b₀ : Stmt} {np pos pos' : Pos} {tb : WX → TS} {ts : Addr → Value → Option Addr → TS} {Wout : WX}
    (hb : ∀ (W : WX) (pn : List (Addr × Obj)) (xe : Value → Shared → Prop), Takes (X.tr pn xe) W → PSs (X.tr pn xe) body (tb W))
    (hsu : ∀ (a : Addr) (oe : Obj) (cls : Value) (d : Option Addr) (pn : List (Addr × Obj)), Zc cls d oe → (∃ vs, oe.data = .fields vs) → PSs (X.suite a ((a, oe) :: pn)) (b₀ :: suite) (ts a cls d))
    (hs : X.stack = X.env :: X.outer) (hf : X.env.frame = some X.env.locals) (hc : Names X x (.ref C)) (tk : Takes X Wout) (hK : X.K = K := by rfl) :
    PS X (.Try body [.ExceptHandler (some (.Name x np)) none (b₀ :: suite) pos'] [] [] pos) (tTryO K (.ref C) tb ts Wout) := by
  subst hK
  exact ps_try_only hs hf hc tk (fun W pn xe t _ => hb W pn xe t) hsu
theorem log_ok {n : Int} (h1 : -(2 ^ 62) ≤ n) (h2 : n ≤ 2 ^ 62) : n.natAbs.log2 < 1920 := by
  by_cases h : n.natAbs = 0
  · rw [h]; decide
  · have : n.natAbs.log2 < 63 := (Nat.log2_lt h).mpr (by omega)
    omega
end
end Wk
namespace Wk
open PySem PySem.Spec PyProof.Rows L2
/-! ### t[::-1], a tuple -/
section
variable {prog : Program} {w : World} {A : Around} {E : Value → Shared → Prop} {s : Shared}
theorem rev_adjust (n : Nat) : Builtin.Slice.sliceAdjust none none (-1) (n : Int) = ((n : Int) - 1, -1) := by
  unfold Builtin.Slice.sliceAdjust
  rfl
theorem rev_places (n : Nat) : Builtin.Slice.slicePlaces ((n : Int) - 1) (-1) (-1) = n := by
  unfold Builtin.Slice.slicePlaces
  have h1 : ¬ ((-1 : Int) > 0) := by omega
  simp only [h1, if_false]
  by_cases h : (n : Int) - 1 > -1
  · simp only [h, if_true]
    rw [show (- -1 : Int) = 1 by decide, Int.ediv_one]
    omega
  · simp only [h, if_false]
    omega
theorem fm_range {α : Type} {f : Nat → Option α} {g : Nat → α} : ∀ (n : Nat), (∀ m, m < n → f m = some (g m)) → (List.range n).filterMap f = (List.range n).map g
  | 0, _ => rfl
  | n + 1, h => by
    rw [List.range_succ, List.filterMap_append, List.map_append, fm_range n fun m hm => h m (by omega)]
    congr 1
    simp [h n (by omega)]
theorem rev_pick1 (ys : List Value) : (List.range ys.length).filterMap (fun (m : Nat) => ys[(((ys.length : Int) - 1) + (m : Int) * (-1)).toNat]?) = ys.reverse := by
  rw [fm_range (g := fun m => ys.reverse.getD m .none) ys.length fun m hm => ?_]
  · apply List.ext_getElem?
    intro i
    by_cases hi : i < ys.length
    · rw [List.getElem?_map, List.getElem?_range hi, List.getElem?_eq_getElem (by rw [List.length_reverse]; exact hi)]
      show some (ys.reverse.getD i .none) = _
      rw [List.getD_eq_getElem?_getD, List.getElem?_eq_getElem (by rw [List.length_reverse]; exact hi)]
      rfl
    · rw [List.getElem?_eq_none (by simp; omega), List.getElem?_eq_none (by rw [List.length_reverse]; omega)]
  · have e1 : (((ys.length : Int) - 1) + (m : Int) * (-1)).toNat = ys.length - 1 - m := by omega
    have hm2 : m < ys.reverse.length := by rw [List.length_reverse]; exact hm
    rw [e1, List.getElem?_eq_getElem (by omega), List.getD_eq_getElem?_getD, List.getElem?_eq_getElem hm2, List.getElem_reverse]
    rfl
theorem rev_pick (xs : Array Value) : ((List.range xs.size).filterMap fun (m : Nat) => xs[(((xs.size : Int) - 1) + (m : Int) * (-1)).toNat]?).toArray = xs.toList.reverse.toArray := by
  have h2 := rev_pick1 xs.toList
  rw [Array.length_toList] at h2
  rw [← h2]
  congr 1
  congr 1
  funext m
  rw [Array.getElem?_toList]
theorem sliceApplied_rev {sl : Addr} {vs : Value} {n : Nat} {Q : Int × Int × Nat → Shared → Prop} (hs : s.heap.IsSliceOf sl .none .none vs) (ps : IsPart vs (some (-1)))
    (h : Q ((n : Int) - 1, -1, n) s) : wpAny (model prog w) A (Builtin.Slice.sliceApplied (.ref sl) (pure (n : Int))) Q E s := by
  obtain ⟨os, hos, hcs, hds⟩ := id hs
  unfold Builtin.Slice.sliceApplied Builtin.Slice.sliceFields
  refine wpAny_bind (wpAny_bind (wpAny_field hos hds (x := .none) rfl (wpAny_bind (wpAny_field hos hds (x := .none) rfl (wpAny_bind (wpAny_field hos hds (x := vs) rfl (wpAny_pure ?_)))))))
  refine wpAny_bind (HT.slicePart_ ps ?_)
  show wpAny _ _ (if ((-1 : Int) == 0) = true then _ else _) _ _ s
  rw [if_neg (by decide)]
  refine wpAny_bind (HT.slicePart_ .none (wpAny_bind (HT.slicePart_ .none (wpAny_bind (wpAny_pure ?_)))))
  show wpAny _ _ (match Builtin.Slice.sliceAdjust none none (-1) (n : Int) with | (lo, hi) => pure (lo, (-1 : Int), Builtin.Slice.slicePlaces lo hi (-1))) _ _ s
  rw [rev_adjust n]
  show wpAny _ _ (pure ((n : Int) - 1, (-1 : Int), Builtin.Slice.slicePlaces ((n : Int) - 1) (-1) (-1))) _ _ s
  rw [rev_places]
  exact wpAny_pure h
theorem getItem_tuple_rev {t sl : Addr} {items : Array Value} {vs : Value} {Q : Value → Shared → Prop} (ht : IsTup s.heap t items) (hs : s.heap.IsSliceOf sl .none .none vs) (ps : IsPart vs (some (-1)))
    (h : Q (.ref s.heap.objs.size) { s with heap := s.heap.push { cls := .type "tuple", data := .seq items.toList.reverse.toArray } })
    (hsz : items.size ≤ sizeLine) : wpAny (model prog w) A (getItem (.ref t) (.ref sl)) Q E s := by
  have htake : sizeOk (.seq items.toList.reverse.toArray) := by
    show items.toList.reverse.toArray.size ≤ sizeLine
    rw [List.size_toArray, List.length_reverse, Array.length_toList]
    exact hsz
  obtain ⟨os, hos, hcs, hds⟩ := id hs
  have hTs : s.TypeIs (.ref sl) "slice" := ⟨os, hos, hcs⟩
  unfold getItem
  try with_reducible refine wpAny_holding ?_
  first | refine wpAny_bind (wpAny_pure ?_) | skip
  refine wpAny_bind (wpAny_sequenceKey ht.typeIs (by decide) ?_)
  refine wpAny_bind (wpAny_callSpecial?_slot (name := Str.ofString "__getitem__") ht.typeIs PyProof.Rows.slot_tuple_getitem
    (wpAny_call_entry PyProof.Rows.slot_tuple_getitem ht.typeIs entry_tuple_getitem ?_ (args_tuple_getitem _ _)))
  show wpAny _ _ (Builtin.Tuple.tupleItemsOf (.ref t) >>= _) _ _ s
  refine wpAny_bind (tupleItemsOf_ ht ?_)
  refine wpAny_bind (wpAny_typeOf hTs ?_)
  rw [if_pos (by decide)]
  refine wpAny_bind (sliceApplied_rev hs ps ?_)
  have hno : ¬ ((((items.size : Int) - 1) == 0 && (-1 : Int) == 1 && items.size == items.size) = true) := by
    intro q
    rw [Bool.and_eq_true, Bool.and_eq_true] at q
    have q2 : (-1 : Int) = 1 := eq_of_beq q.1.2
    omega
  show wpAny _ _ (if (((items.size : Int) - 1) == 0 && (-1 : Int) == 1 && items.size == items.size) = true then _ else _) _ _ s
  rw [if_neg hno, rev_pick]
  first
    | exact wpAny_bind (m := Builtin.Tuple.tupleExact _) (wpAny_newObj_type (wpAny_pure ⟨_, rfl, wpAny_pure h⟩) htake)
    | exact wpAny_bind (m := Builtin.Tuple.tupleExact _) (wpAny_newObj_type (wpAny_bind (wpAny_pure (wpAny_pure ⟨_, rfl, wpAny_pure h⟩))) htake)
    | exact wpAny_bind (wpAny_bind (m := Builtin.Tuple.tupleExact _) (wpAny_newObj_type (wpAny_pure (wpAny_pure ⟨_, rfl, wpAny_pure h⟩)) htake))
    | exact wpAny_bind (wpAny_bind (m := Builtin.Tuple.tupleExact _) (wpAny_newObj_type (wpAny_pure ⟨_, rfl, wpAny_pure h⟩) htake))
end
section
variable {X : Cx}
def tRevT (K : PySem.W.Frag) (te : TE) : TE := fun σ H Q => te σ H fun x H1 => ∃ a xs, x = .ref a ∧ SqT K H1 a xs ∧ ∀ p, H1 p = none → Q (.ref p) (upd H1 p (.tup xs.reverse))
theorem pe_revT {e : Expr} {te : TE} {k : Nat} {p1 p2 p3 pos : Pos} (he : PE X e te) : PE X (.Subscript e (.Slice none none (some (.UnaryOp .USub (.Constant (.int 1) k p1) p2)) p3) pos) (tRevT X.K te) := by
  refine ⟨fun pins s σ H Q I h => ?_⟩
  refine Subscript_ (thn (he.run pins s σ H _ I h) fun v s1 ⟨x, H1, I1, r1, q1⟩ => ?_)
  obtain ⟨a, xs, ex, hx, q⟩ := q1
  subst ex
  cases r1
  have hst : PO X (some (.UnaryOp .USub (.Constant (.int 1) k p1) p2)) (tPart (tUn (rU fun i => .int (-i)) (tC (.int 1)))) := po_some (pe_un un_neg pe_int)
  refine wpAny_Slice (thn (po_none.run pins s1 σ H1 (fun o H2 => o = none ∧ H2 = H1) I1 ⟨rfl, rfl⟩) fun vl s2 ⟨l, H2, I2, pl, el, e2⟩ => ?_)
  subst el e2
  refine thn (po_none.run pins s2 σ H2 (fun o H3 => o = none ∧ H3 = H2) I2 ⟨rfl, rfl⟩) fun vu s3 ⟨u, H3, I3, pu, eu, e3⟩ => ?_
  subst eu e3
  refine thn (hst.run pins s3 σ H3 (fun o H4 => o = some (-1) ∧ H4 = H3) I3 ⟨1, rfl, -1, rfl, rfl, rfl⟩) fun vs s4 ⟨o, H4, I4, ps, eo, e4⟩ => ?_
  subst eo e4
  have I5 : Inv X pins σ H4 { s4 with heap := s4.heap.push { cls := .type "slice", data := .fields #[vl, vu, vs] } } := I4.kept (t' := s4.toks) fun b ob q => Heap.get?_push_of_some _ q
  obtain ⟨its, r, ht, hz⟩ := I5.tuple hx
  have hlen := r.length
  cases pl
  cases pu
  show wpAny (model X.prog X.w) X.A (subscriptTail e (.Slice none none (some (.UnaryOp .USub (.Constant (.int 1) k p1) p2)) p3) (.ref a) (.ref s4.heap.objs.size)) (EP X pins σ Q) X.xe { s4 with heap := s4.heap.push { cls := .type "slice", data := .fields #[.none, .none, vs] } }
  refine tail_any (ops := [.ref a, .ref s4.heap.objs.size]) ht.typeIs (PyProof.Rows.slot_tuple_getitem.lookup) ?_ (by with_unfolding_all rfl)
  refine getItem_tuple_rev ht (Heap.IsSliceOf.new _ .none .none vs) ps ?_ (by rw [List.size_toArray]; omega)
  refine ⟨.ref _, _, I5.laid (t' := s4.toks) (o := .tup xs.reverse) (fun b ob q => Heap.get?_push_of_some _ q) (Nat.le_refl _) ?_, rfl, q _ (I5.hok.fresh (Nat.le_refl _))⟩
  exact ⟨by rw [List.length_reverse]; exact hz, _, r.reverse, ⟨_, Heap.get?_push_size _ rfl, rfl, _, rfl⟩⟩
theorem peRevT (K : PySem.W.Frag) {e : Expr} {te : TE} {k : Nat} {p1 p2 p3 pos : Pos} (he : PE X e te) (h : X.K = K := by rfl) : PE X (.Subscript e (.Slice none none (some (.UnaryOp .USub (.Constant (.int 1) k p1) p2)) p3) pos) (tRevT K te) := h ▸ pe_revT he
end
section
variable {K : PySem.W.Frag} {O : Own} {ds : List SD} {Q : SD → Own → Prop} {te : TE}
theorem w_revT (h : EvW K te O ds fun r O1 => ∃ es : List PyData, r = .dat (.tuple es) ∧ Q (.dat (.tuple es.reverse)) O1) : EvW K (tRevT K te) O ds Q := fun Hk σ H p Q' k =>
  h Hk σ H p _ fun v r O1 Hk1 H1 e1 h1 s1 q1 => by
    obtain ⟨es, rfl, q⟩ := q1
    cases (show Da Hk1 v (.tuple es) from s1) with
    | @tup a xs _ g1 g2 =>
      refine ⟨a, xs, rfl, .inl (.inl (h1.kn _ _ g1)), fun pn hf => ?_⟩
      have sm : Same Hk1 (upd Hk1 pn (.tup xs.reverse)) := same_new (h1.kn.free hf)
      exact k _ (.dat (.tuple es.reverse)) O1 _ _ (e1.trans sm) (h1.know hf) (.tup upd_same (DaAll.mono sm g2.reverse)) q
end
end Wk
namespace Wk
open PySem PySem.Spec PyProof.Rows L2
section
variable {K : PySem.W.Frag} {Hk Hk' H H' : Hp} {O O' Oa : Own} {ds : List SD} {σ : L2.St} {Q : SD → Own → Prop} {Q' : VK} {x y : SD} {A : AE} {D : Ends} {t u : TS} {te : TE} {ta : TA}
/-! ### for i, x in enumerate(xs), a list -/
theorem s_forEL {ta : TA} {j1 j2 : Nat} {tb : TS} (h : AvW K ta O ds fun rs O1 => ∃ es : List PyData, rs = [.dat (.list es)] ∧ ∃ I : Nat → Own → List SD → Prop, I 0 O1 ds ∧
    (∀ (i : Nat) d O2 ds2, es[i]? = some d → I i O2 ds2 → ∀ B : AE, Bdy I i A B → StW K tb O2 ((ds2.set j1 (iV (i : Int))).set j2 (.dat d)) B) ∧ ∀ O2 ds2, I es.length O2 ds2 → A.nx O2 ds2) :
    StW K (tFor (iEnum K ta) (gTup K 2 (gCons (gName j1) (gCons (gName j2) gNil))) tb) O ds A := fun Hk σ H D p l =>
  h Hk σ H p _ fun vs rs O1 Hk1 H1 e1 h1 s1 q1 => by
    obtain ⟨es, rfl, I, h0, hs, hd⟩ := q1
    obtain ⟨v, rfl, hv⟩ := all1 s1
    cases (show Da Hk1 v (.list es) from hv) with
    | @lst a xs _ g1 g2 =>
      refine ⟨a, xs, rfl, .inl (.inl (h1.kn _ _ g1)), fun i m σ H => m = xs.length - i ∧ i ≤ xs.length ∧ ∃ O2 ds2 Hk2, Same Hk1 Hk2 ∧ Pt K Hk2 O2 ds2 σ H ∧ I i O2 ds2, ⟨xs.length, by simp, Nat.zero_le _, O1, ds, Hk1, Same.refl _, p.ext e1 h1, h0⟩, ?_⟩
      rintro i m σ' H' ⟨rfl, hi, O2, ds2, Hk2, e, p2, q⟩
      have sq : SqL K H' a xs := .inl (.inl (p2.hold.kn _ _ (e _ _ g1)))
      by_cases hlt : i < xs.length
      · have hx : xs[i]? = some xs[i] := List.getElem?_eq_getElem hlt
        refine .inr ⟨⟨xs, xs[i], sq, hx⟩, fun σ2 H2 => ∃ O3 ds3 Hk3, Same Hk1 Hk3 ∧ Pt K Hk3 O3 ds3 σ2 H2 ∧ I (i + 1) O3 ds3, fun σ2 H2 hN => ⟨xs.length - (i + 1), by omega, rfl, hlt, hN⟩, fun x H2 y => ?_⟩
        obtain ⟨T, x', rfl, nT, rfl, fx⟩ := y
        have ex : x' = xs[i] := by
          have := fx xs sq
          rw [hx] at this
          exact (Option.some.inj this).symm
        obtain ⟨d, hd1, hd2⟩ := g2.getV hx
        have smT : Same Hk2 (upd Hk2 T (.tup [.int (i : Nat), x'])) := same_new (p2.hold.kn.free nT)
        have p3 : Pt K (upd Hk2 T (.tup [.int (i : Nat), x'])) O2 ds2 σ' (upd H' T (.tup [.int (i : Nat), x'])) := p2.ext smT (p2.hold.know nT)
        refine ⟨T, [.int (i : Nat), x'], rfl, .inl (.inl upd_same), rfl, .int (i : Nat), [x'], rfl, x', [], rfl, rfl, ?_⟩
        have hdx : SDok K (upd Hk2 T (.tup [.int (i : Nat), x'])) x' (.dat d) := by
          have := Da.mono (e.trans smT) hd2
          rw [← ex] at this
          exact this
        have e4 := e.trans smT
        exact hs i d O2 ds2 hd1 q _ .mk' _ _ _ _ ((p3.set (j := j1) (r := iV (i : Int)) (.int _)).set (j := j2) hdx) ⟨fun O3 ds3 Hk3 σ3 H3 e3 p3 q3 => ⟨O3, ds3, Hk3, e4.trans e3, p3, q3⟩, l.rt.ext (e1.trans e4), l.nx.ext (e1.trans e4), fun O3 ds3 Hk3 σ3 H3 e3 p3 q3 => ⟨O3, ds3, Hk3, e4.trans e3, p3, q3⟩, l.xt.ext (e1.trans e4)⟩
      · have ei : i = xs.length := by omega
        refine .inl ⟨⟨xs, sq, by omega⟩, ?_⟩
        rw [ei, g2.length] at q
        exact l.nx O2 ds2 Hk2 σ' H' (e1.trans e) p2 (hd O2 ds2 q)
theorem pi_enumL {X : Cx} (K : PySem.W.Frag) {e : Expr} {ta : TA} {p pos tpos : Pos} {elts : List Expr} {kk : Nat} (hg : Gl X "enumerate") (hm : X.mg "enumerate" = none) (ha : PA X [e] ta) (hK : X.K = K := by rfl) (hs : starEach [e] X.env = [(false, eval e X.env)] := by rfl) :
    PI X (.Tuple elts kk tpos) (.Call (.Name "enumerate" p) [e] [] pos) (iEnum K ta) := hK ▸ pi_enum hg hm ha hs
/-! ### list(range(a, b)) -/
def rgI (a b : Int) : List Int := (List.range (b - a).toNat).map fun i => a + (i : Nat)
theorem w_lstRg2 {ta tb : TE} (h : EvW K ta O ds fun r1 O1 => EvW K tb O1 ds fun r2 O2 => ∃ a b : Int, r1 = iV a ∧ r2 = iV b ∧ RgOk a b ∧ Q (.dat (lI (rgI a b))) O2) : EvW K (tLstRg (tRg2 ta tb)) O ds Q := fun Hk σ H p Q' k =>
  h Hk σ H p _ fun v r1 O1 Hk1 H1 e1 h1 s1 q1 => q1 Hk1 σ H1 (p.ext e1 h1) _ fun u r2 O2 Hk2 H2 e2 h2 s2 q2 => by
    obtain ⟨a, b, rfl, rfl, hr, q⟩ := q2
    cases (show Da Hk1 v (.int a) from s1)
    cases (show Da Hk2 u (.int b) from s2)
    refine ⟨a, b, rfl, rfl, hr, fun pn hf => ?_⟩
    have sm : Same Hk2 (upd Hk2 pn (.lst (rgV a b))) := same_new (h2.kn.free hf)
    have hd : ∀ H : Hp, DaAll H (rgV a b) ((rgI a b).map PyData.int) := fun H => by
      have := DaAll.of_ints (H := H) (rgI a b)
      unfold rgI at this ⊢
      rw [List.map_map] at this
      exact this
    exact k _ (.dat (lI (rgI a b))) O2 _ _ ((e1.trans e2).trans sm) (h2.know hf) (.lst upd_same (hd _)) q
end
end Wk
namespace Wk
open PySem PySem.Spec PyProof.Rows L2
section
variable {K : PySem.W.Frag} {Hk Hk' H H' : Hp} {O O' : Own} {ds : List SD} {σ : L2.St} {Q : SD → Own → Prop} {Q' : VK} {r : R2} {x y : SD} {A : AE} {D : Ends} {t u : TS} {te : TE} {tc : TT}
/-! ### a comprehension over range(a, b) -/
theorem w_lc2 {ta : TA} {j : Nat} {tt : TT} (h : AvW K ta O ds fun rs O1 => ∃ lo n : Int, rs = [iV lo, iV n] ∧ (-(2 ^ 62) ≤ lo ∧ lo < 2 ^ 62 ∧ -(2 ^ 62) ≤ n ∧ n < 2 ^ 62) ∧ n - lo ≤ 1000000 ∧ ∃ I : Nat → List SD → Own → Prop, I 0 [] O1 ∧
    (∀ (i : Nat) acc O2, lo + (i : Int) < n → acc.length ≤ i → I i acc O2 → LcTurn K tt te O2 (ds.set j (iV (lo + (i : Int)))) acc (I (i + 1))) ∧ ∀ acc O2 Dl, I (n - lo).toNat acc O2 → Q (.ad Dl) ((Dl, .lst acc) :: O2)) : EvW K (tLc (iRng2 ta) (gName j) tt te [j]) O ds Q := fun Hk σ H p Q' k =>
  h Hk σ H p _ fun vs rs O1 Hk1 H1 e1 h1 s1 q1 => by
    obtain ⟨lo, n, rfl, hn, hz0, I, h0, hs, hd⟩ := q1
    obtain ⟨v, v2, rfl, hv, hv2⟩ := all2 s1
    cases (show Da Hk1 v (.int lo) from hv)
    cases (show Da Hk1 v2 (.int n) from hv2)
    refine ⟨lo, n, rfl, hn, fun Dl hf => lc_range (lo := lo) (n := (n - lo).toNat) (fun i H => ∃ acc O2 Hk2, Same Hk1 Hk2 ∧ acc.length ≤ i ∧ Hold K Hk2 ((Dl, OD.lst acc) :: O2) H ∧ I i acc O2)
      ⟨[], O1, Hk1, Same.refl _, Nat.le_refl _, h1.own hf .nil, h0⟩ (fun i H2 hi hP => ?_) (fun H2 hP => ?_)⟩
    · obtain ⟨acc, O2, Hk2, e2, hl, hh, q⟩ := hP
      have hz : acc.length < sizeLine := Nat.lt_of_lt_of_le (show acc.length < 1000001 by omega) (by decide)
      have ht := hs i acc O2 (by omega) hl q
      refine lc_turn (d := iV (lo + (i : Int))) (P' := fun H => ∃ acc2 O3 Hk2, Same Hk1 Hk2 ∧ acc2.length ≤ i + 1 ∧ Hold K Hk2 ((Dl, OD.lst acc2) :: O3) H ∧ I (i + 1) acc2 O3) (I' := fun acc2 O3 => acc2.length ≤ i + 1 ∧ I (i + 1) acc2 O3) ?_ hz ((p.ext e1 h1).ext e2 (hh.sub (List.sublist_cons_self ..))) hh (.int _) fun acc2 O3 Hk3 H3 e3 h3 q3 => ⟨acc2, O3, Hk3, e2.trans e3, q3.1, h3, q3.2⟩
      intro Dl2 Hk3 σ3 H3 p3 Q3 k3
      refine ht Dl2 Hk3 σ3 H3 p3 Q3 fun b O3 Hk4 H4 e4 h4 q4 => k3 b O3 Hk4 H4 e4 h4 ⟨fun hb => w_mono (q4.1 hb) fun r O4 ⟨O5, hp, q5⟩ => ⟨O5, hp, by rw [List.length_append]; simp; omega, q5⟩, fun hb => ?_⟩
      obtain ⟨O5, hp, q5⟩ := q4.2 hb
      exact ⟨O5, hp, by omega, q5⟩
    · obtain ⟨acc, O2, Hk2, e2, hl, hh, q⟩ := hP
      exact k _ (.ad Dl) _ Hk2 H2 (e1.trans e2) hh rfl (hd acc O2 Dl q)
end
/-! ### a tuple, no times -/
theorem tuple_mul0 (l : Addr) (items : Array Value) (n : Nat) (dd : Option Addr) (sl : Array (Option Value)) (x : Int) (u : Tok) (c0 : (decide (x < -(2 ^ 63)) || decide (x ≥ 2 ^ 63)) = false) (c1 : (items.isEmpty || x == 1) = false) (c2 : (decide (x ≤ 0) || items.isEmpty) = true) :
    Meets (Builtin.«tuple.__mul__» ⟨[.ref l, .int x u], []⟩) (fun _ R s => s.heap.get? l = some { cls := .type "tuple", dict := dd, data := .seq items n, slots := sl } ∧
      R (.ok (.ret (Value.ref s.heap.objs.size))) { s with heap := s.heap.push { cls := Value.type "tuple", data := Data.seq #[] }, toks := s.toks }) :=
  .of_wp fun prog w A R s h => by
    obtain ⟨hp, g, d, tk, os⟩ := s
    obtain ⟨hl, h⟩ := h
    have f1 := AutoSeq1.idx_int
    wp_walk using wpAny_loadPart' hl
    repeat (first
      | (refine wpAny_ite_false (decide_eq_false (by rw [c0]; exact Bool.false_ne_true)) ?_; wp_walk using wpAny_loadPart' hl)
      | (refine wpAny_ite_false (decide_eq_false (by rw [c1]; exact Bool.false_ne_true)) ?_; wp_walk using wpAny_loadPart' hl)
      | (refine wpAny_ite_true (decide_eq_true (by rw [c2])) ?_; wp_walk using wpAny_loadPart' hl))
    exact ⟨_, rfl, h⟩
def rRep2 (K : PySem.W.Frag) : R2 := fun x y H Q => rRep1 K x y H Q ∨ ∃ l k xs, x = .ref l ∧ y = .int k ∧ SqT K H l xs ∧ xs ≠ [] ∧ k ≤ 0 ∧ -(2 ^ 62) ≤ k ∧ ∀ p, H p = none → Q (.ref p) (upd H p (.tup []))
theorem op_rep2 {X : Cx} : OpR X (binaryOp .Mult) (rRep2 X.K) := by
  intro pins s σ H x y v u Q I rx ry h
  rcases h with h | h
  · exact op_rep1 pins s σ H x y v u Q I rx ry h
  obtain ⟨l, k, xs, rfl, rfl, hT, hne, h1, h2, q⟩ := h
  cases rx
  obtain ⟨t, rfl⟩ := ry
  obtain ⟨its, r, ⟨⟨cls, dd, data, sl⟩, ho, hc, n, hd⟩, hs⟩ := I.tuple hT
  simp only at hc hd
  subst hc hd
  have hle : its.length = xs.length := r.length.symm
  have hn : its ≠ [] := fun e => hne (by
    rw [e] at hle
    exact List.eq_nil_of_length_eq_zero hle.symm)
  have hi : its.toArray.isEmpty = false := by
    cases its with
    | nil => exact absurd rfl hn
    | cons a b => rfl
  have c0 : (decide (k < -(2 ^ 63)) || decide (k ≥ 2 ^ 63)) = false := by
    rw [decide_eq_false (by omega), decide_eq_false (by omega)] <;> rfl
  have c1 : (its.toArray.isEmpty || k == 1) = false := by
    rw [hi, Bool.false_or]
    exact beq_eq_false_iff_ne.mpr (by omega)
  have c2 : (decide (k ≤ 0) || its.toArray.isEmpty) = true := by
    rw [decide_eq_true h1]
    rfl
  refine wpAny_binaryOp_repeat_ref (T := "tuple") (U := "int") (by decide) ⟨_, ho, rfl⟩ (fun s' => typeIs_int s' k t) noFill_tuple_mul F.fills_int_mul F.slot_int_rmul repeat_tuple F.slot_int_index.lookup
    (call_meets F.slot_int_rmul (typeIs_int s k t) F.entry_int_rmul (F.args_int_rmul_2 _ _) (int_rmul_tuple k t l its.toArray n dd sl)
      ⟨ho, rfl, ⟨_, ho, rfl⟩, call_meets F.slot_tuple_mul ⟨_, ho, rfl⟩ F.entry_tuple_mul (F.args_tuple_mul_2 _ _) (tuple_mul0 l its.toArray n dd sl k t c0 c1 c2) ⟨ho, ?_⟩⟩)
  refine ⟨.ref s.heap.objs.size, _, I.laid (t' := s.toks) (o := .tup []) (fun b ob q => Heap.get?_push_of_some _ q) (Nat.le_refl _) ?_, rfl, q _ (I.hok.fresh (Nat.le_refl _))⟩
  exact ⟨Nat.zero_le _, _, .nil, IsTup.new _ _⟩
section
variable {X : Cx} (K : PySem.W.Frag)
theorem kRep2 (h : X.K = K := by rfl) : OpR X (binaryOp .Mult) (rRep2 K) := h ▸ op_rep2
end
section
variable {K : PySem.W.Frag} {O : Own} {Q : SD → Own → Prop}
theorem g_rep2 {d : PyData} {k : Int} (h0 : -(2 ^ 62) ≤ k) (h1 : k ≤ 1000) (q : Q (.dat (.tuple (List.replicate k.toNat d))) O) : OpW K (rRep2 K) (.dat (.tuple [d])) (iV k) O Q := fun Hk H h u v hu hv Q' kk => by
  by_cases h2 : 1 ≤ k
  · exact .inl (g_rep1 h2 h1 q Hk H h u v hu hv Q' kk)
  · cases (show Da Hk v (.int k) from hv)
    cases (show Da Hk u (.tuple [d]) from hu) with
    | @tup a xs _ g1 g2 =>
      have hl : xs.length = 1 := g2.length
      refine .inr ⟨a, k, xs, rfl, rfl, .inl (.inl (h.kn _ _ g1)), (fun z => by rw [z] at hl; cases hl), by omega, h0, fun l hf => ?_⟩
      rw [show k.toNat = 0 by omega] at q
      have sm := same_new (o := .tup []) (h.kn.free hf)
      exact kk _ (.dat (.tuple [])) O _ _ sm (h.know hf) (.tup upd_same .nil) q
end
end Wk
namespace Wk
open PySem PySem.Spec PyProof.Rows L2
/-! ### dicts whose keys are tuples of ints, whose values are ints; owned -/
abbrev kvF (p : List Int × Int) : List Key × V := (p.1.map Sum.inl, V.int p.2)
abbrev dtO (kvs : List (List Int × Int)) : OD := .obj (.dT (kvs.map kvF)) [] []
def putI (kvs : List (List Int × Int)) (k : List Int) (v : Int) : List (List Int × Int) :=
  if kvs.any (fun p => decide (p.1 = k)) then kvs.map fun p => if p.1 = k then (p.1, v) else p else kvs ++ [(k, v)]
theorem inl_inj : ∀ {a b : List Int}, a.map (Sum.inl : Int → Key) = b.map Sum.inl → a = b
  | [], [], _ => rfl
  | [], _ :: _, h => by cases h
  | _ :: _, [], h => by cases h
  | x :: a, y :: b, h => by
    rw [List.map_cons, List.map_cons] at h
    injection h with h1 h2
    injection h1 with h1
    rw [h1, inl_inj h2]
theorem kvF_key {p : List Int × Int} {k : List Int} : (kvF p).1 = k.map Sum.inl ↔ p.1 = k := ⟨fun h => inl_inj h, fun h => by rw [← h]⟩
theorem putI_len (kvs : List (List Int × Int)) (k : List Int) (v : Int) : (putI kvs k v).length ≤ kvs.length + 1 := by
  unfold putI
  split
  · rw [List.length_map]; omega
  · rw [List.length_append]; exact Nat.le_refl _
theorem put_map (kvs : List (List Int × Int)) (k : List Int) (v : Int) : putK (kvs.map kvF) (k.map Sum.inl) (V.int v) = (putI kvs k v).map kvF := by
  unfold putK putI
  have e : ((kvs.map kvF).any fun kv => decide (kv.1 = k.map Sum.inl)) = kvs.any fun p => decide (p.1 = k) := by
    rw [List.any_map]
    congr 1
    funext p
    show decide ((kvF p).1 = k.map Sum.inl) = decide (p.1 = k)
    by_cases h : p.1 = k
    · rw [decide_eq_true h, decide_eq_true (kvF_key.mpr h)]
    · rw [decide_eq_false h, decide_eq_false fun z => h (kvF_key.mp z)]
  rw [e]
  by_cases h : (kvs.any fun p => decide (p.1 = k)) = true
  · rw [if_pos h, if_pos h, List.map_map, List.map_map]
    congr 1
    funext p
    show (if (kvF p).1 = k.map Sum.inl then ((kvF p).1, V.int v) else kvF p) = kvF (if p.1 = k then (p.1, v) else p)
    by_cases z : p.1 = k
    · rw [if_pos z, if_pos (kvF_key.mpr z)]
    · rw [if_neg z, if_neg fun q => z (kvF_key.mp q)]
  · rw [if_neg h, if_neg h, List.map_append]
    rfl
theorem valV_at : ∀ {kvs : List (List Int × Int)} {i : Nat} {p : List Int × Int}, (kvs.map (·.1)).Nodup → kvs[i]? = some p → valV (kvs.map kvF) (p.1.map Sum.inl) = some (V.int p.2)
  | [], i, p, _, h => by simp at h
  | x :: r, 0, p, _, h => by
    simp at h
    subst h
    exact valV_pos rfl
  | x :: r, i + 1, p, hn, h => by
    rw [List.map_cons, List.nodup_cons] at hn
    have h' : r[i]? = some p := by simpa using h
    have hne : ¬ (kvF x).1 = p.1.map Sum.inl := fun z => by
      have e := inl_inj z
      exact hn.1 (List.mem_map.mpr ⟨p, List.mem_of_getElem? h', e.symm⟩)
    show valV (kvF x :: r.map kvF) _ = _
    rw [valV_neg hne]
    exact valV_at hn.2 h'
theorem DaAll.keys {H : Hp} {vs : List V} {ks : List Int} (h : DaAll H vs (ks.map PyData.int)) : vs = (ks.map (Sum.inl : Int → Key)).map kV := by
  rw [h.ints, List.map_map]
  rfl
section
variable {K : PySem.W.Frag} {Hk Hk' H H' : Hp} {O O' Oa : Own} {ds : List SD} {σ : L2.St} {Q : SD → Own → Prop} {Q' : VK} {x y : SD} {A : AE} {D : Ends} {t u : TS} {te td to ti : TE}
/-- {} -/
theorem w_dnewT (q : ∀ l, Q (.ad l) ((l, dtO []) :: O)) : EvW K tDNewT O ds Q := fun Hk σ H p Q' k l hf =>
  k _ (.ad l) _ Hk _ (Same.refl _) (p.hold.ownG (x := dtO []) hf ⟨upd_same, .nil⟩) rfl (q l)
/-- d[k] = e, k a tuple of ints, e an int -/
theorem s_setT (h : EvW K te O ds fun r O1 => EvW K to O1 ds fun ro O2 => EvW K ti O2 ds fun ri O3 =>
    ∃ a kvs ks v Oa O4, r = iV v ∧ ro = .ad a ∧ ri = .dat (tI ks) ∧ O3.Perm ((a, dtO kvs) :: Oa) ∧ kvs.length ≤ 1000000 ∧ Own.P ((a, dtO (putI kvs ks v)) :: Oa) O4 ∧ A.nx O4 ds) : StW K (tAsg te (gSub to ti rSetD)) O ds A := fun Hk σ H D p l =>
  h Hk σ H p _ fun v r O1 Hk1 H1 e1 h1 s1 q1 => q1 Hk1 σ H1 (p.ext e1 h1) _ fun vo ro O2 Hk2 H2 e2 h2 s2 q2 => q2 Hk2 σ H2 ((p.ext e1 h1).ext e2 h2) _ fun vi ri O3 Hk3 H3 e3 h3 s3 q3 => by
    obtain ⟨a, kvs, ks, z, Oa, O4, rfl, rfl, rfl, hp, hl, hp2, q⟩ := q3
    cases (show Da Hk1 v (.int z) from s1)
    cases (show vo = .ref a from s2)
    have h' := h3.perm hp
    obtain ⟨⟨g1, _⟩, ka⟩ := h'.ow _ List.mem_cons_self
    cases (show Da Hk3 vi (tI ks) from s3) with
    | @tup b xs _ b1 b2 =>
      have eb : H3 b = some (.tup ((ks.map (Sum.inl : Int → Key)).map kV)) := by
        rw [← b2.keys]
        exact h3.kn _ _ b1
      refine ⟨a, _, rfl, DPut.t (v := V.int z) g1 eb (by rw [List.length_map]; exact Nat.lt_of_le_of_lt hl (by decide)), ?_⟩
      rw [put_map]
      exact l.nx _ ds Hk3 σ _ (e1.trans (e2.trans e3)) (p.ext (e1.trans (e2.trans e3)) ((h'.writeG (y := dtO (putI kvs ks z)) ⟨upd_same, .nil⟩).perm hp2)) q
/-- [d[k] for k in d] -/
theorem w_lcDT {i j : Nat} {a : Addr} {kvs : List (List Int × Int)} (hi : ds[i]? = some (.ad a)) (hij : i ≠ j) (hj : j < ds.length) (hp : O.Perm ((a, dtO kvs) :: Oa)) (hn : (kvs.map (·.1)).Nodup) (hl : kvs.length ≤ 1000000)
    (q : ∀ Dl, Q (.ad Dl) ((Dl, .lst (kvs.map fun p => iV p.2)) :: O)) : EvW K (tLockE (tLc (iKeys (tVar i)) (gName j) tYes (tDGet (tVar i) (tVar j)) [j])) O ds Q := fun Hk σ H p Q' k => by
  rcases p.env i (.ad a) hi with z | ⟨v, hv, hs⟩
  · cases z
  cases (show v = .ref a from hs)
  obtain ⟨⟨g1, _⟩, ka⟩ := (p.hold.perm hp).ow _ List.mem_cons_self
  refine ⟨a, _, g1, trivial, fun od => ?_⟩
  have g2 : (upd H a (.frz od (.dT (kvs.map kvF)))) a = some (.frz od (.dT (kvs.map kvF))) := upd_same
  generalize hH1 : upd H a (.frz od (.dT (kvs.map kvF))) = H1 at g2
  refine ⟨.ref a, hv, a, od, rfl, .inr ⟨kvs.map kvF, g2, fun Dl hf => ?_⟩⟩
  have hne : a ≠ Dl := fun z => by rw [z, hf] at g2; cases g2
  have hHf : H Dl = none := by rw [← hH1, upd_ne (Ne.symm hne)] at hf; exact hf
  have hlen : (kvs.map kvF).length = kvs.length := List.length_map ..
  refine lc_it walk_keysT (fun n H2 => H2 = upd H1 Dl (.lst ((kvs.take n).map fun p => V.int p.2))) rfl (fun n H2 _ e => ?_) (fun n x H2 H3 hlt e y => ?_) (fun H2 e => ?_)
  · rw [e, upd_ne hne]
    exact g2
  · obtain ⟨e3, kk, v, b, hk, rfl, hb⟩ := y
    subst e3
    refine ⟨wipe_wipe _, ?_⟩
    rw [wipe_set]
    unfold tYes
    show (if true = true then _ else _)
    rw [if_pos rfl]
    rw [List.getElem?_map] at hk
    cases hkn : kvs[n]? with
    | none => rw [hkn] at hk; cases hk
    | some pr =>
      rw [hkn] at hk
      injection hk with hk
      injection hk with hk1 hk2
      refine ⟨.ref a, by rw [List.getElem?_set_ne (Ne.symm hij)]; exact hv, ?_⟩
      have hjs : j < σ.length := by rw [p.len]; exact hj
      · refine ⟨.ref b, List.getElem?_set_self hjs, a, V.int pr.2, rfl, ?_, ?_⟩
        · refine .inr ⟨kvs.map kvF, kk, b, .inr ⟨od, by rw [e, upd_ne hne]; exact g2⟩, rfl, hb, ?_⟩
          rw [← hk1]
          exact (valV_at hn hkn).symm
        · refine ⟨(kvs.take n).map fun p => V.int p.2, by rw [e, upd_same], by rw [List.length_map, List.length_take]; exact Nat.lt_of_le_of_lt (Nat.le_trans (Nat.min_le_right _ _) hl) (by decide), ?_⟩
          rw [e]
          funext c
          by_cases hc : c = Dl
          · rw [hc, upd_same, upd_same, List.take_add_one, hkn, List.map_append]
            rfl
          · rw [upd_ne hc, upd_ne hc, upd_ne hc]
  · rw [hlen, List.take_length] at e
    refine ⟨by rw [e, upd_ne hne]; exact g2, ?_⟩
    have eH : upd H2 a (.dT (kvs.map kvF)) = upd H Dl (.lst (kvs.map fun p => V.int p.2)) := by
      rw [e, ← hH1]
      funext c
      by_cases hc : c = a
      · rw [hc, upd_same, upd_ne hne]
        exact g1.symm
      · rw [upd_ne hc]
        by_cases hd : c = Dl
        · rw [hd, upd_same, upd_same]
        · rw [upd_ne hd, upd_ne hd, upd_ne hc]
    rw [eH]
    refine k _ (.ad Dl) _ Hk _ (Same.refl _) (p.hold.own hHf ?_) rfl (q Dl)
    have : ∀ kvs : List (List Int × Int), SDall K Hk (kvs.map fun p => V.int p.2) (kvs.map fun p => iV p.2) := fun kvs => by
      induction kvs with
      | nil => exact .nil
      | cons a r ih => exact .cons (.int _) ih
    exact this kvs
end
/-! ### a def that calls itself -/
def preM (p : Nat → List SD → Own → (SD → Own → Prop) → Prop) : Nat → List SD → Own → (SD → Own → Prop) → Prop
  | 0 => fun _ _ _ => False
  | n + 1 => p n
theorem FnOk.never {P : Program} {w : World} {K : PySem.W.Frag} {mg : Str → Option Value} {base : Heap} {k : Nat} {f : Addr} {fd : FuncData} {ps : List Str} {p : Nat → List SD → Own → (SD → Own → Prop) → Prop} : FnOk P w K mg base CX0 k f fd ps (spW K (preM p 0)) :=
  ⟨fun _ _ _ _ ⟨_, _, _, _, _, _, h, _⟩ => h.elim, fun _ _ _ _ _ _ _ _ _ _ _ _ _ ⟨_, _, _, _, _, _, h, _⟩ => h.elim⟩
end Wk
namespace Wk
open PySem PySem.Spec PyProof.Rows L2
/-! ### texts: lists of signs -/
abbrev sT (l : List Nat) : Str := ⟨l.toArray⟩
theorem sT_len (a : List Nat) : (sT a).length = a.length := by simp [sT, Str.length]
theorem sT_cat (a b : List Nat) : sT a ++ sT b = sT (a ++ b) := TL.ext_tl (TL.tl_append (sT a) (sT b))
theorem sT_inj {a b : List Nat} (h : sT a = sT b) : a = b := congrArg (fun x : Str => x.cps.toList) h
theorem sT_lit (s : String) : Str.ofString s = sT (s.toList.map Char.toNat) := TL.ext_tl (by rw [TL.tl_ofString])
theorem at_sT {a y : List Nat} {i : Nat} : StrLaws.At (sT a) (sT y) (sT a).length i ↔ i + y.length ≤ a.length ∧ (a.drop i).take y.length = y := by
  unfold StrLaws.At
  rw [StrLaws.subAt_eq, sT_len, sT_len]
  show _ ∧ ((a.drop i).take y.length == y) = true ↔ _
  rw [beq_iff_eq]
theorem findT (a y : List Nat) : (Txt.find (sT a) (sT y) = -1 ∧ ∀ q s, a ≠ q ++ y ++ s) ∨ ∃ q s, a = q ++ y ++ s ∧ Txt.find (sT a) (sT y) = (q.length : Int) := by
  unfold Txt.find
  have hf := StrLaws.found_iff (sT a) (sT y)
  have hs := StrLaws.occ_spec (sT a) (sT y) 0 (sT a).length 1
  cases h : Builtin.Str.occurrences (sT a) (sT y) 0 (sT a).length 1 with
  | nil =>
    rw [h] at hf
    refine .inl ⟨rfl, fun q s e => ?_⟩
    have : (!([] : List Nat).isEmpty) = true := hf.mpr ⟨q.length, (at_sT (a := a) (y := y) (i := q.length)).mpr (by
      rw [e]
      refine ⟨by simp, ?_⟩
      rw [List.append_assoc, List.drop_left, List.take_left])⟩
    cases this
  | cons i r =>
    rw [h] at hs
    have h1 := (at_sT (a := a) (y := y) (i := i)).mp (hs i List.mem_cons_self)
    refine .inr ⟨a.take i, a.drop (i + y.length), ?_, ?_⟩
    · have e1 := (List.take_append_drop i a).symm
      have e2 := (List.take_append_drop y.length (a.drop i)).symm
      rw [h1.2, List.drop_drop] at e2
      rw [List.append_assoc, ← e2]
      exact e1
    · rw [List.length_take, show min i a.length = i by omega]
theorem countT_go {a : List Nat} {c : Nat} : ∀ {cuts : List Nat} {k f : Nat}, StrLaws.ChainG (sT a) (sT [c]) (sT a).length k cuts f → (∀ j, f ≤ j → ¬ StrLaws.At (sT a) (sT [c]) (sT a).length j) → (a.drop k).count c = cuts.length := by
  have noat : ∀ j, ¬ StrLaws.At (sT a) (sT [c]) (sT a).length j → (a.drop j).count c = (a.drop (j + 1)).count c := fun j h => by
    by_cases hj : j < a.length
    · rw [List.drop_eq_getElem_cons hj, List.count_cons]
      have : ¬ (a[j] = c) := fun e => h (at_sT.mpr ⟨by show j + 1 ≤ _; omega, by rw [List.drop_eq_getElem_cons hj, e]; rfl⟩)
      rw [if_neg (by rw [beq_iff_eq]; exact this), Nat.add_zero]
    · rw [List.drop_eq_nil_of_le (by omega), List.drop_eq_nil_of_le (by omega)]
  have skip : ∀ (n k : Nat), (∀ j, k ≤ j → j < k + n → ¬ StrLaws.At (sT a) (sT [c]) (sT a).length j) → (a.drop k).count c = (a.drop (k + n)).count c := by
    intro n
    induction n with
    | zero => exact fun _ _ => rfl
    | succ n ih =>
      intro k h
      rw [ih k fun j h1 h2 => h j h1 (by omega), noat (k + n) (h _ (by omega) (by omega)), Nat.add_assoc]
  intro cuts
  induction cuts with
  | nil =>
    intro k f h hn
    have e : f = k := h
    subst e
    rw [skip a.length f fun j h1 _ => hn j h1, List.drop_eq_nil_of_le (by omega)]
    rfl
  | cons d r ih =>
    intro k f h hn
    obtain ⟨h1, h2, h3, h4⟩ := h
    have e := ih h4 hn
    have e1 := skip (d - k) k fun j h5 h6 => h3 j h5 (by omega)
    rw [show k + (d - k) = d by omega] at e1
    obtain ⟨h5, h6⟩ := at_sT.mp h2
    have hd : d < a.length := by
      have : d + 1 ≤ a.length := h5
      omega
    rw [List.drop_eq_getElem_cons hd] at h6
    have h6 : a[d] = c := by
      have : [a[d]] = [c] := h6
      injection this
    rw [e1, List.drop_eq_getElem_cons hd, List.count_cons, h6, if_pos (by rw [beq_self_eq_true]), List.length_cons, ← e]
    rfl
theorem countT (a : List Nat) (c : Nat) : Txt.count (sT a) (sT [c]) = ((a.count c : Nat) : Int) := by
  unfold Txt.count
  obtain ⟨f, h1, h2⟩ := StrLaws.occ_tight (sT a) (sT [c]) (by rw [sT_len]; exact Nat.le_refl 1)
  have := countT_go h1 h2
  rw [List.drop_zero] at this
  rw [this]
theorem cutT (a : List Nat) (lo hi : Option Int) : cutS (sT a) lo hi = sT (cut a lo hi) := by
  unfold cutS cut
  rw [sT_len]
section
variable {K : PySem.W.Frag} {Hk Hk' H H' : Hp} {O O' Oa : Own} {ds : List SD} {σ : L2.St} {Q : SD → Own → Prop} {Q' : VK} {x y : SD} {A : AE} {D : Ends} {t u : TS} {te td to ti : TE}
theorem o_addS {a b : List Nat} (hz : a.length + b.length ≤ 1000000) (q : Q (.dat (.str (sT (a ++ b)))) O) : OpW K (fun x y H Q => ∃ i j, x = .str i ∧ y = .str j ∧ i.length + j.length ≤ sizeLine ∧ Q (.str (i ++ j)) H) (.dat (.str (sT a))) (.dat (.str (sT b))) O Q := fun Hk H h u v hu hv Q' k => by
  cases (show Da Hk u (.str (sT a)) from hu)
  cases (show Da Hk v (.str (sT b)) from hv)
  refine ⟨_, _, rfl, rfl, by rw [sT_len, sT_len]; exact Nat.le_trans hz (by decide), ?_⟩
  rw [sT_cat]
  exact k.now h (r := .dat (.str _)) (.str _) q
theorem sl_S {a : List Nat} {lo hi : Option Int} (hz : a.length ≤ 1000000) (q : Q (.dat (.str (sT (cut a lo hi)))) O) : SlW K rSlS (.dat (.str (sT a))) lo hi O Q := fun Hk H h u hu Q' k => by
  cases (show Da Hk u (.str (sT a)) from hu)
  refine ⟨_, rfl, by rw [sT_len]; exact Nat.le_trans hz (by decide), ?_⟩
  rw [cutT]
  exact k.now h (r := .dat (.str _)) (.str _) q
theorem o_ixS {a : List Nat} {i : Int} {c : Nat} (hz : a.length ≤ 1000000) (ha : atI a i = some c) (q : Q (.dat (.str (sT [c]))) O) : OpW K rIxS (.dat (.str (sT a))) (iV i) O Q := fun Hk H h u v hu hv Q' k => by
  cases (show Da Hk u (.str (sT a)) from hu)
  cases (show Da Hk v (.int i) from hv)
  exact ⟨_, i, c, rfl, rfl, by rw [sT_len]; exact Nat.le_trans hz (by decide), ha, k.now h (r := .dat (.str _)) (.str _) q⟩
theorem w_m1 {g : Str → Str → Int} (h : EvW K to O ds fun r O1 => ∃ a, r = .dat (.str a) ∧ EvW K te O1 ds fun r2 O2 => ∃ b, r2 = .dat (.str b) ∧ Q (iV (g a b)) O2) :
    EvW K (tM1 (fun x xs H Q => ∃ a b, x = .str a ∧ xs = [.str b] ∧ Q (.int (g a b)) H) to te) O ds Q := fun Hk σ H p Q' k =>
  h Hk σ H p _ fun v r O1 Hk1 H1 e1 h1 s1 q1 => by
    obtain ⟨a, rfl, q1⟩ := q1
    cases (show Da Hk1 v (.str a) from s1)
    refine ⟨⟨a, rfl⟩, q1 Hk1 σ H1 (p.ext e1 h1) _ fun v2 r2 O2 Hk2 H2 e2 h2 s2 q2 => ?_⟩
    obtain ⟨b, rfl, q2⟩ := q2
    cases (show Da Hk2 v2 (.str b) from s2)
    exact ⟨a, b, rfl, rfl, k _ (iV (g a b)) O2 Hk2 H2 (e1.trans e2) h2 (.int _) q2⟩
theorem o_neT {i j : Str} (q : Q (bV (!decide (i = j))) O) : OpW K rNe (.dat (.str i)) (.dat (.str j)) O Q := fun Hk H h u v hu hv Q' k => by
  cases (show Da Hk u (.str i) from hu)
  cases (show Da Hk v (.str j) from hv)
  refine ⟨rfl, ?_⟩
  have e : decide (V.str i = V.str j) = decide (i = j) := by
    by_cases z : i = j
    · rw [decide_eq_true z, decide_eq_true (congrArg V.str z)]
    · rw [decide_eq_false z, decide_eq_false fun q => z (V.str.inj q)]
  rw [e]
  exact k.now h (r := bV _) (.bl _) q
/-- for x in text -/
theorem s_forStr {j : Nat} {tb : TS} (h : EvW K te O ds fun r O1 => ∃ z : List Nat, r = .dat (.str (sT z)) ∧ ∃ I : Nat → Own → List SD → Prop, I 0 O1 ds ∧
    (∀ (i : Nat) c O2 ds2, z[i]? = some c → I i O2 ds2 → ∀ B : AE, Bdy I i A B → StW K tb O2 (ds2.set j (.dat (.str (sT [c])))) B) ∧ ∀ O2 ds2, I z.length O2 ds2 → A.nx O2 ds2) : StW K (tFor (iStr te) (gName j) tb) O ds A := fun Hk σ H D p l =>
  h Hk σ H p _ fun v r O1 Hk1 H1 e1 h1 s1 q1 => by
    obtain ⟨z, rfl, I, h0, hs, hd⟩ := q1
    cases (show Da Hk1 v (.str (sT z)) from s1)
    have hz : (sT z).cps.size = z.length := by simp [sT]
    refine ⟨sT z, rfl, for_it (walk_str (z := sT z)) (fun i σ H => ∃ O2 ds2 Hk2, Same Hk1 Hk2 ∧ Pt K Hk2 O2 ds2 σ H ∧ I i O2 ds2) ⟨O1, ds, Hk1, Same.refl _, p.ext e1 h1, h0⟩ (fun _ _ _ _ _ => trivial) (fun i x σ' H' H'' hi ⟨O2, ds2, Hk2, e, p2, q⟩ y => ?_) (fun σ' H' ⟨O2, ds2, Hk2, e, p2, q⟩ => ?_)⟩
    · obtain ⟨eh, c, hc, rfl⟩ := y
      subst eh
      have hc' : z[i]? = some c := by simpa [sT] using hc
      exact hs i c O2 ds2 hc' q _ .mk' Hk2 _ H'' _ (p2.set (r := .dat (.str (sT [c]))) (.str _)) ⟨fun O3 ds3 Hk3 σ3 H3 e3 p3 q3 => ⟨O3, ds3, Hk3, e.trans e3, p3, q3⟩, l.rt.ext (e1.trans e), l.nx.ext (e1.trans e), fun O3 ds3 Hk3 σ3 H3 e3 p3 q3 => ⟨O3, ds3, Hk3, e.trans e3, p3, q3⟩, l.xt.ext (e1.trans e)⟩
    · rw [hz] at q
      exact l.nx O2 ds2 Hk2 σ' H' (e1.trans e) p2 (hd O2 ds2 q)
/-- [e for x in text if t] -/
theorem w_lcStr {tl : TE} {j : Nat} {tt : TT} (h : EvW K tl O ds fun r O1 => ∃ z : List Nat, r = .dat (.str (sT z)) ∧ z.length ≤ 1000000 ∧ ∃ I : Nat → List SD → Own → Prop, I 0 [] O1 ∧
    (∀ (i : Nat) c acc O2, z[i]? = some c → acc.length ≤ i → I i acc O2 → LcTurn K tt te O2 (ds.set j (.dat (.str (sT [c])))) acc (I (i + 1))) ∧ ∀ acc O2 Dl, I z.length acc O2 → Q (.ad Dl) ((Dl, .lst acc) :: O2)) : EvW K (tLc (iStr tl) (gName j) tt te [j]) O ds Q := fun Hk σ H p Q' k =>
  h Hk σ H p _ fun v rs O1 Hk1 H1 e1 h1 s1 q1 => by
    obtain ⟨z, rfl, hn, I, h0, hs, hd⟩ := q1
    cases (show Da Hk1 v (.str (sT z)) from s1)
    have hz : (sT z).cps.size = z.length := by simp [sT]
    refine ⟨sT z, rfl, fun Dl hf => lc_it (walk_str (z := sT z)) (fun i H => ∃ acc O2 Hk2, Same Hk1 Hk2 ∧ acc.length ≤ i ∧ Hold K Hk2 ((Dl, OD.lst acc) :: O2) H ∧ I i acc O2)
      ⟨[], O1, Hk1, Same.refl _, Nat.le_refl _, h1.own hf .nil, h0⟩ (fun _ _ _ _ => trivial) (fun i x H2 H3 hi hP y => ?_) (fun H2 hP => ?_)⟩
    · obtain ⟨acc, O2, Hk2, e2, hl, hh, q⟩ := hP
      obtain ⟨eh, c, hc, rfl⟩ := y
      subst eh
      have hc' : z[i]? = some c := by simpa [sT] using hc
      have hlt := (List.getElem?_eq_some_iff.mp hc').1
      have hsz : acc.length < sizeLine := Nat.lt_of_lt_of_le (show acc.length < 1000001 by omega) (by decide)
      have ht := hs i c acc O2 hc' hl q
      refine lc_turn (d := .dat (.str (sT [c]))) (P' := fun H => ∃ acc2 O3 Hk2, Same Hk1 Hk2 ∧ acc2.length ≤ i + 1 ∧ Hold K Hk2 ((Dl, OD.lst acc2) :: O3) H ∧ I (i + 1) acc2 O3) (I' := fun acc2 O3 => acc2.length ≤ i + 1 ∧ I (i + 1) acc2 O3) ?_ hsz ((p.ext e1 h1).ext e2 (hh.sub (List.sublist_cons_self ..))) hh (.str _) fun acc2 O3 Hk3 H3 e3 h3 q3 => ⟨acc2, O3, Hk3, e2.trans e3, q3.1, h3, q3.2⟩
      intro Dl2 Hk3 σ3 H3 p3 Q3 k3
      refine ht Dl2 Hk3 σ3 H3 p3 Q3 fun b O3 Hk4 H4 e4 h4 q4 => k3 b O3 Hk4 H4 e4 h4 ⟨fun hb => w_mono (q4.1 hb) fun r O4 ⟨O5, hp, q5⟩ => ⟨O5, hp, by rw [List.length_append]; simp; omega, q5⟩, fun hb => ?_⟩
      obtain ⟨O5, hp, q5⟩ := q4.2 hb
      exact ⟨O5, hp, by omega, q5⟩
    · obtain ⟨acc, O2, Hk2, e2, hl, hh, q⟩ := hP
      rw [hz] at q
      exact k _ (.ad Dl) _ Hk2 H2 (e1.trans e2) hh rfl (hd acc O2 Dl q)
end
/-! ### text × number -/
def rMulS : R2 := fun x y H Q => ∃ (a : Str) (i : Int), x = .str a ∧ y = .int i ∧ MulOk a i ∧ Q (.str (Txt.mul a i)) H
theorem op_mulS {X : Cx} : OpR X (binaryOp .Mult) rMulS := by
  intro pins s σ H x y v u Q I rx ry h
  obtain ⟨a, i, rfl, rfl, hok, q⟩ := h
  obtain ⟨t, rfl⟩ := rx
  obtain ⟨t', rfl⟩ := ry
  exact SB.mul hok fun t2 k => ⟨.str _, H, I.tok _, ⟨_, rfl⟩, q⟩
theorem fold_rep (c : Nat) : ∀ (n : Nat) (acc : Array Nat), ((List.replicate n (#[c] : Array Nat)).foldl (· ++ ·) acc).toList = acc.toList ++ List.replicate n c
  | 0, acc => by simp
  | n + 1, acc => by
    rw [List.replicate_succ, List.foldl_cons, fold_rep c n, List.replicate_succ]
    simp
theorem mulT (c : Nat) {n : Int} (h : 0 ≤ n) : Txt.mul (sT [c]) n = sT (List.replicate n.toNat c) := by
  unfold Txt.mul
  by_cases h1 : n < 1
  · rw [if_pos h1, show n.toNat = 0 by omega]
    rfl
  · rw [if_neg h1]
    by_cases h2 : n = 1
    · subst h2
      have e0 : ((1 : Int) == 1 || (sT [c]).length == 0) = true := rfl
      rw [if_pos e0]
      rfl
    · rw [if_neg (by rw [sT_len]; simp [h2])]
      refine TL.ext_tl ?_
      show ((List.replicate n.toNat (#[c] : Array Nat)).foldl (· ++ ·) #[]).toList = _
      rw [fold_rep]
      simp [TL.tl]
theorem mulOk (c : Nat) {n : Int} (h : 0 ≤ n) (h2 : n ≤ 1000) : MulOk (sT [c]) n := by
  refine ⟨by rw [decide_eq_false (by omega), decide_eq_false (by omega)]; rfl, fun h1 _ => ?_, fun _ _ => ?_⟩
  · rw [sT_len]
    have : (1 : Int) ≤ (2 ^ 63 - 1) / n := Int.le_ediv_of_mul_le (by omega) (by omega)
    show ¬ ((1 : Nat) : Int) > _
    omega
  · rw [sT_len]
    refine decide_eq_false ?_
    show ¬ (1 * n.toNat > sizeLine)
    have : (1000 : Nat) ≤ sizeLine := by decide
    omega
section
variable {K : PySem.W.Frag} {O : Own} {Q : SD → Own → Prop}
theorem o_mulS {c : Nat} {n : Int} (h : 0 ≤ n) (h2 : n ≤ 1000) (q : Q (.dat (.str (sT (List.replicate n.toNat c)))) O) : OpW K rMulS (.dat (.str (sT [c]))) (iV n) O Q := fun Hk H hh u v hu hv Q' k => by
  cases (show Da Hk u (.str (sT [c])) from hu)
  cases (show Da Hk v (.int n) from hv)
  refine ⟨_, n, rfl, rfl, mulOk c h h2, ?_⟩
  rw [mulT c h]
  exact k.now hh (r := .dat (.str _)) (.str _) q
end
section
variable {K : PySem.W.Frag} {O : Own} {ds : List SD} {te : TE}
theorem j_fmtS {n : Nat} {ts : List TE} {Q : Own → Prop} (h : EvW K te O ds fun r O1 => ∃ s : Str, r = .dat (.str s) ∧ s.length ≤ 1000 ∧ JsW K ts (n + 1000) O1 ds Q) (hn : n ≤ 100000 := by decide) : JsW K (tFmt te :: ts) n O ds Q := fun Hk σ H p acc ha Q' k => by
  refine h Hk σ H p _ fun v r O1 Hk1 H1 e1 h1 s1 q1 => ?_
  obtain ⟨s, rfl, hs, q⟩ := q1
  cases (show Da Hk1 v (.str s) from s1)
  have e0 : (acc ++ s).length ≤ n + 1000 := by
    rw [Str.length_append]
    omega
  have e2 : (101000 : Nat) ≤ sizeLine := by decide
  exact .inl ⟨s, rfl, by omega, s, rfl, by omega, q Hk1 σ H1 (p.ext e1 h1) (acc ++ s) e0 Q' fun out O2 Hk2 H2 e3 h3 q3 => k out O2 Hk2 H2 (e1.trans e3) h3 q3⟩
end
section
variable {K : PySem.W.Frag} {Hk Hk' H H' : Hp} {O O' Oa : Own} {ds : List SD} {σ : L2.St} {Q : SD → Own → Prop} {Q' : VK} {A : AE} {D : Ends} {te : TE}
/-- a, b, c = e: a triple of data -/
theorem s_unp3 {i j k : Nat} (h : EvW K te O ds fun r O1 => ∃ d e f, r = .dat (.tuple [d, e, f]) ∧ A.nx O1 (((ds.set i (.dat d)).set j (.dat e)).set k (.dat f))) : StW K (tAsg te (gTup K 3 (gCons (gName i) (gCons (gName j) (gCons (gName k) gNil))))) O ds A := fun Hk σ H D p l =>
  h Hk σ H p _ fun v r O1 Hk1 H1 e1 h1 s1 q1 => by
    obtain ⟨d, e, f, rfl, q⟩ := q1
    have p1 := p.ext e1 h1
    cases (show Da Hk1 v (.tuple [d, e, f]) from s1) with
    | @tup a xs _ h1 h2 =>
      cases h2 with
      | @cons v1 _ _ _ g1 r =>
        cases r with
        | @cons v2 _ _ _ g2 r =>
          cases r with
          | @cons v3 _ _ _ g3 r =>
            cases r
            refine ⟨a, [v1, v2, v3], rfl, .inl (.inl (p1.hold.kn _ _ h1)), rfl, v1, [v2, v3], rfl, v2, [v3], rfl, v3, [], rfl, rfl, ?_⟩
            exact l.nx O1 _ Hk1 _ H1 e1 (((p1.set (j := i) (r := .dat d) g1).set (j := j) (r := .dat e) g2).set (j := k) (r := .dat f) g3) q
end
/-! ### a list of owned lists of ints -/
theorem perm_era {α : Type} : ∀ {xs : List α} {i : Nat} {x : α}, xs[i]? = some x → xs.Perm (x :: xs.eraseIdx i)
  | [], i, x, h => by simp at h
  | y :: r, 0, x, h => by
    have e : y = x := by simpa using h
    rw [e]
    exact List.Perm.refl _
  | y :: r, i + 1, x, h => by
    have h' : r[i]? = some x := by simpa using h
    exact ((perm_era h').cons y).trans (.swap ..)
def ownL (as : List Addr) (Ls : List (List Int)) : Own := List.zipWith (fun a l => (a, OD.lst (l.map fun n => iV n))) as Ls
theorem ownL_at {as : List Addr} {Ls : List (List Int)} {i : Nat} (h1 : i < as.length) (h2 : i < Ls.length) : (ownL as Ls)[i]? = some (as[i], OD.lst (Ls[i].map fun n => iV n)) := by
  unfold ownL
  rw [List.getElem?_zipWith, List.getElem?_eq_getElem h1, List.getElem?_eq_getElem h2]
theorem ownL_set : ∀ (as : List Addr) (Ls : List (List Int)) (i : Nat) (l : List Int), (ownL as (Ls.set i l)).eraseIdx i = (ownL as Ls).eraseIdx i
  | [], _, _, _ => rfl
  | _ :: _, [], _, _ => by rw [List.set_nil]
  | a :: as, L :: Ls, 0, l => rfl
  | a :: as, L :: Ls, i + 1, l => by
    show _ :: (ownL as (Ls.set i l)).eraseIdx i = _ :: (ownL as Ls).eraseIdx i
    rw [ownL_set as Ls i l]
theorem ownL_mem {as : List Addr} {Ls : List (List Int)} {i : Nat} (h1 : i < as.length) (h2 : i < Ls.length) : (as[i], OD.lst (Ls[i].map fun n => iV n)) ∈ ownL as Ls := List.mem_of_getElem? (ownL_at h1 h2)
theorem ownL_nil (as : List Addr) : ownL as (List.replicate as.length []) = as.map fun a => (a, OD.lst []) := by
  induction as with
  | nil => rfl
  | cons a as ih =>
    show _ :: ownL as (List.replicate as.length []) = _
    rw [ih]
    rfl
/-! ### the length of a text -/
def rLenS : List V → Hp → VK → Prop := fun xs H Q => ∃ z, xs = [.str z] ∧ z.length ≤ sizeLine ∧ Q (.int z.length) H
theorem kLenS {X : Cx} : CallR X (.builtin "len") rLenS := call_len_str
theorem g_lenStr {K : PySem.W.Frag} {O : Own} {Q : SD → Own → Prop} {a : List Nat} (hz : a.length ≤ 1000000) (q : Q (iV a.length) O) : CbW K rLenS [.dat (.str (sT a))] O Q := fun Hk H h us hus Q' k => by
  obtain ⟨u, rfl, hu⟩ := all1 hus
  cases (show Da Hk u (.str (sT a)) from hu)
  refine ⟨_, rfl, by rw [sT_len]; exact Nat.le_trans hz (by decide), ?_⟩
  rw [sT_len]
  exact k.now h (r := iV _) (.int _) q
/-! ### a text beside plain data -/
theorem o_neSP {K : PySem.W.Frag} {O : Own} {Q : SD → Own → Prop} {a b : List Nat} {x y : PyData} (ha : ∀ c ∈ a, c < 0x110000) (hb : ∀ c ∈ b, c < 0x110000) (h1 : plB 8 x = true) (h2 : plB 8 y = true) (q : ∀ c, (c = true ↔ a = b ∧ x = y) → Q (bV (!c)) O) : OpW K (rNeD K) (.dat (.tuple [.str (sT a), x])) (.dat (.tuple [.str (sT b), y])) O Q := by
  have sh : ∀ (a : List Nat) (x : PyData), (∀ c ∈ a, c < 0x110000) → plB 8 x = true → SeqAt.shaped (.tuple [.str (sT a), x]) = true := fun a x ha h1 => by
    obtain ⟨e1, e2⟩ := pl_lay 8 x h1
    have e3 : PySem.PyData.strOk (sT a) = true := by
      unfold PySem.PyData.strOk
      rw [Array.all_eq_true]
      intro i hi
      exact decide_eq_true (ha _ (List.getElem_mem (by exact hi)))
    unfold SeqAt.shaped
    rw [Bool.and_eq_true]
    refine ⟨?_, decide_eq_true ?_⟩
    · show (PySem.PyData.strOk (sT a) && (x.canLay0 && true)) = true
      rw [e1, e3]
      rfl
    · simp only [PyData.depth, PyData.depthAll]
      omega
  refine o_neD (sh a x ha h1) (sh b y hb h2) (q _ ?_)
  show ((sT a == sT b) && (PyData.eqv x y && true)) = true ↔ _
  rw [Bool.and_true, Bool.and_eq_true, eqv_iff 8 x y h1 h2, beq_iff_eq]
  exact ⟨fun h => ⟨sT_inj h.1, h.2⟩, fun h => ⟨by rw [h.1], h.2⟩⟩
end Wk
namespace Wk
open PySem PySem.Spec PyProof.Rows L2
/-! ### enumerate of a text -/
def IteS (z : Str) : It :=
  ⟨fun i _ => i < z.cps.size, fun i H v H' => ∃ T c, v = .ref T ∧ H T = none ∧ z.cps[i]? = some c ∧ H' = upd H T (.tup [.int (i : Nat), .str ⟨#[c]⟩]), fun i _ => i = z.cps.size⟩
theorem turn_enumS {P : Program} {w : World} {K : PySem.W.Frag} {elts : List Expr} {kk : Nat} {tpos : Pos} (z : Str) (t : Tok) (e it : Addr) (ne : e ≠ it) :
    Turn P w K (.Tuple elts kk tpos) (IteS z) [e, it] e (fun i h => (∃ old, IsEnum h e it ((i : Nat) : Int) old) ∧ h.IsStrIter it (strIterType z) z t i) where
  mem := by simp
  obj := fun i h st b hb => by
    obtain ⟨⟨old, he⟩, ⟨o, ho, hc, hd⟩⟩ := st
    have e' : b = e ∨ b = it := by simpa using hb
    rcases e' with y | y
    · subst y
      exact ⟨_, he, fun v q => nomatch q⟩
    · subst y
      exact ⟨o, ho, fun v q => by rw [hd] at q; cases q⟩
  keep := fun i h h' st k => let ⟨⟨old, he⟩, ⟨o, ho, r⟩⟩ := st; ⟨⟨old, k e (by simp) _ he⟩, ⟨o, k it (by simp) o ho, r⟩⟩
  item := by
    intro X hP hw hK hc i pins s σ H E I hf st hg
    subst hP hw hK
    obtain ⟨⟨old, he⟩, hit⟩ := st
    have hel : e < s.heap.objs.size := Heap.lt_size he
    have hil : it < s.heap.objs.size := by obtain ⟨_, q, _⟩ := hit; exact Heap.lt_size q
    refine wpAny_pyNext_enum_itemD (Draws.text (A := X.A.in1) (show X.A.in1.handled = none from I.ok.hd hc) it z t) he hit hg ne (by simp [ne]) fun x' h' tk hx' ho hst' hT hsz hk => ?_
    obtain ⟨c, u, hc1, rfl⟩ := hx'
    refine ⟨_, rfl, wpAny_letOwnedTupleGo_enum (s := { s with heap := h', toks := tk + 1 }) ho fun h'' he' sb => ?_⟩
    have hT2 : h''.get? s.heap.objs.size = some { cls := .type "tuple", data := .seq #[.int i tk, .str ⟨#[c]⟩ u] } := (sb.2 _ (Nat.ne_of_gt hel)).trans hT
    have new : ObjOk X.prog X.w (upd H s.heap.objs.size (.tup [.int (i : Nat), .str ⟨#[c]⟩])) h'' s.heap.objs.size (.tup [.int (i : Nat), .str ⟨#[c]⟩]) :=
      ⟨by show 2 ≤ sizeLine; decide, [.int i tk, .str ⟨#[c]⟩ u], .cons ⟨_, rfl⟩ (.cons ⟨_, rfl⟩ .nil), ⟨_, hT2, rfl, _, rfl⟩⟩
    have I1 : Inv X pins σ (upd H s.heap.objs.size (.tup [.int (i : Nat), .str ⟨#[c]⟩])) { s with heap := h'', toks := tk + 1 } :=
      I.turnedNew (ch := [e, it]) (fun b ob hb q => (sb.2 b (fun y => hb (by simp [y]))).trans (hk b ob (fun y => hb (by simp [y])) (fun y => hb (by simp [y])) q)) hf (Nat.le_refl _) new
    refine ⟨.ref s.heap.objs.size, _, I1, rfl, ⟨_, c, rfl, I.hok.fresh (Nat.le_refl _), hc1, rfl⟩, ⟨⟨.str ⟨#[c]⟩ u, ?_⟩, (let ⟨o, hq, hr⟩ := hst'; ⟨o, (sb.2 it (Ne.symm ne)).trans hq, hr⟩)⟩, fun b hb => ?_⟩
    · have e1 : ((i + 1 : Nat) : Int) = (i : Int) + 1 := by omega
      rw [e1]
      exact he'
    · have hb' : b < s.heap.objs.size := by
        have e' : b = e ∨ b = it := by simpa using hb
        rcases e' with y | y
        · subst y; exact hel
        · subst y; exact hil
      rw [upd_ne (Nat.ne_of_lt hb')]
      exact (hf b hb).1
  done := by
    intro X hP hw hK hc i pins s σ H E I hf st hg
    subst hP hw hK
    obtain ⟨⟨old, he⟩, hit⟩ := st
    obtain ⟨f0, f1, f2, f3, f4, f5⟩ := hf it (by simp)
    have hg : i = z.cps.size := hg
    subst hg
    exact wpAny_pyNext_enum_endD (Draws.text (A := X.A.in1) (show X.A.in1.handled = none from I.ok.hd hc) it z t) he hit fun h' eb => ⟨rfl, I.turned (t' := s.toks) (fun b o hb q => eb b o hb q) f0 f1 f3 f4 f5⟩
  self := fun A i s Q E st h => let ⟨⟨_, he⟩, _⟩ := st; wpAny_pyIter_enum he h
def iEnumS (ta : TA) : TI := fun σ H R => ta σ H fun vs H1 => ∃ z, vs = [.str z] ∧ R (IteS z) H1
theorem pi_enumS {X : Cx} {e : Expr} {ta : TA} {p pos tpos : Pos} {elts : List Expr} {kk : Nat} (hg : Gl X "enumerate") (hm : X.mg "enumerate" = none) (ha : PA X [e] ta) (hs : starEach [e] X.env = [(false, eval e X.env)] := by rfl) :
    PI X (.Tuple elts kk tpos) (.Call (.Name "enumerate" p) [e] [] pos) (iEnumS ta) := by
  refine ⟨fun pins s σ H R I h => ?_⟩
  refine Call_ (ld_blt I hg hm boot_enumerate (PyProof.Rows.callWith_type1 (thn (ha.run pos pins s σ H _ I h) fun us s1 ⟨vs, H1, I1, r1, q1⟩ => ?_) hs rfl))
  obtain ⟨z, ex, q⟩ := q1
  subst ex
  cases r1 with
  | cons r rr =>
    cases rr
    obtain ⟨t, rfl⟩ := r
    refine call_enumerate_str fun h' he hit hsz hk => wpAny_pyIter_enum he ?_
    have I2 : Inv X pins σ H1 { s1 with heap := h' } := I1.kept (t' := s1.toks) hk
    refine ⟨s1.heap.objs.size + 1, [s1.heap.objs.size + 1, s1.heap.objs.size], _, _, H1, rfl, I2, turn_enumS z t (s1.heap.objs.size + 1) s1.heap.objs.size (Nat.succ_ne_self _), ⟨⟨.none, he⟩, hit⟩, fun b hb => ?_, q⟩
    have e' : b = s1.heap.objs.size + 1 ∨ b = s1.heap.objs.size := by simpa using hb
    have hle : s1.heap.objs.size ≤ b := by
      rcases e' with y | y
      · rw [y]; exact Nat.le_add_right _ _
      · rw [y]; exact Nat.le_refl _
    exact I1.fpOk hle (I1.hok.fresh hle)
section
variable {K : PySem.W.Frag} {O : Own} {ds : List SD} {A : AE}
/-- for i, x in enumerate(text) -/
theorem s_forES {ta : TA} {j1 j2 : Nat} {tb : TS} (h : AvW K ta O ds fun rs O1 => ∃ z : List Nat, rs = [.dat (.str (sT z))] ∧ ∃ I : Nat → Own → List SD → Prop, I 0 O1 ds ∧
    (∀ (i : Nat) c O2 ds2, z[i]? = some c → I i O2 ds2 → ∀ B : AE, Bdy I i A B → StW K tb O2 ((ds2.set j1 (iV (i : Int))).set j2 (.dat (.str (sT [c])))) B) ∧ ∀ O2 ds2, I z.length O2 ds2 → A.nx O2 ds2) :
    StW K (tFor (iEnumS ta) (gTup K 2 (gCons (gName j1) (gCons (gName j2) gNil))) tb) O ds A := fun Hk σ H D p l =>
  h Hk σ H p _ fun vs rs O1 Hk1 H1 e1 h1 s1 q1 => by
    obtain ⟨z, rfl, I, h0, hs, hd⟩ := q1
    obtain ⟨v, rfl, hv⟩ := all1 s1
    cases (show Da Hk1 v (.str (sT z)) from hv)
    have hz : (sT z).cps.size = z.length := by simp [sT]
    refine ⟨sT z, rfl, fun i m σ H => m = z.length - i ∧ i ≤ z.length ∧ ∃ O2 ds2 Hk2, Same Hk1 Hk2 ∧ Pt K Hk2 O2 ds2 σ H ∧ I i O2 ds2, ⟨z.length, by simp, Nat.zero_le _, O1, ds, Hk1, Same.refl _, p.ext e1 h1, h0⟩, ?_⟩
    rintro i m σ' H' ⟨rfl, hi, O2, ds2, Hk2, e, p2, q⟩
    by_cases hlt : i < z.length
    · refine .inr ⟨by show i < (sT z).cps.size; omega, fun σ2 H2 => ∃ O3 ds3 Hk3, Same Hk1 Hk3 ∧ Pt K Hk3 O3 ds3 σ2 H2 ∧ I (i + 1) O3 ds3, fun σ2 H2 hN => ⟨z.length - (i + 1), by omega, rfl, hlt, hN⟩, fun x H2 y => ?_⟩
      obtain ⟨T, c, rfl, nT, hc, rfl⟩ := y
      have hc' : z[i]? = some c := by simpa [sT] using hc
      have smT : Same Hk2 (upd Hk2 T (.tup [.int (i : Nat), .str ⟨#[c]⟩])) := same_new (p2.hold.kn.free nT)
      have p3 : Pt K (upd Hk2 T (.tup [.int (i : Nat), .str ⟨#[c]⟩])) O2 ds2 σ' (upd H' T (.tup [.int (i : Nat), .str ⟨#[c]⟩])) := p2.ext smT (p2.hold.know nT)
      refine ⟨T, [.int (i : Nat), .str ⟨#[c]⟩], rfl, .inl (.inl upd_same), rfl, .int (i : Nat), [.str ⟨#[c]⟩], rfl, .str ⟨#[c]⟩, [], rfl, rfl, ?_⟩
      have e4 := e.trans smT
      exact hs i c O2 ds2 hc' q _ .mk' _ _ _ _ ((p3.set (j := j1) (r := iV (i : Int)) (.int _)).set (j := j2) (r := .dat (.str (sT [c]))) (.str _)) ⟨fun O3 ds3 Hk3 σ3 H3 e3 p3 q3 => ⟨O3, ds3, Hk3, e4.trans e3, p3, q3⟩, l.rt.ext (e1.trans e4), l.nx.ext (e1.trans e4), fun O3 ds3 Hk3 σ3 H3 e3 p3 q3 => ⟨O3, ds3, Hk3, e4.trans e3, p3, q3⟩, l.xt.ext (e1.trans e4)⟩
    · have e2 : i = z.length := by omega
      subst e2
      exact .inl ⟨hz.symm, l.nx O2 ds2 Hk2 σ' H' (e1.trans e) p2 (hd O2 ds2 q)⟩
end
/-- xs + ys, what comes is owned -/
theorem g_catN {K : PySem.W.Frag} {O : Own} {x y : SD} {es fs : List PyData} {Q : SD → Own → Prop} (l1 : Lst O x es) (l2 : Lst O y fs) (hz : es.length + fs.length ≤ 1000000) (q : ∀ l, Q (.ad l) ((l, .lst ((es ++ fs).map .dat)) :: O)) : OpW K rCat x y O Q := fun Hk H h u v hu hv Q' k => by
  obtain ⟨a, xs, rfl, h1, h2⟩ := l1.get h hu
  obtain ⟨a2, ys, rfl, g1, g2⟩ := l2.get h hv
  exact ⟨_, _, xs, ys, rfl, rfl, h1, g1, by rw [h2.length, g2.length]; exact Nat.le_trans hz (by decide), fun l hf => k.newO h hf (h2.append g2) q⟩
end Wk
namespace Wk
open PySem PySem.Spec PyProof.Rows L2
abbrev dc2 (kx vx t0 i0 t1 i1 : Expr) (scope : Scope) (pos : Pos) : Expr := .DictComp kx vx [⟨t0, i0, [], 0⟩, ⟨t1, i1, [], 0⟩] scope pos
section
variable {prog : Program} {w : World} {A : Around} {R : Result → Shared → Prop} {s : Shared} {kx vx t0 i0 t1 i1 : Expr} {scope : Scope} {pos : Pos} {it acc : Value} {D : Addr} {env : Env}
/-- a turn of the first clause: store, the second source, its own loop -/
theorem turnD_out : compTurn (dc2 kx vx t0 i0 t1 i1 scope pos) 0 it acc env = (do
    standAt i0.pos
    match ← pyNext it with
    | none => pure (.done .next)
    | some v =>
      letOwnedTupleGo t0 it v
      assign t0 env v
      let x ← eval i1 env
      standAt i1.pos
      let x ← foldedSetIterable i1 env x
      let _ ← runOwn (.compStart (dc2 kx vx t0 i0 t1 i1 scope pos) 1 (← holding [x] (pyIter x)) acc env) env
      again (.compLoop (dc2 kx vx t0 i0 t1 i1 scope pos) 0 it acc env)) := by rfl
/-- a turn of the second: store, the key, the value, the dict's write -/
theorem turnD_in : compTurn (dc2 kx vx t0 i0 t1 i1 scope pos) 1 it (.ref D) env = (do
    standAt i1.pos
    match ← pyNext it with
    | none => pure (.done .next)
    | some v =>
      letOwnedTupleGo t1 it v
      assign t1 env v
      (do
        let kv ← eval kx env
        let vv ← holding [kv] (eval vx env)
        standAt { kx.pos with endLine := vx.pos.endLine, endCol := vx.pos.endCol }
        holding [kv, vv] (dictSet D kv vv))
      again (.compLoop (dc2 kx vx t0 i0 t1 i1 scope pos) 1 it (.ref D) env)) := by rfl
/-- what goes wrong in a turn: nothing that is stated here lets it -/
abbrev Bad (prog : Program) (w : World) (A : Around) (env : Env) (R : Result → Shared → Prop) : Value → Shared → Prop := notedBy (model prog w) A env fun e s' => R (.error e) s'
theorem loopD_out (hs : ∀ x, foldedSetIterable i1 env x = pure x) (I : Nat → Shared → Prop)
    (turn : ∀ n s, I n s → wpAny (model prog w) A (pyNext it) (fun r s₁ => match r with
      | none => R (.ok .next) s₁
      | some v => wpAny (model prog w) A (letOwnedTupleGo t0 it v) (fun _ s₂ => wpAny (model prog w) A (assign t0 env v) (fun _ s₃ =>
          wpAny (model prog w) A (eval i1 env) (fun x s₄ => wpAny (model prog w) A (pyIter x) (fun it1 s₅ =>
              codeAny (model prog w) A (.compStart (dc2 kx vx t0 i0 t1 i1 scope pos) 1 it1 acc env) (fun r s' => match r with
                | .ok _ => ∃ m, m < n ∧ I m s'
                | .error _ => False) s₅) (Bad prog w A env R) s₄) (Bad prog w A env R) s₃) (Bad prog w A env R) s₂) (Bad prog w A env R) s₁) (Bad prog w A env R) s)
    (n : Nat) (h : I n s) : codeAny (model prog w) A (.compLoop (dc2 kx vx t0 i0 t1 i1 scope pos) 0 it acc env) R s := by
  refine codeAny_loop rfl I (fun n s hI => ?_) n h
  show wpAny _ A ((compTurn (dc2 kx vx t0 i0 t1 i1 scope pos) 0 it acc env).onRaise (fun x => do noteFrame x env; theTreesLotGoes x)) _ _ s
  refine wpAny_noted ?_
  rw [turnD_out]
  refine wpAny_bind (wpAny_standAt (wpAny_bind (wpAny_mono (turn n s hI) (fun r s₁ h₁ => ?_) fun _ _ z => z)))
  match r, h₁ with
  | none, h₁ => exact wpAny_pure h₁
  | some v, h₁ =>
    refine wpAny_bind (wpAny_mono h₁ (fun _ s₂ h₂ => ?_) fun _ _ z => z)
    refine wpAny_bind (wpAny_mono h₂ (fun _ s₃ h₃ => ?_) fun _ _ z => z)
    refine wpAny_bind (wpAny_mono h₃ (fun x s₄ h₄ => ?_) fun _ _ z => z)
    refine wpAny_bind (wpAny_standAt (wpAny_bind (wpAny_of_eq (hs x) (wpAny_bind (wpAny_holding (wpAny_mono h₄ (fun it1 s₅ h₅ => ?_) fun _ _ z => z))))))
    refine wpAny_bind (wpAny_runOwn ?_)
    rw [Around.mark_none]
    refine codeAny_mono h₅ fun r s' hr => ?_
    match r, hr with
    | .ok f, hr => first | exact wpAny_pure ⟨rfl, hr⟩ | exact wpAny_bind (wpAny_pure (wpAny_pure ⟨rfl, hr⟩))
theorem loopD_in (I : Nat → Shared → Prop)
    (turn : ∀ n s, I n s → wpAny (model prog w) A (pyNext it) (fun r s₁ => match r with
      | none => R (.ok .next) s₁
      | some v => wpAny (model prog w) A (letOwnedTupleGo t1 it v) (fun _ s₂ => wpAny (model prog w) A (assign t1 env v) (fun _ s₃ =>
          wpAny (model prog w) A (eval kx env) (fun kv s₄ => wpAny (model prog w) A (eval vx env) (fun vv s₅ =>
            wpAny (model prog w) A (dictSet D kv vv) (fun _ s₆ => ∃ m, m < n ∧ I m s₆) (Bad prog w A env R) s₅) (Bad prog w A env R) s₄) (Bad prog w A env R) s₃) (Bad prog w A env R) s₂) (Bad prog w A env R) s₁) (Bad prog w A env R) s)
    (n : Nat) (h : I n s) : codeAny (model prog w) A (.compLoop (dc2 kx vx t0 i0 t1 i1 scope pos) 1 it (.ref D) env) R s := by
  refine codeAny_loop rfl I (fun n s hI => ?_) n h
  show wpAny _ A ((compTurn (dc2 kx vx t0 i0 t1 i1 scope pos) 1 it (.ref D) env).onRaise (fun x => do noteFrame x env; theTreesLotGoes x)) _ _ s
  refine wpAny_noted ?_
  rw [turnD_in]
  refine wpAny_bind (wpAny_standAt (wpAny_bind (wpAny_mono (turn n s hI) (fun r s₁ h₁ => ?_) fun _ _ z => z)))
  match r, h₁ with
  | none, h₁ => exact wpAny_pure h₁
  | some v, h₁ =>
    refine wpAny_bind (wpAny_mono h₁ (fun _ s₂ h₂ => ?_) fun _ _ z => z)
    refine wpAny_bind (wpAny_mono h₂ (fun _ s₃ h₃ => ?_) fun _ _ z => z)
    exact wpAny_bind (wpAny_bind (wpAny_mono h₃ (fun kv s₄ h₄ => wpAny_bind (wpAny_holding (wpAny_mono h₄ (fun vv s₅ h₅ => wpAny_bind (wpAny_standAt (wpAny_holding (wpAny_mono h₅ (fun _ s₆ h₆ => wpAny_pure ⟨rfl, h₆⟩) fun _ _ z => z)))) fun _ _ z => z))) fun _ _ z => z))
theorem startD_in (h0 : codeAny (model prog w) A (.compLoop (dc2 kx vx t0 i0 t1 i1 scope pos) 1 it acc env) R s)
    (h : wpAny (model prog w) A (pyIter it) (fun it' s' => codeAny (model prog w) A (.compLoop (dc2 kx vx t0 i0 t1 i1 scope pos) 1 it' acc env) R s') (Bad prog w A env R) s) :
    codeAny (model prog w) A (.compStart (dc2 kx vx t0 i0 t1 i1 scope pos) 1 it acc env) R s := by
  refine codeAny_of_tree ?_
  show wpAny _ _ ((compStart (dc2 kx vx t0 i0 t1 i1 scope pos) 1 it acc env).onRaise (fun x => do noteFrame x env; standAt theWindowsPlace)) _ _ s
  refine wpAny_notedAt ?_
  unfold compStart
  show wpAny _ _ (ask >>= _) _ _ s
  refine wpAny_bind (wpAny_askSetting (wpAny_ite ?_))
  split
  · first
      | exact wpAny_bind (wpAny_pure (wpAny_pure ⟨rfl, h0⟩))
      | exact wpAny_pure ⟨rfl, h0⟩
  · first
      | exact wpAny_bind (wpAny_rule (wpAny_bind (wpAny_standAt (wpAny_bind (wpAny_mono h (fun _ _ z => wpAny_pure ⟨rfl, z⟩) fun _ _ z => z)))))
      | (refine wpAny_bind (wpAny_rule ?_); show wpAny _ _ (standAt i1.pos >>= _) _ _ s; exact wpAny_bind (wpAny_standAt (wpAny_bind (wpAny_mono h (fun _ _ z => wpAny_pure ⟨rfl, z⟩) fun _ _ z => z))))
end
section
variable {X : Cx} {kx vx tg iter tg1 iter1 : Expr} {scope : Scope} {own : List (Str × Nat)} {vs1 : List Nat} {pos : Pos} {wi wi1 : TI} {g g1 : TG} {tk tv : TE}
/-- vs: the block's names, vs1: those of the second target; Nx: what holds where the next turn of the first clause begins -/
def tDc2 (wi : TI) (g : TG) (wi1 : TI) (g1 : TG) (tk tv : TE) (vs vs1 : List Nat) : TE := fun σ H Q => wi σ H fun J H1 => ∀ D, H1 D = none → ∃ W : Nat → Nat → Hp → Prop, (∃ m, W 0 m (upd H1 D (.dK []))) ∧ ∀ i m H, W i m H →
  (J.stop i H ∧ Q (.ref D) H) ∨ (J.go i H ∧ ∃ Nx : Hp → Prop, (∀ H', Nx H' → ∃ m', m' < m ∧ W (i + 1) m' H') ∧ ∀ x H', J.yld i H x H' → g x (wipe σ vs) H' fun σ2 H2 => wipe σ2 vs = wipe σ vs ∧
    wi1 σ2 H2 fun J1 H4 => ∃ W1 : Nat → Nat → Hp → Prop, (∃ m, W1 0 m H4) ∧ ∀ j k H, W1 j k H →
      (J1.stop j H ∧ Nx H) ∨ (J1.go j H ∧ ∃ N1 : Hp → Prop, (∀ H', N1 H' → ∃ k', k' < k ∧ W1 (j + 1) k' H') ∧ ∀ x H', J1.yld j H x H' → g1 x (wipe σ2 vs1) H' fun σ3 H5 => wipe σ3 vs1 = wipe σ2 vs1 ∧
        tk σ3 H5 fun y H6 => tv σ3 H6 fun z H7 => ∃ kvs key, y = kV key ∧ H7 D = some (.dK kvs) ∧ kvs.length < sizeLine ∧ N1 (upd H7 D (.dK (putK kvs key z)))))
theorem dc2Core {pins : List (Addr × Obj)} {s : Shared} {σ : L2.St} {H : Hp} {Q : VK} {pos' : Pos} {use : Option (Value → Sem Unit)} {Qf : Value → Shared → Prop} (hc : X.calm = true) (hN : X.N.Nodup) (hi : PI X tg iter wi) (ok : BlkOk X.N X.env.scope scope own) (hv : ∀ i ∈ vs1, i ∈ own.map (·.2))
    (hg : ∀ (s : Shared) (H : Hp) (C : Addr) (cl : List (Str × Addr)) (fp : List Addr), PG (X.blk s H scope (compEnvC scope cl C X.env) fp) tg g)
    (hi1 : ∀ (s : Shared) (H : Hp) (C : Addr) (cl : List (Str × Addr)) (fp : List Addr), PI (X.blk s H scope (compEnvC scope cl C X.env) fp) tg1 iter1 wi1)
    (hg1 : ∀ (s : Shared) (H : Hp) (C : Addr) (cl : List (Str × Addr)) (fp : List Addr), PG (X.blk s H scope (compEnvC scope cl C X.env) fp) tg1 g1)
    (hk : ∀ (s : Shared) (H : Hp) (C : Addr) (cl : List (Str × Addr)) (fp : List Addr), PE (X.blk s H scope (compEnvC scope cl C X.env) fp) kx tk)
    (hx : ∀ (s : Shared) (H : Hp) (C : Addr) (cl : List (Str × Addr)) (fp : List Addr), PE (X.blk s H scope (compEnvC scope cl C X.env) fp) vx tv)
    (hs : ∀ x, foldedSetIterable iter X.env x = pure x) (hs1 : ∀ env x, foldedSetIterable iter1 env x = pure x) (I : Inv X pins σ H s) (h : tDc2 wi g wi1 g1 tk tv (own.map (·.2)) vs1 σ H Q)
    (fin : ∀ D C s' m H', Inv X pins σ H' s' → Q (.ref D) H' → s'.heap.Ns C m → FpOk X pins H' C → compPost (model X.prog X.w) X.A X.xe use Qf (.ref D) C (.ok .next) s') :
    wpAny (model X.prog X.w) X.A (comprehension (dc2 kx vx tg iter tg1 iter1 scope pos) scope X.env pos' newDict false (eval iter X.env) use) Qf X.xe s := by
  -- the block: its closure, its first source, the new dict
  refine wpAny_comprehension_free (use := use) rfl hs (closure_ok fun y hy e => (ok.free y hy e).elim (fun k => I.ok.has _ (.inl k)) fun k => I.ok.has _ (.inr k)) ok.kind (fun y hy e => by rw [ok.uniq y hy, e])
    (thn (hi.run pins s σ H _ I h) fun xv s1 h1 => thn h1 fun itv s2 h2 => ?_)
  obtain ⟨it, fp, tn, J, H2, rfl, I2, T, st2, f2, q⟩ := h2
  refine wpAny_newObj_type (newEnv_comp ?_)
  generalize hD : s2.heap.objs.size = D
  obtain ⟨W, ⟨m0, w0⟩, turn⟩ := q D (I2.hok.fresh (Nat.le_of_eq hD))
  generalize hs3 : ({ s2 with heap := s2.heap.push { cls := .type "dict", data := .dict #[] } } : Shared) = s3
  have I3 : Inv X pins σ (upd H2 D (.dK [])) s3 := by
    subst hs3 hD
    exact I2.laid (t' := s2.toks) (fun b o e => Heap.get?_push_of_some _ e) (Nat.le_refl _) (dk_empty s2.heap I2.big)
  have up3 : ∀ b o, s2.heap.get? b = some o → s3.heap.get? b = some o := fun b o e => by
    subst hs3
    exact Heap.get?_push_of_some _ e
  have f3 : ∀ b ∈ fp, FpOk X pins (upd H2 D (.dK [])) b ∧ b < s3.heap.objs.size := fun b hb => by
    obtain ⟨o, e, _⟩ := T.obj _ _ st2 b hb
    have hlt := Heap.lt_size e
    refine ⟨⟨?_, (f2 b hb).2⟩, Heap.lt_size (up3 b o e)⟩
    rw [upd_ne (by rw [← hD]; exact Nat.ne_of_lt hlt)]
    exact (f2 b hb).1
  have I4 := block_start I3 ok hN f3
  have st3 : tn 0 s3.heap := T.keep _ _ _ st2 fun b _ o e => up3 b o e
  generalize hcl : cellsFrom (s3.heap.objs.size + 1) scope.names (cloFrom X.env.cells scope.names []) = cl at I4
  generalize hH3 : upd H2 D (.dK []) = H3 at I3 I4 w0 f3
  have pg := hg s3 H3 s3.heap.objs.size cl fp
  have pi1 := hi1 s3 H3 s3.heap.objs.size cl fp
  have pg1 := hg1 s3 H3 s3.heap.objs.size cl fp
  have pk := hk s3 H3 s3.heap.objs.size cl fp
  have px := hx s3 H3 s3.heap.objs.size cl fp
  show codeAny _ _ (.compStart (dc2 kx vx tg iter tg1 iter1 scope pos) 0 (.ref it) (.ref D) (compEnvC scope cl s3.heap.objs.size X.env)) (compPost (model X.prog X.w) X.A X.xe use Qf (.ref D) s3.heap.objs.size) { s3 with heap := pushCells (s3.heap.push { cls := .type "dict", data := .dict #[] }) scope.names }
  have nfp : ∀ b ∈ fp, H3 b = none := fun b hb => (f3 b hb).1.1
  generalize hce : compEnvC scope cl s3.heap.objs.size X.env = ce at I4 pg pi1 pg1 pk px ⊢
  have cL : ce.locals = s3.heap.objs.size := by subst hce; rfl
  generalize hs4 : ({ s3 with heap := pushCells (s3.heap.push { cls := .type "dict", data := .dict #[] }) scope.names } : Shared) = s4 at I4 ⊢
  have st4 : tn 0 s4.heap := T.keep _ _ _ st3 fun b _ o e => by rw [← hs4]; exact pushCells_keeps _ _ _ _ (Heap.get?_push_of_some _ e)
  -- what holds where a turn of the first clause begins
  let In : Nat → Shared → Prop := fun n s' => ∃ i H', Inv (X.blk s3 H3 scope ce fp) [] (wipe σ (own.map (·.2))) H' s' ∧ tn i s'.heap ∧ (∀ b ∈ fp, H' b = none) ∧ W i n H'
  have pinned : ∀ {σ' : L2.St} {H' : Hp} {s' : Shared}, Inv (X.blk s3 H3 scope ce fp) [] σ' H' s' → (∀ b ∈ fp, H' b = none) → ∀ b ∈ fp, FpOk (X.blk s3 H3 scope ce fp) [] H' b := fun I' hn b hb =>
    ⟨hn b hb, (I'.ok.exf b hb).1, I'.ok.exfs b hb, .inl hb, fun x c e => (I'.ok.exf b hb).2 x c e, fun p hp => absurd hp List.not_mem_nil⟩
  have loop : codeAny (model X.prog X.w) X.A (.compLoop (dc2 kx vx tg iter tg1 iter1 scope pos) 0 (.ref it) (.ref D) ce) (compPost (model X.prog X.w) X.A X.xe use Qf (.ref D) s3.heap.objs.size) s4 := by
    refine loopD_out (hs1 ce) In ?_ m0 ⟨0, H3, I4, st4, nfp, w0⟩
    rintro n s5 ⟨i, H5, I5, st5, n5, w5⟩
    rcases turn i n H5 w5 with ⟨stop, qq⟩ | ⟨go, Nx, hNx, step⟩
    · -- the end: back in the def
      refine thnF (T.done (X.blk s3 H3 scope ce fp) rfl rfl rfl hc i [] s5 _ H5 (fun _ _ => False) I5 (pinned I5 n5) st5 stop) fun r s6 ⟨hr, I6⟩ => ?_
      subst hr
      have I7 : Inv X pins σ H5 s6 := I3.call' (ch := fp) I6.os I6.base I6.hok I6.bare fun b hb => have z := (f3 b hb).1.2; ⟨z.2.2.1, z.1, z.2.2.2.1, z.2.2.2.2⟩
      have nC : H5 s3.heap.objs.size = none := by
        rw [← cL]
        exact I6.free
      obtain ⟨m, hn, _⟩ := I6.loc
      have hn : s6.heap.Ns ce.locals m := hn
      rw [cL] at hn
      exact fin D s3.heap.objs.size s6 m H5 I7 qq hn (I3.fpOk (Nat.le_refl _) nC)
    · refine thnF (T.item (X.blk s3 H3 scope ce fp) rfl rfl rfl hc i [] s5 _ H5 (fun _ _ => False) I5 (pinned I5 n5) st5 go) fun r s6 ⟨u, hr, h6⟩ => ?_
      subst hr
      refine thnF h6 fun _ s7 ⟨x, H7, I7, r7, y7, st7, n7⟩ => ?_
      refine thnF (pg.run _ s7 _ H7 x u _ (I7.pinned (pinned I7 n7) (T.obj _ _ st7)) r7 (step x H7 y7)) fun _ s8 ⟨σ8, H8, I8, hw8, q8⟩ => ?_
      have hl8 : (wipe σ (own.map (·.2))).length = σ8.length := by rw [← hw8, wipe_length]
      have hk9 : ∀ (j : Nat) v, (wipe σ (own.map (·.2)))[j]? = some (some v) → (wipe σ8 vs1)[j]? = some (some v) := fun j v e => by
        rw [← hw8] at e
        obtain ⟨e1, e2⟩ := wipe_some e
        rw [wipe_out fun z => e2 (hv j z)]
        exact e1
      -- the next turn, from any slots that know what the block knew
      have next : ∀ {σ9 : L2.St} {s' : Shared} {H' : Hp}, Inv (X.blk s3 H3 scope ce fp) ([] ++ pinsAt fp s7.heap) σ9 H' s' → (wipe σ (own.map (·.2))).length = σ9.length → (∀ (j : Nat) v, (wipe σ (own.map (·.2)))[j]? = some (some v) → σ9[j]? = some (some v)) → Nx H' → ∃ m, m < n ∧ In m s' := fun {σ9 s' H'} I' hl hk nx => by
        obtain ⟨m', hm, w'⟩ := hNx H' nx
        have pin : ∀ b ∈ fp, ∀ o, s7.heap.get? b = some o → s'.heap.get? b = some o ∧ H' b = none := fun b hb o e =>
          have z := I'.pin (b, o) (List.mem_append_right _ (List.mem_append_right _ (mem_pinsAt hb e)))
          ⟨z.1, z.2.1⟩
        refine ⟨m', hm, i + 1, H', (I'.unpinned (pins := [])).weak hl hk, T.keep _ _ _ st7 fun b hb o e => (pin b hb o e).1, fun b hb => ?_, w'⟩
        obtain ⟨o, e, _⟩ := T.obj _ _ st7 b hb
        exact (pin b hb o e).2
      refine thnF (pi1.run _ s8 σ8 H8 _ I8 q8) fun xv s10 h10 => thnF h10 fun itv s11 h11 => ?_
      obtain ⟨it1, fp1, tn1, J1, H11, rfl, I11, T1, st11, f11, W1, ⟨m1, w1⟩, turn1⟩ := h11
      have pinned1 : ∀ {H' : Hp}, (∀ b ∈ fp1, H' b = none) → ∀ b ∈ fp1, FpOk (X.blk s3 H3 scope ce fp) ([] ++ pinsAt fp s7.heap) H' b := fun hn b hb => ⟨hn b hb, (f11 b hb).2⟩
      have loop1 : codeAny (model X.prog X.w) X.A (.compLoop (dc2 kx vx tg iter tg1 iter1 scope pos) 1 (.ref it1) (.ref D) ce) (fun r s' => match r with
          | .ok _ => ∃ m, m < n ∧ In m s'
          | .error _ => False) s11 := by
        refine loopD_in (fun k s' => ∃ j H', Inv (X.blk s3 H3 scope ce fp) ([] ++ pinsAt fp s7.heap) (wipe σ8 vs1) H' s' ∧ tn1 j s'.heap ∧ (∀ b ∈ fp1, H' b = none) ∧ W1 j k H') ?_ m1 ⟨0, H11, I11.weak (wipe_length _ _) (fun j v e => (wipe_some e).1), st11, fun b hb => (f11 b hb).1, w1⟩
        rintro k s12 ⟨j, H12, I12, st12, n12, w12⟩
        rcases turn1 j k H12 w12 with ⟨stop1, nx1⟩ | ⟨go1, N1, hN1, step1⟩
        · refine thnF (T1.done (X.blk s3 H3 scope ce fp) rfl rfl rfl hc j _ s12 (wipe σ8 vs1) H12 (fun _ _ => False) I12 (pinned1 n12) st12 stop1) fun r s13 ⟨hr, I13⟩ => ?_
          subst hr
          exact next I13 (hl8.trans (wipe_length σ8 vs1).symm) hk9 nx1
        · refine thnF (T1.item (X.blk s3 H3 scope ce fp) rfl rfl rfl hc j _ s12 (wipe σ8 vs1) H12 (fun _ _ => False) I12 (pinned1 n12) st12 go1) fun r s13 ⟨u1, hr, h13⟩ => ?_
          subst hr
          refine thnF h13 fun _ s14 ⟨x1, H14, I14, r14, y14, st14, n14⟩ => ?_
          refine thnF (pg1.run _ s14 (wipe σ8 vs1) H14 x1 u1 _ (I14.pinned (pinned1 n14) (T1.obj _ _ st14)) r14 (step1 x1 H14 y14)) fun _ s15 ⟨σ15, H15, I15, hw15, q15⟩ => ?_
          refine thnF (pk.run _ s15 σ15 H15 _ I15 q15) fun z s16 ⟨yk, H16, I16, r16, q16⟩ => ?_
          refine thnF (px.run _ s16 σ15 H16 _ I16 q16) fun z2 s17 ⟨yv, H17, I17, r17, kvs, key, ek, hD17, hz17, nx⟩ => ?_
          subst ek
          refine d_dictSet (X := X.blk s3 H3 scope ce fp) I17 hD17 hz17 r16 r17 fun s18 I18 => ?_
          obtain ⟨m', hm, w'⟩ := hN1 _ nx
          have pin : ∀ b ∈ fp1, ∀ o, s14.heap.get? b = some o → s18.heap.get? b = some o ∧ (upd H17 D (.dK (putK kvs key yv))) b = none := fun b hb o e =>
            have z := I18.pin (b, o) (List.mem_append_right _ (List.mem_append_right _ (mem_pinsAt hb e)))
            ⟨z.1, z.2.1⟩
          refine ⟨m', hm, j + 1, _, I18.unpinned.weak (by rw [← hw15, wipe_length]) (fun j v e => by rw [← hw15] at e; exact (wipe_some e).1), T1.keep _ _ _ st14 fun b hb o e => (pin b hb o e).1, fun b hb => ?_, w'⟩
          obtain ⟨o, e, _⟩ := T1.obj _ _ st14 b hb
          exact (pin b hb o e).2
      exact startD_in loop1 (T1.self X.A 0 _ _ _ st11 loop1)
  exact codeAny_compStart_dict loop (T.self X.A 0 _ _ _ st4 loop)
/-- y = {k: v for .. in .. for .. in ..} -/
theorem psSetDc2 {i : Nat} {y : Str} {py spos : Pos} (hy : X.N[i]? = some y) (hyl : X.env.scope.names.lookup y = some .local) (hsw : swapsWith (dc2 kx vx tg iter tg1 iter1 scope pos) (some (.Name y py)) spos.line X.env = pure true) (hc : X.calm = true) (hN : X.N.Nodup) (hi : PI X tg iter wi) (ok : BlkOk X.N X.env.scope scope own) (hv : ∀ i ∈ vs1, i ∈ own.map (·.2))
    (hg : ∀ (s : Shared) (H : Hp) (C : Addr) (cl : List (Str × Addr)) (fp : List Addr), PG (X.blk s H scope (compEnvC scope cl C X.env) fp) tg g)
    (hi1 : ∀ (s : Shared) (H : Hp) (C : Addr) (cl : List (Str × Addr)) (fp : List Addr), PI (X.blk s H scope (compEnvC scope cl C X.env) fp) tg1 iter1 wi1)
    (hg1 : ∀ (s : Shared) (H : Hp) (C : Addr) (cl : List (Str × Addr)) (fp : List Addr), PG (X.blk s H scope (compEnvC scope cl C X.env) fp) tg1 g1)
    (hk : ∀ (s : Shared) (H : Hp) (C : Addr) (cl : List (Str × Addr)) (fp : List Addr), PE (X.blk s H scope (compEnvC scope cl C X.env) fp) kx tk)
    (hx : ∀ (s : Shared) (H : Hp) (C : Addr) (cl : List (Str × Addr)) (fp : List Addr), PE (X.blk s H scope (compEnvC scope cl C X.env) fp) vx tv)
    (hs : ∀ x, foldedSetIterable iter X.env x = pure x := by intro _; rfl) (hs1 : ∀ env x, foldedSetIterable iter1 env x = pure x := by intro _ _; rfl) :
    PS X (.Assign [.Name y py] (dc2 kx vx tg iter tg1 iter1 scope pos) spos) (tAsg (tDc2 wi g wi1 g1 tk tv (own.map (·.2)) vs1) (gName i)) := by
  refine ⟨fun pins s σ H D I h => ?_⟩
  rw [exec_Assign_Name_used _ _ _ _ hsw]
  refine wpAny_bind (wpAny_standAt (wpAny_bind ?_))
  show wpAny _ X.A (do let _ ← comprehension (dc2 kx vx tg iter tg1 iter1 scope pos) scope X.env (firstIterPos [⟨tg, iter, [], 0⟩, ⟨tg1, iter1, [], 0⟩] pos) newDict false (eval iter X.env) (some (assign (.Name y py) X.env))) _ _ s
  have h : tDc2 wi g wi1 g1 tk tv (own.map (·.2)) vs1 σ H (fun x H1 => gName i x σ H1 D.nx) := h
  refine wpAny_bind (thn (dc2Core (Qf := fun _ s' => SP X pins D .next s') hc hN hi ok hv hg hi1 hg1 hk hx hs hs1 I h fun L C s' m H' I' q hn f => ?_) fun _ s' hq => wpAny_pure (wpAny_pure hq))
  show wpAny _ _ (assign (.Name y py) X.env (.ref L)) _ _ _
  refine wpAny_assign_Name (store_ok2 (v := V.ref L) I' hN hy (.inl hyl) rfl (fun s2 I2 ⟨a, sb, ha⟩ => ?_) (.inr hyl))
  obtain ⟨f0, f1, _, f3, f4, f5⟩ := f
  have hne : C ≠ a := ha.elim (fun z => by rw [z]; exact f1) fun z e => f4 y a z e.symm
  exact ⟨m, hn.sameBut sb hne, fun h3 sb3 => ⟨_, H', I2.turned (t' := s2.toks) (fun b o hb e => (sb3.2 b hb).trans e) f0 f1 f3 f4 f5, q⟩⟩
theorem swD_true {py : Pos} {y : Str} {l : Nat} {env : Env} (hk : env.blockKind = .function) (hy : env.kindOf y = some .local) (hl : py.line = pos.line)
    (hn : (scope.names.any fun x => x.1 == y && (x.2 == .local || x.2 == .cell)) = false) : swapsWith (dc2 kx vx tg iter tg1 iter1 scope pos) (some (.Name y py)) l env = pure true := by
  have h3 : (py.line == pos.line) = true := by rw [hl]; simp
  show (pure (env.blockKind == ScopeKind.function && env.kindOf y == some NameKind.local && py.line == pos.line && !(scope.names.any fun x => x.1 == y && (x.2 == .local || x.2 == .cell))) : Sem Bool) = pure true
  rw [hk, hy, h3, hn]
  rfl
end
/-! ### the dict of the rows in which numbers stand: {v: i + 1 for i, row in enumerate(t) for v in row} -/
abbrev diO (kvs : List (Key × V)) : OD := .obj (.dK kvs) [] []
def addK (kvs : List (Key × V)) (i : Nat) (r : List Int) : List (Key × V) := r.foldl (fun kvs v => putK kvs (.inl v) (V.int ((i : Int) + 1))) kvs
def rowK (T : List (List Int)) : Nat → List (Key × V)
  | 0 => []
  | i + 1 => addK (rowK T i) i (T.getD i [])
theorem addK_snoc (kvs : List (Key × V)) (i : Nat) (r : List Int) (v : Int) : addK kvs i (r ++ [v]) = putK (addK kvs i r) (.inl v) (V.int ((i : Int) + 1)) := by
  rw [addK, List.foldl_append]
  rfl
theorem addK_len (i : Nat) : ∀ (r : List Int) (kvs : List (Key × V)), (addK kvs i r).length ≤ kvs.length + r.length
  | [], kvs => Nat.le_refl _
  | v :: r, kvs => by
    have h1 := addK_len i r (putK kvs (.inl v) (V.int ((i : Int) + 1)))
    have h2 := length_putK kvs (Sum.inl v : Key) (V.int ((i : Int) + 1))
    show (addK (putK kvs (.inl v) (V.int ((i : Int) + 1))) i r).length ≤ kvs.length + (r.length + 1)
    omega
theorem rowK_len (T : List (List Int)) (m : Nat) (h : ∀ r ∈ T, r.length ≤ m) : ∀ i, (rowK T i).length ≤ i * m
  | 0 => Nat.zero_le _
  | i + 1 => by
    have h1 := addK_len i (T.getD i []) (rowK T i)
    have h2 := rowK_len T m h i
    have h3 : (T.getD i []).length ≤ m := by
      rw [List.getD_eq_getElem?_getD]
      cases e : T[i]? with
      | none => exact Nat.zero_le _
      | some r => exact h r (List.mem_of_getElem? e)
    show (addK (rowK T i) i (T.getD i [])).length ≤ (i + 1) * m
    rw [Nat.add_mul, Nat.one_mul]
    omega
theorem wipe_in {σ : L2.St} {i : Nat} : ∀ {vs : List Nat}, i ∈ vs → i < σ.length → (wipe σ vs)[i]? = some none
  | [], h, _ => absurd h List.not_mem_nil
  | v :: vs, h, hl => by
    unfold wipe
    by_cases e : v = i
    · subst e
      rw [List.getElem?_set_self (by rw [wipe_length]; exact hl)]
    · rw [List.getElem?_set_ne e]
      rcases List.mem_cons.mp h with z | z
      · exact absurd z.symm e
      · exact wipe_in z hl
theorem wipe_same {σ σ2 : L2.St} {vs : List Nat} (hl : σ2.length = σ.length) (h : ∀ i, i ∉ vs → σ2[i]? = σ[i]?) : wipe σ2 vs = wipe σ vs := by
  refine List.ext_getElem? fun i => ?_
  by_cases hi : i ∈ vs
  · by_cases hlt : i < σ.length
    · rw [wipe_in hi (by rw [hl]; exact hlt), wipe_in hi hlt]
    · rw [List.getElem?_eq_none (by rw [wipe_length]; omega), List.getElem?_eq_none (by rw [wipe_length]; omega)]
  · rw [wipe_out hi, wipe_out hi, h i hi]
section
variable {K : PySem.W.Frag} {Hk Hk' H H' : Hp} {O O' : Own} {ds : List SD} {σ : L2.St} {Q : SD → Own → Prop} {A : AE}
theorem w_rowD {ta : TA} {j1 j2 j3 : Nat} (h12 : j1 ≠ j2) (h13 : j1 ≠ j3) (h23 : j2 ≠ j3) (l1 : j1 < ds.length) (l2 : j2 < ds.length) (l3 : j3 < ds.length)
    (h : AvW K ta O ds fun rs O1 => ∃ T : List (List Int), rs = [.dat (.tuple (T.map fun r => .tuple (r.map .int)))] ∧ T.length ≤ 1000 ∧ (∀ r ∈ T, r.length ≤ 1000) ∧ ∀ D, Q (.ad D) ((D, diO (rowK T T.length)) :: O1)) :
    EvW K (tDc2 (iEnumT K ta) (gTup K 2 (gCons (gName j1) (gCons (gName j2) gNil))) (iTup K (tVar j2)) (gName j3) (tVar j3) (tOp (rI0 fun i j => V.int (i + j)) (tVar j1) (tC (V.int 1))) [j1, j2, j3] [j3]) O ds Q := fun Hk σ H p Q' k =>
  h Hk σ H p _ fun vs rs O1 Hk1 H1 e1 h1 s1 q1 => by
    obtain ⟨T, rfl, hT, hr, q⟩ := q1
    obtain ⟨v, rfl, hv⟩ := all1 s1
    have hσ : σ.length = ds.length := p.len
    cases (show Da Hk1 v (.tuple (T.map fun r => .tuple (r.map .int))) from hv) with
    | @tup a xs _ g1 g2 =>
    have hxl : xs.length = T.length := by rw [g2.length, List.length_map]
    refine ⟨a, xs, rfl, .inl (.inl (h1.kn _ _ g1)), fun D hf => ?_⟩
    refine ⟨fun i m H => m = T.length - i ∧ i ≤ T.length ∧ ∃ Hk2, Same Hk1 Hk2 ∧ Hold K Hk2 ((D, diO (rowK T i)) :: O1) H, ⟨T.length, by simp, Nat.zero_le _, Hk1, Same.refl _, h1.ownG (x := diO []) hf ⟨upd_same, .nil⟩⟩, ?_⟩
    rintro i m H2 ⟨rfl, hi, Hk2, e2, hh⟩
    have sq : SqT K H2 a xs := .inl (.inl (hh.kn _ _ (e2 _ _ g1)))
    by_cases hlt : i < T.length
    · have hx : xs[i]? = some xs[i] := List.getElem?_eq_getElem (by omega)
      refine .inr ⟨⟨xs, xs[i], sq, hx⟩, fun H3 => ∃ Hk3, Same Hk1 Hk3 ∧ Hold K Hk3 ((D, diO (rowK T (i + 1))) :: O1) H3, fun H3 hN => ⟨T.length - (i + 1), by omega, rfl, hlt, hN⟩, fun x H3 y => ?_⟩
      obtain ⟨t, x', rfl, nt, rfl, fx⟩ := y
      have ex : x' = xs[i] := by
        have := fx xs sq
        rw [hx] at this
        exact (Option.some.inj this).symm
      obtain ⟨d, hd1, hd2⟩ := g2.getV hx
      have ed : d = .tuple (T[i].map .int) := by
        rw [List.getElem?_map, List.getElem?_eq_getElem hlt] at hd1
        exact (Option.some.inj hd1).symm
      subst ed
      have smT : Same Hk2 (upd Hk2 t (.tup [.int (i : Nat), x'])) := same_new (hh.kn.free nt)
      have hh2 : Hold K (upd Hk2 t (.tup [.int (i : Nat), x'])) ((D, diO (rowK T i)) :: O1) (upd H2 t (.tup [.int (i : Nat), x'])) := hh.know nt
      generalize hHt : upd H2 t (.tup [.int (i : Nat), x']) = Ht at hh2 ⊢
      have htt : Ht t = some (.tup [.int (i : Nat), x']) := by rw [← hHt]; exact upd_same
      refine ⟨t, [.int (i : Nat), x'], rfl, .inl (.inl htt), rfl, .int (i : Nat), [x'], rfl, x', [], rfl, rfl, ?_⟩
      have e4 := e2.trans smT
      generalize hHk4 : upd Hk2 t (.tup [.int (i : Nat), x']) = Hk4 at hh2 e4
      have hdx : Da Hk4 x' (.tuple (T[i].map .int)) := by
        have := Da.mono e4 hd2
        rw [← ex] at this
        exact this
      generalize hs2 : ((wipe σ [j1, j2, j3]).set j1 (some (V.int (i : Nat)))).set j2 (some x') = σ2
      have hl2 : σ2.length = σ.length := by rw [← hs2, List.length_set, List.length_set, wipe_length]
      have w1 : σ2[j1]? = some (some (V.int (i : Nat))) := by
        rw [← hs2, List.getElem?_set_ne (Ne.symm h12), List.getElem?_set_self (by rw [wipe_length]; omega)]
      have w2 : σ2[j2]? = some (some x') := by
        rw [← hs2, List.getElem?_set_self (by rw [List.length_set, wipe_length]; omega)]
      refine ⟨wipe_same hl2 fun z hz => ?_, ?_⟩
      · have z1 : j1 ≠ z := fun e => hz (by rw [← e]; exact List.mem_cons_self)
        have z2 : j2 ≠ z := fun e => hz (by rw [← e]; exact List.mem_cons_of_mem _ List.mem_cons_self)
        rw [← hs2, List.getElem?_set_ne z2, List.getElem?_set_ne z1, wipe_out hz]
      have hrl : (T[i]).length ≤ 1000 := hr _ (List.getElem_mem hlt)
      have hKl : (rowK T i).length ≤ i * 1000 := rowK_len T 1000 hr i
      have hgi : T.getD i [] = T[i] := by rw [List.getD_eq_getElem?_getD, List.getElem?_eq_getElem hlt]; rfl
      cases hdx with
      | @tup b ys _ b1 b2 =>
      obtain rfl : ys = (T[i]).map V.int := b2.ints
      have sq4 : ∀ {Hk5 H5 : Hp}, Same Hk4 Hk5 → Same Hk5 H5 → SqT K H5 b ((T[i]).map V.int) := fun a1 a2 => .inl (.inl (a2 _ _ (a1 _ _ b1)))
      refine ⟨.ref b, w2, b, rfl, ⟨_, sq4 (Same.refl _) hh2.kn⟩, fun j k H => k = (T[i]).length - j ∧ j ≤ (T[i]).length ∧ ∃ Hk5, Same Hk4 Hk5 ∧ Hold K Hk5 ((D, diO (addK (rowK T i) i ((T[i]).take j))) :: O1) H, ⟨(T[i]).length, by simp, Nat.zero_le _, Hk4, Same.refl _, hh2⟩, ?_⟩
      rintro j m5 H5 ⟨rfl, hj, Hk5, e5, hh5⟩
      have sq5 := sq4 e5 hh5.kn
      by_cases hjl : j < (T[i]).length
      · have hy : ((T[i]).map V.int)[j]? = some (V.int (T[i])[j]) := by rw [List.getElem?_map, List.getElem?_eq_getElem hjl]; rfl
        refine .inr ⟨⟨_, _, sq5, hy⟩, fun H6 => ∃ Hk6, Same Hk4 Hk6 ∧ Hold K Hk6 ((D, diO (addK (rowK T i) i ((T[i]).take (j + 1)))) :: O1) H6, fun H6 hN => ⟨(T[i]).length - (j + 1), by omega, rfl, hjl, hN⟩, ?_⟩
        rintro x5 H6 ⟨rfl, fx5⟩
        obtain rfl : x5 = V.int (T[i])[j] := by
          have := fx5 _ sq5
          rw [hy] at this
          exact (Option.some.inj this).symm
        have n3 : (wipe σ2 [j3])[j1]? = σ2[j1]? := wipe_out fun z => h13 (List.mem_singleton.mp z)
        refine ⟨wipe_same (by rw [List.length_set, wipe_length]) fun z hz => ?_, .int (T[i])[j], List.getElem?_set_self (by rw [wipe_length]; omega), .int (i : Nat), ?_, (i : Nat), 1, rfl, rfl, _, .inl (T[i])[j], rfl, (hh5.ow _ List.mem_cons_self).1.1, ?_, Hk5, e5, ?_⟩
        · rw [List.getElem?_set_ne (fun e => hz (by rw [e]; exact List.mem_cons_self)), wipe_out hz]
        · rw [List.getElem?_set_ne (Ne.symm h13), n3]
          exact w1
        · have h7 := addK_len i ((T[i]).take j) (rowK T i)
          rw [List.length_take] at h7
          exact Nat.lt_of_le_of_lt (show _ ≤ 1001000 by omega) (by decide)
        · rw [List.take_succ, List.getElem?_eq_getElem hjl]
          show Hold K Hk5 ((D, diO (addK (rowK T i) i ((T[i]).take j ++ [(T[i])[j]]))) :: O1) _
          rw [addK_snoc]
          exact hh5.writeG (y := diO _) ⟨upd_same, .nil⟩
      · have ej : j = (T[i]).length := by omega
        subst ej
        refine .inl ⟨⟨_, sq5, by rw [List.length_map]; exact Nat.le_refl _⟩, Hk5, e4.trans e5, ?_⟩
        rw [List.take_length] at hh5
        show Hold K Hk5 ((D, diO (addK (rowK T i) i (T.getD i []))) :: O1) _
        rw [hgi]
        exact hh5
    · have ei : i = T.length := by omega
      subst ei
      exact .inl ⟨⟨xs, sq, by omega⟩, k _ (.ad D) _ Hk2 H2 (e1.trans e2) hh rfl (q D)⟩
/-- d[e], d owned, its keys ints -/
theorem w_dgetI {td ty : TE} (h : EvW K td O ds fun r O1 => EvW K ty O1 ds fun r2 O2 => ∃ a kvs n v, r = .ad a ∧ (a, diO kvs) ∈ O2 ∧ r2 = iV n ∧ valV kvs (.inl n) = some (V.int v) ∧ Q (iV v) O2) : EvW K (tDGet td ty) O ds Q := fun Hk σ H p Q' k =>
  h Hk σ H p _ fun v r O1 Hk1 H1 e1 h1 s1 q1 => q1 Hk1 σ H1 (p.ext e1 h1) _ fun v2 r2 O2 Hk2 H2 e2 h2 s2 q2 => by
    obtain ⟨a, kvs, n, x, rfl, hm, rfl, hv, q⟩ := q2
    cases (show v = .ref a from s1)
    cases (show Da Hk2 v2 (.int n) from s2)
    have g := DGet.k (k := (.inl n : Key)) (h2.ow _ hm).1.1
    rw [hv] at g
    exact ⟨a, V.int x, rfl, g, k _ (iV x) O2 Hk2 H2 (e1.trans e2) h2 (.int x) q⟩
/-- sorted(d), d owned, its keys ints -/
def rSortedD : List V → Hp → VK → Prop := fun xs H Q => ∃ (a : Addr) (kvs : List (Key × V)) (ks : List Int), xs = [.ref a] ∧ Rd H a (.dK kvs) ∧ kvs.map (·.1) = ks.map Sum.inl ∧ ks.length < 64 ∧ ∀ (ys : List Int) (p : Addr), ys.Perm ks → ys.Pairwise (· ≤ ·) → H p = none → Q (.ref p) (upd H p (.lst (ys.map V.int)))
theorem kSortedD {X : Cx} (hc : X.calm = true) : CallR X (.builtin "sorted") rSortedD := call_sortedDI hc
theorem g_sortedD {a : Addr} {kvs : List (Key × V)} {ks : List Int} (hm : (a, diO kvs) ∈ O) (hk : kvs.map (·.1) = ks.map Sum.inl) (hl : ks.length < 64) (q : ∀ ms : List Int, ms.Perm ks → ms.Pairwise (· ≤ ·) → Q (.dat (.list (ms.map .int))) O) : CbW K rSortedD [.ad a] O Q := fun Hk H h us hus Q' k => by
  obtain ⟨u, rfl, hu⟩ := all1 hus
  cases (show u = .ref a from hu)
  exact ⟨a, kvs, ks, rfl, .inl (h.ow _ hm).1.1, hk, hl, fun ms p hp hs hf => k.newD h hf (DaAll.of_ints ms) (q ms hp hs)⟩
end
/-! ### what the dict of rows holds -/
open Classical in
theorem putK_keys (kvs : List (Key × V)) (k : Key) (v : V) : (putK kvs k v).map (·.1) = if k ∈ kvs.map (·.1) then kvs.map (·.1) else kvs.map (·.1) ++ [k] := by
  unfold putK
  by_cases h : k ∈ kvs.map (·.1)
  · have e : (kvs.any fun kv => decide (kv.1 = k)) = true := by
      obtain ⟨p, hp, e⟩ := List.mem_map.mp h
      exact List.any_eq_true.mpr ⟨p, hp, decide_eq_true e⟩
    rw [if_pos e, if_pos h, List.map_map]
    refine List.map_congr_left fun p _ => ?_
    show (if p.1 = k then (p.1, v) else p).1 = p.1
    split <;> rfl
  · have e : ¬ (kvs.any fun kv => decide (kv.1 = k)) = true := fun z => by
      obtain ⟨p, hp, e⟩ := List.any_eq_true.mp z
      exact h (List.mem_map.mpr ⟨p, hp, of_decide_eq_true e⟩)
    rw [if_neg e, if_neg h, List.map_append]
    rfl
theorem addK_val (i : Nat) (v : Int) : ∀ (r : List Int) (kvs : List (Key × V)), valV (addK kvs i r) (.inl v) = if v ∈ r then some (V.int ((i : Int) + 1)) else valV kvs (.inl v)
  | [], kvs => by rw [if_neg List.not_mem_nil]; rfl
  | x :: r, kvs => by
    show valV (addK (putK kvs (.inl x) (V.int ((i : Int) + 1))) i r) (.inl v) = _
    rw [addK_val i v r, valV_put]
    by_cases h1 : v ∈ r
    · rw [if_pos h1, if_pos (List.mem_cons_of_mem _ h1)]
    · by_cases h2 : v = x
      · subst h2
        rw [if_neg h1, if_pos rfl, if_pos List.mem_cons_self]
      · rw [if_neg h1, if_neg fun e => h2 (Sum.inl.inj e), if_neg fun z => (List.mem_cons.mp z).elim h2 h1]
theorem rowK_val (T : List (List Int)) (v : Int) (i : Nat) (hv : v ∈ T.getD i []) (hu : ∀ j, v ∈ T.getD j [] → j = i) : ∀ n, i < n → valV (rowK T n) (.inl v) = some (V.int ((i : Int) + 1))
  | 0, h => absurd h (Nat.not_lt_zero _)
  | n + 1, h => by
    show valV (addK (rowK T n) n (T.getD n [])) (.inl v) = _
    rw [addK_val]
    by_cases e : n = i
    · subst e
      rw [if_pos hv]
    · rw [if_neg fun z => e (hu n z)]
      exact rowK_val T v i hv hu n (by omega)
theorem addK_keys (i : Nat) : ∀ (r : List Int) (kvs : List (Key × V)) (ks : List Int), kvs.map (·.1) = ks.map Sum.inl → ks.Nodup → ∃ ks2 : List Int, (addK kvs i r).map (·.1) = ks2.map Sum.inl ∧ ks2.Nodup ∧ ∀ v, v ∈ ks2 ↔ v ∈ ks ∨ v ∈ r
  | [], kvs, ks, h, hn => ⟨ks, h, hn, fun v => ⟨.inl, fun z => z.elim id fun z => absurd z List.not_mem_nil⟩⟩
  | x :: r, kvs, ks, h, hn => by
    have hk := putK_keys kvs (.inl x) (V.int ((i : Int) + 1))
    rw [h] at hk
    have hin : (Sum.inl x : Key) ∈ (ks.map Sum.inl : List Key) ↔ x ∈ ks := ⟨fun z => by
      obtain ⟨y, hy, e⟩ := List.mem_map.mp z
      rw [← Sum.inl.inj e]
      exact hy, fun z => List.mem_map.mpr ⟨x, z, rfl⟩⟩
    by_cases hx : x ∈ ks
    · rw [if_pos (hin.mpr hx)] at hk
      obtain ⟨ks2, g1, g2, g3⟩ := addK_keys i r _ ks hk hn
      refine ⟨ks2, g1, g2, fun v => ⟨fun z => ?_, fun z => ?_⟩⟩
      · exact ((g3 v).mp z).elim .inl fun z => .inr (List.mem_cons_of_mem _ z)
      · refine (g3 v).mpr (z.elim .inl fun z => ?_)
        rcases List.mem_cons.mp z with rfl | z
        · exact .inl hx
        · exact .inr z
    · rw [if_neg fun z => hx (hin.mp z)] at hk
      have hk2 : (putK kvs (.inl x) (V.int ((i : Int) + 1))).map (·.1) = ((ks ++ [x]).map Sum.inl : List Key) := by
        rw [hk, List.map_append]
        rfl
      obtain ⟨ks2, g1, g2, g3⟩ := addK_keys i r _ (ks ++ [x]) hk2 (List.nodup_append.mpr ⟨hn, List.nodup_cons.mpr ⟨List.not_mem_nil, List.nodup_nil⟩, fun a ha b hb e => hx (by rw [List.mem_singleton.mp hb] at e; rw [← e]; exact ha)⟩)
      refine ⟨ks2, g1, g2, fun v => ⟨fun z => ?_, fun z => ?_⟩⟩
      · rcases (g3 v).mp z with z | z
        · rcases List.mem_append.mp z with z | z
          · exact .inl z
          · rw [List.mem_singleton.mp z]
            exact .inr List.mem_cons_self
        · exact .inr (List.mem_cons_of_mem _ z)
      · rcases z with z | z
        · exact (g3 v).mpr (.inl (List.mem_append_left _ z))
        · rcases List.mem_cons.mp z with rfl | z
          · exact (g3 _).mpr (.inl (List.mem_append_right _ List.mem_cons_self))
          · exact (g3 v).mpr (.inr z)
theorem rowK_keys (T : List (List Int)) : ∀ n, n ≤ T.length → ∃ ks : List Int, (rowK T n).map (·.1) = ks.map Sum.inl ∧ ks.Nodup ∧ ∀ v, v ∈ ks ↔ ∃ i, i < n ∧ v ∈ T.getD i []
  | 0, _ => ⟨[], rfl, List.nodup_nil, fun v => ⟨fun z => absurd z List.not_mem_nil, fun ⟨i, h, _⟩ => absurd h (Nat.not_lt_zero _)⟩⟩
  | n + 1, h => by
    obtain ⟨ks, g1, g2, g3⟩ := rowK_keys T n (by omega)
    obtain ⟨ks2, k1, k2, k3⟩ := addK_keys n (T.getD n []) _ ks g1 g2
    refine ⟨ks2, k1, k2, fun v => ⟨fun z => ?_, fun ⟨i, hi, hv⟩ => ?_⟩⟩
    · rcases (k3 v).mp z with z | z
      · obtain ⟨i, hi, hv⟩ := (g3 v).mp z
        exact ⟨i, by omega, hv⟩
      · exact ⟨n, by omega, z⟩
    · by_cases e : i = n
      · subst e
        exact (k3 v).mpr (.inr hv)
      · exact (k3 v).mpr (.inl ((g3 v).mpr ⟨i, by omega, hv⟩))
end Wk
namespace Wk
open PySem PySem.Spec PyProof.Rows L2
/-- an owned instance of the class at C (its own dict at dx): ns the attributes' names, vs what they hold, rs what is known of it -/
abbrev insO (C dx : Addr) (ns : List Str) (vs : List V) (rs : List SD) : OD := .obj (.ins C dx (ns.zip vs)) vs rs
section
variable {K : PySem.W.Frag} {Hk Hk' H H' : Hp} {O O' Oa : Own} {ds : List SD} {σ : L2.St} {Q : SD → Own → Prop} {A : AE} {C dx a : Addr} {te ta tv to : TE} {t : TA}
theorem look_all {f : Str} {d : SD} : ∀ {ns : List Str} {vs : List V} {rs : List SD}, SDall K Hk vs rs → (ns.zip rs).lookup f = some d → ∃ v, (ns.zip vs).lookup f = some v ∧ SDok K Hk v d
  | [], _, _, _, h => by cases h
  | _ :: _, _, _, .nil, h => by cases h
  | n :: ns, _, _, .cons (v := v) a r, h => by
    rw [List.zip_cons_cons, List.lookup_cons] at h
    rw [List.zip_cons_cons, List.lookup_cons]
    cases e : (f == n) with
    | true =>
      rw [e] at h
      cases h
      exact ⟨v, rfl, a⟩
    | false =>
      rw [e] at h
      exact look_all r h
/-- o.f -/
theorem w_fld {f : Str} (c : Cls K C) (n : NoAttr K C f) (h : EvW K ta O ds fun r O1 => ∃ a dx ns vs rs d, r = .ad a ∧ (a, insO C dx ns vs rs) ∈ O1 ∧ (ns.zip rs).lookup f = some d ∧ Q d O1) : EvW K (tFld K ta f) O ds Q := fun Hk σ H p Q' k =>
  h Hk σ H p _ fun v r O1 Hk1 H1 e1 h1 s1 q1 => by
    obtain ⟨a, dx, ns, vs, rs, d, rfl, hm, hl, q⟩ := q1
    cases (show v = .ref a from s1)
    obtain ⟨⟨g1, g2⟩, _⟩ := h1.ow _ hm
    obtain ⟨u, h2, h3⟩ := look_all g2 hl
    exact ⟨a, C, dx, _, u, rfl, g1, c, n, h2, k u d O1 Hk1 H1 e1 h1 h3 q⟩
theorem putF_old {f : Str} {v : V} : ∀ {ns : List Str} {vs : List V} {i : Nat}, ns.Nodup → ns[i]? = some f → vs.length = ns.length → putF f v (ns.zip vs) = ns.zip (vs.set i v)
  | [], _, _, _, h, _ => by cases h
  | _ :: _, [], _, _, _, h => by cases h
  | n :: ns, u :: vs, 0, _, h, _ => by
    have e : n = f := by simpa using h
    subst e
    show putF n v ((n, u) :: ns.zip vs) = _
    unfold putF
    rw [if_pos rfl]
    rfl
  | n :: ns, u :: vs, i + 1, hn, h, hl => by
    obtain ⟨h1, h2⟩ := List.nodup_cons.mp hn
    have h3 : ns[i]? = some f := by simpa using h
    have ne : ¬ n = f := fun e => h1 (by rw [e]; exact List.mem_of_getElem? h3)
    show putF f v ((n, u) :: ns.zip vs) = (n, u) :: ns.zip (vs.set i v)
    unfold putF
    rw [if_neg ne, putF_old h2 h3 (Nat.succ.inj hl)]
theorem putF_new {f : Str} {v : V} : ∀ {ns : List Str} {vs : List V}, f ∉ ns → vs.length = ns.length → putF f v (ns.zip vs) = (ns ++ [f]).zip (vs ++ [v])
  | [], [], _, _ => rfl
  | [], _ :: _, _, h => by cases h
  | _ :: _, [], _, h => by cases h
  | n :: ns, u :: vs, hn, hl => by
    have ne : ¬ n = f := fun e => hn (by rw [e]; exact List.mem_cons_self)
    show putF f v ((n, u) :: ns.zip vs) = (n, u) :: (ns ++ [f]).zip (vs ++ [v])
    unfold putF
    rw [if_neg ne, putF_new (fun z => hn (List.mem_cons_of_mem _ z)) (Nat.succ.inj hl)]
/-- o.f = e, f there already -/
theorem s_fldS {f : Str} (c : Cls K C) (n : NoAttr K C f) (h : EvW K tv O ds fun r O1 => EvW K ta O1 ds fun ro O2 => ∃ a dx ns vs rs i Oa, ro = .ad a ∧ O2.Perm ((a, insO C dx ns vs rs) :: Oa) ∧ ns.Nodup ∧ ns.length ≤ 100 ∧ rs.length = ns.length ∧ ns[i]? = some f ∧
    ∀ vs2, A.nx ((a, insO C dx ns vs2 (rs.set i r)) :: Oa) ds) : StW K (sFld K ta tv f) O ds A := fun Hk σ H D p l =>
  h Hk σ H p _ fun v r O1 Hk1 H1 e1 h1 s1 q1 => q1 Hk1 σ H1 (p.ext e1 h1) _ fun vo ro O2 Hk2 H2 e2 h2 s2 q2 => by
    obtain ⟨a, dx, ns, vs, rs, i, Oa, rfl, hp, hn, hl, hrl, hi, q⟩ := q2
    cases (show vo = .ref a from s2)
    have h' := h2.perm hp
    obtain ⟨⟨g1, g2⟩, _⟩ := h'.ow _ List.mem_cons_self
    have hvl : vs.length = ns.length := by rw [g2.length, hrl]
    refine ⟨a, C, dx, _, rfl, g1, c, n, by rw [List.length_zip]; omega, ?_⟩
    rw [putF_old hn hi hvl]
    have hset : SDall K Hk2 (vs.set i v) (rs.set i r) := SDall.set (s1.mono e2) i g2
    exact l.nx _ ds Hk2 σ _ (e1.trans e2) (p.ext (e1.trans e2) (h'.writeG (y := insO C dx ns (vs.set i v) (rs.set i r)) ⟨upd_same, hset⟩)) (q _)
/-- o.f = e, f new -/
theorem s_fldN {f : Str} (c : Cls K C) (n : NoAttr K C f) (h : EvW K tv O ds fun r O1 => EvW K ta O1 ds fun ro O2 => ∃ a dx ns vs rs Oa, ro = .ad a ∧ O2.Perm ((a, insO C dx ns vs rs) :: Oa) ∧ f ∉ ns ∧ ns.length ≤ 100 ∧ rs.length = ns.length ∧
    ∀ vs2, A.nx ((a, insO C dx (ns ++ [f]) vs2 (rs ++ [r])) :: Oa) ds) : StW K (sFld K ta tv f) O ds A := fun Hk σ H D p l =>
  h Hk σ H p _ fun v r O1 Hk1 H1 e1 h1 s1 q1 => q1 Hk1 σ H1 (p.ext e1 h1) _ fun vo ro O2 Hk2 H2 e2 h2 s2 q2 => by
    obtain ⟨a, dx, ns, vs, rs, Oa, rfl, hp, hn, hl, hrl, q⟩ := q2
    cases (show vo = .ref a from s2)
    have h' := h2.perm hp
    obtain ⟨⟨g1, g2⟩, _⟩ := h'.ow _ List.mem_cons_self
    have hvl : vs.length = ns.length := by rw [g2.length, hrl]
    refine ⟨a, C, dx, _, rfl, g1, c, n, by rw [List.length_zip]; omega, ?_⟩
    rw [putF_new hn hvl]
    exact l.nx _ ds Hk2 σ _ (e1.trans e2) (p.ext (e1.trans e2) (h'.writeG (y := insO C dx (ns ++ [f]) (vs ++ [v]) (rs ++ [r])) ⟨upd_same, g2.append (.cons (s1.mono e2) .nil)⟩)) (q _)
/-- o.m(..) -/
theorem w_meth {m : Str} {pre : List SD → Own → (SD → Own → Prop) → Prop} {E : XK} (h : EvW K ta O ds fun r O1 => ∃ a dx ns vs rs, r = .ad a ∧ (a, insO C dx ns vs rs) ∈ O1 ∧ m ∉ ns ∧ AvW K t O1 ds fun ws O2 => pre (.ad a :: ws) O2 Q) : EvW K (tMeth C m (spW K pre) [] E ta t) O ds Q := fun Hk σ H p Q' k =>
  h Hk σ H p _ fun v r O1 Hk1 H1 e1 h1 s1 q1 => by
    obtain ⟨a, dx, ns, vs, rs, rfl, hm, hn, q⟩ := q1
    cases (show v = .ref a from s1)
    obtain ⟨⟨g1, g2⟩, _⟩ := h1.ow _ hm
    have hno : ∀ {ns : List Str} {vs : List V}, m ∉ ns → (ns.zip vs).lookup m = none := fun {ns} => by
      induction ns with
      | nil => exact fun _ => rfl
      | cons n ns ih =>
        intro vs hn
        cases vs with
        | nil => rfl
        | cons u vs =>
          rw [List.zip_cons_cons, List.lookup_cons]
          have e : (m == n) = false := beq_eq_false_iff_ne.mpr fun z => hn (by rw [z]; exact List.mem_cons_self)
          rw [e]
          exact ih fun z => hn (List.mem_cons_of_mem _ z)
    refine ⟨a, dx, _, rfl, g1, hno hn, q Hk1 σ H1 (p.ext e1 h1) _ fun ws ss O2 Hk2 H2 e2 h2 s2 q2 => ?_⟩
    show spW K pre (.ref a :: (ws ++ [])) H2 Q' E
    rw [List.append_nil]
    exact ⟨Hk2, O2, .ad a :: ss, Q, h2, .cons rfl s2, q2, k.ext (e1.trans e2)⟩
/-- C(..): a new instance without attributes, then its __init__ -/
theorem w_make {pre : List SD → Own → (SD → Own → Prop) → Prop} {E : XK} (h : AvW K t O ds fun rs O1 => ∀ x dx, pre (.ad x :: rs) ((x, insO C dx [] [] []) :: O1) fun r O2 => r = .dat .none ∧ Q (.ad x) O2) : EvW K (tMake C (spW K pre) [] E t) O ds Q := fun Hk σ H p Q' k =>
  h Hk σ H p _ fun vs rs O1 Hk1 H1 e1 h1 s1 q1 => by
    intro x dx nx nd ne
    have smT : Same Hk1 (upd Hk1 dx (.own x)) := same_new (h1.kn.free nd)
    have h2 : Hold K (upd Hk1 dx (.own x)) O1 (upd H1 dx (.own x)) := h1.know nd
    have nx2 : (upd H1 dx (.own x)) x = none := by rw [upd_ne (Ne.symm ne)]; exact nx
    have h3 := h2.ownG (x := insO C dx [] [] []) (o := .ins C dx []) nx2 ⟨upd_same, .nil⟩
    show spW K pre (.ref x :: (vs ++ [])) _ _ E
    rw [List.append_nil]
    refine ⟨_, _, .ad x :: rs, _, h3, .cons rfl (s1.mono smT), q1 x dx, ?_⟩
    intro v r O2 Hk4 H4 e4 h4 s4 q4
    obtain ⟨rfl, q5⟩ := q4
    cases (show Da Hk4 v .none from s4)
    exact ⟨rfl, k _ (.ad x) O2 Hk4 H4 (e1.trans (smT.trans e4)) h4 rfl q5⟩
/-- xs.pop(), xs owned -/
theorem w_pop (h : EvW K to O ds fun r O1 => ∃ a rs d Oa, r = .ad a ∧ O1.Perm ((a, OD.lst (rs ++ [d])) :: Oa) ∧ Q d ((a, .lst rs) :: Oa)) : EvW K (tBM0 K "list" rPop to) O ds Q := fun Hk σ H p Q' k =>
  h Hk σ H p _ fun v r O1 Hk1 H1 e1 h1 s1 q1 => by
    obtain ⟨a, rs, d, Oa, rfl, hp, q⟩ := q1
    cases (show v = .ref a from s1)
    have h' := h1.perm hp
    obtain ⟨⟨vs, g1, g2⟩, _⟩ := h'.ow _ List.mem_cons_self
    obtain ⟨v1, v2, rfl, a1, a2⟩ := g2.split
    cases a2 with
    | cons b1 b2 =>
      cases b2
      rename_i u
      refine ⟨.inl ⟨rfl, _, .inl (.inl g1)⟩, a, _, u, rfl, rfl, g1, by simp, ?_⟩
      rw [List.dropLast_concat]
      exact k u d _ Hk1 _ e1 (h'.writeG (y := OD.lst rs) ⟨v1, upd_same, a1⟩) b1 q
end
/-! ### methods that may raise -/
def tMethS (C : Addr) (m : Str) (sp : Sp) (E : L2.St → XK) (ta : TE) (t : TA) : TE := fun σ H Q => ta σ H fun x H1 => ∃ a dx fs, x = .ref a ∧ H1 a = some (.ins C dx fs) ∧ fs.lookup m = none ∧
  t σ H1 fun vs H2 => sp (x :: vs) H2 Q (E σ)
theorem zip_no {m : Str} : ∀ {ns : List Str} {vs : List V}, m ∉ ns → (ns.zip vs).lookup m = none
  | [], _, _ => rfl
  | _ :: _, [], _ => rfl
  | n :: ns, u :: vs, hn => by
    rw [List.zip_cons_cons, List.lookup_cons]
    have e : (m == n) = false := beq_eq_false_iff_ne.mpr fun z => hn (by rw [z]; exact List.mem_cons_self)
    rw [e]
    exact zip_no fun z => hn (List.mem_cons_of_mem _ z)
section
variable {K : PySem.W.Frag} {O : Own} {ds : List SD} {Q : SD → Own → Prop} {C : Addr} {ta : TE} {t : TA} {W : WX} {Qs : Addr → Option (Str × PyData) → Own → List SD → Prop} {m : Str}
  {preX : List SD → Own → (SD → Own → Prop) → (Addr → Option (Str × PyData) → Own → Prop) → Prop}
theorem x_meth (h : EvW K ta O ds fun r O1 => ∃ a dx ns vs rs, r = .ad a ∧ (a, insO C dx ns vs rs) ∈ O1 ∧ m ∉ ns ∧ AvW K t O1 ds fun ws O2 => preX (.ad a :: ws) O2 Q fun C fs O2 => Qs C fs O2 ds) : EvX K W Qs (tMethS C m (spX K preX) (WE W) ta t) O ds Q := fun Hk σ H p kw Q' k =>
  h Hk σ H p _ fun v r O1 Hk1 H1 e1 h1 s1 q1 => by
    obtain ⟨a, dx, ns, vs, rs, rfl, hm, hn, q⟩ := q1
    cases (show v = .ref a from s1)
    obtain ⟨⟨g1, g2⟩, _⟩ := h1.ow _ hm
    exact ⟨a, dx, _, rfl, g1, zip_no hn, q Hk1 σ H1 (p.ext e1 h1) _ fun ws ss O2 Hk2 H2 e2 h2 s2 q2 =>
      ⟨Hk2, O2, .ad a :: ss, Q, _, h2, .cons rfl s2, q2, k.ext (e1.trans e2), fun cls d C fs O3 Hk3 H3 e3 h3 ok q => kw cls d C fs σ O3 ds Hk3 H3 ((e1.trans e2).trans e3) (p.ext ((e1.trans e2).trans e3) h3) ok q⟩⟩
/-- where nothing is raised -/
theorem w_methN (h : EvW K ta O ds fun r O1 => ∃ a dx ns vs rs, r = .ad a ∧ (a, insO C dx ns vs rs) ∈ O1 ∧ m ∉ ns ∧ AvW K t O1 ds fun ws O2 => preX (.ad a :: ws) O2 Q fun _ _ _ => False) : EvW K (tMethS C m (spX K preX) (WE fun _ _ _ _ => False) ta t) O ds Q := fun Hk σ H p Q' k =>
  h Hk σ H p _ fun v r O1 Hk1 H1 e1 h1 s1 q1 => by
    obtain ⟨a, dx, ns, vs, rs, rfl, hm, hn, q⟩ := q1
    cases (show v = .ref a from s1)
    obtain ⟨⟨g1, g2⟩, _⟩ := h1.ow _ hm
    exact ⟨a, dx, _, rfl, g1, zip_no hn, q Hk1 σ H1 (p.ext e1 h1) _ fun ws ss O2 Hk2 H2 e2 h2 s2 q2 =>
      ⟨Hk2, O2, .ad a :: ss, Q, _, h2, .cons rfl s2, q2, k.ext (e1.trans e2), fun cls d C fs O3 Hk3 H3 e3 h3 ok q => q.elim⟩⟩
end
section
variable {X : Cx} {K : PySem.W.Frag} {CX : CXT} {k : Nat} {f C : Addr} {fd : FuncData} {ps : List Str} {sp : Sp} {E : L2.St → XK} {x m : Str} {p pos pos' apos : Pos} {e o value : Expr} {es : List Expr} {te ta tv : TE} {t : TA}
theorem peBm0 {T id : String} {name : Str} {r : V → List V → Hp → VK → Prop} {to : TE} (K : PySem.W.Frag) (pa : PlainAttrs T) (slot : Slot T name id) (hty : typeOf (.builtin id) = pure (.type "method_descriptor")) (hm : MtR X id r) (ho : PE X o to) (hK : X.K = K := by rfl)
    (hbase : attributeBase o name X.env (eval o X.env) = eval o X.env := by rfl) (hline : (apos.endLine == pos.line) = true := by rfl) : PE X (.Call (.Attribute o name apos) [] [] pos) (tBM0 K T r to) := hK ▸ pe_bm0 pa slot hty hm ho hbase hline
theorem peFld {g : Str} (he : PE X e ta) (hK : X.K = K := by rfl) (hb : attributeBase e g X.env (eval e X.env) = eval e X.env := by rfl) : PE X (.Attribute e g pos) (tFld K ta g) := hK ▸ pe_fld he hb
theorem psFld {g : Str} (ha : PE X o ta) (hv : PE X value tv) (hK : X.K = K := by rfl) (hs : swapsWith value (some (.Attribute o g pos')) pos.line X.env = pure false := by rfl) : PS X (.Assign [.Attribute o g pos'] value pos) (sFld K ta tv g) := hK ▸ ps_fld ha hv hs
theorem peMeth {pl : Sem Bool} (c : Cls K C) (hm : Meth K C m f) (F : FnOk X.prog X.w X.K X.mg X.base CX0 k f fd ps sp) (hr : Room k X.A) (hb : Binds X.K fd ps []) (he : PE X o ta) (ha : PA X (e :: es) t) (hK : X.K = K := by rfl)
    (hst : starEach (e :: es) X.env = (false, eval e X.env) :: starEach es X.env := by rfl) (hpl : (backTo pos (starEach es X.env)).any (·.1) = false := by rfl)
    (ht : eval (.Call (.Attribute o m apos) (e :: es) [] pos) X.env = (do
      let ov ← eval o X.env
      standAt apos.atName
      let (f, first) ← holding [ov] (getMethod ov m pl)
      callWith pos f first (backTo pos (starEach (e :: es) X.env)) (backToKw pos (keywordEach [] X.env))) := by rfl) :
    PE X (.Call (.Attribute o m apos) (e :: es) [] pos) (tMeth C m sp [] E0 ta t) := by
  subst hK
  exact pe_meth he c hm F hr hb .nil pass0 ha hst hpl ht
theorem peMeth0 {pl : Sem Bool} (c : Cls K C) (hm : Meth K C m f) (F : FnOk X.prog X.w X.K X.mg X.base CX0 k f fd ps sp) (hr : Room k X.A) (hb : Binds X.K fd ps []) (he : PE X o ta) (hK : X.K = K := by rfl)
    (ht : eval (.Call (.Attribute o m apos) [] [] pos) X.env = (do
      let ov ← eval o X.env
      standAt apos.atName
      let (f, first) ← holding [ov] (getMethod ov m pl)
      callWith pos f first (backTo pos (starEach [] X.env)) (backToKw pos (keywordEach [] X.env))) := by rfl) :
    PE X (.Call (.Attribute o m apos) [] [] pos) (tMeth C m sp [] E0 ta tNil) := by
  subst hK
  exact pe_meth0 he c hm F hr hb .nil pass0 ht
theorem peMethS {pl : Sem Bool} (c : Cls K C) (hm : Meth K C m f) (F : FnOk X.prog X.w X.K X.mg X.base CX k f fd ps sp) (hr : Room k X.A) (hb : Binds X.K fd ps []) (hx : ∀ σ, PassesAt CX X σ (E σ)) (he : PE X o ta) (ha : PA X (e :: es) t) (hK : X.K = K := by rfl)
    (hst : starEach (e :: es) X.env = (false, eval e X.env) :: starEach es X.env := by rfl) (hpl : (backTo pos (starEach es X.env)).any (·.1) = false := by rfl)
    (ht : eval (.Call (.Attribute o m apos) (e :: es) [] pos) X.env = (do
      let ov ← eval o X.env
      standAt apos.atName
      let (f, first) ← holding [ov] (getMethod ov m pl)
      callWith pos f first (backTo pos (starEach (e :: es) X.env)) (backToKw pos (keywordEach [] X.env))) := by rfl) :
    PE X (.Call (.Attribute o m apos) (e :: es) [] pos) (tMethS C m sp E ta t) := by
  subst hK
  refine ⟨fun pins s σ H Q I h => ?_⟩
  refine PySem.W.methodCall_KW (pl := pl) (thn (he.run pins s σ H _ I h) fun u s1 ⟨x, H1, I1, rx, a, dx, fs, ex, ea, l, q⟩ => ?_) ht
  subst ex
  obtain rfl : u = Value.ref a := rx
  refine getmeth_ok I1 ea c hm l ?_
  refine PySem.W.callWith_K (first := [.ref a]) (h₀ := X.base) I.ok.mod.kin hm.kp (thn (ha.run pos pins s1 σ H1 _ I1 q) fun us s2 ⟨vs, H2, I2, r, q2⟩ => ⟨I2.kIn, ?_⟩) hst hpl
  exact run_fnS (us := .ref a :: us) (vs := .ref a :: vs) F hr hb (hx σ) I2 (.cons rfl r) q2
end
/-! ### within an expression: what a call may raise goes on -/
section
variable {K : PySem.W.Frag} {O : Own} {ds : List SD} {Q : SD → Own → Prop} {te : TE} {tl th : TO} {W : WX} {Qs : Addr → Option (Str × PyData) → Own → List SD → Prop}
theorem x_cb1 {r : List V → Hp → VK → Prop} (h : EvX K W Qs te O ds fun x O1 => CbW K r [x] O1 Q) : EvX K W Qs (tCB r (tCons te tNil)) O ds Q := fun Hk σ H p kw Q' k =>
  h Hk σ H p kw _ fun v x O1 Hk1 H1 e1 h1 s1 q1 => q1 Hk1 H1 h1 [v] (.cons s1 .nil) Q' (k.ext e1)
theorem x_sl {r : V → Option Int → Option Int → Hp → VK → Prop} (h : EvX K W Qs te O ds fun x O1 => IvW K tl O1 ds fun lo O2 => IvW K th O2 ds fun hi O3 => SlW K r x lo hi O3 Q) : EvX K W Qs (tSl r te tl th) O ds Q := fun Hk σ H p kw Q' k =>
  h Hk σ H p kw _ fun v x O1 Hk1 H1 e1 h1 s1 q1 => q1 Hk1 σ H1 (p.ext e1 h1) _ fun lo O2 Hk2 H2 e2 h2 q2 => q2 Hk2 σ H2 ((p.ext e1 h1).ext e2 h2) _ fun hi O3 Hk3 H3 e3 h3 q3 =>
    q3 Hk3 H3 h3 v (s1.mono (e2.trans e3)) Q' (k.ext (e1.trans (e2.trans e3)))
/-- tuple(range(a, b)) -/
theorem w_tupRg2 {ta tb : TE} (h : EvW K ta O ds fun r1 O1 => EvW K tb O1 ds fun r2 O2 => ∃ a b : Int, r1 = iV a ∧ r2 = iV b ∧ RgOk a b ∧ Q (.dat (tI (rgI a b))) O2) : EvW K (tTupRg (tRg2 ta tb)) O ds Q := fun Hk σ H p Q' k =>
  h Hk σ H p _ fun v r1 O1 Hk1 H1 e1 h1 s1 q1 => q1 Hk1 σ H1 (p.ext e1 h1) _ fun u r2 O2 Hk2 H2 e2 h2 s2 q2 => by
    obtain ⟨a, b, rfl, rfl, hr, q⟩ := q2
    cases (show Da Hk1 v (.int a) from s1)
    cases (show Da Hk2 u (.int b) from s2)
    refine ⟨a, b, rfl, rfl, hr, fun pn hf => ?_⟩
    have sm : Same Hk2 (upd Hk2 pn (.tup (rgV a b))) := same_new (h2.kn.free hf)
    have hd : ∀ H : Hp, DaAll H (rgV a b) ((rgI a b).map PyData.int) := fun H => by
      have := DaAll.of_ints (H := H) (rgI a b)
      unfold rgI at this ⊢
      rw [List.map_map] at this
      exact this
    exact k _ (.dat (tI (rgI a b))) O2 _ _ (e1.trans (e2.trans sm)) (h2.know hf) (.tup upd_same (hd _)) q
end
/-- a method's def -/
def DefM (K : PySem.W.Frag) (C : Addr) (m qual : Str) (st : Stmt) : Prop := ∃ f fd, Fun K m qual st f fd ∧ Meth K C m f
/-- a method as it is called -/
def CalleeM (P : Program) (w : World) (K : PySem.W.Frag) (mg : Str → Option Value) (base : Heap) (C : Addr) (m : Str) (ps : List Str) (k : Nat) (pre : List SD → Own → (SD → Own → Prop) → Prop) : Prop :=
  ∃ f fd, FnOk P w K mg base CX0 k f fd ps (spW K pre) ∧ Meth K C m f ∧ Binds K fd ps []
def CalleeMX (P : Program) (w : World) (K : PySem.W.Frag) (mg : Str → Option Value) (base : Heap) (C : Addr) (m : Str) (ps : List Str) (k : Nat) (pre : List SD → Own → (SD → Own → Prop) → (Addr → Option (Str × PyData) → Own → Prop) → Prop) : Prop :=
  ∃ f fd, FnOk P w K mg base (L2.CX P w) k f fd ps (spX K pre) ∧ Meth K C m f ∧ Binds K fd ps []
/-- __init__, and the class by its name -/
def DefI (K : PySem.W.Frag) (mg : Str → Option Value) (x : Str) (C : Addr) (qual : Str) (st : Stmt) : Prop := ∃ f fd, Fun K "__init__" qual st f fd ∧ Mk K C f ∧ mg x = some (.ref C)
def CalleeI (P : Program) (w : World) (K : PySem.W.Frag) (mg : Str → Option Value) (base : Heap) (x : Str) (C : Addr) (ps : List Str) (k : Nat) (pre : List SD → Own → (SD → Own → Prop) → Prop) : Prop :=
  ∃ f fd, FnOk P w K mg base CX0 k f fd ps (spW K pre) ∧ Mk K C f ∧ mg x = some (.ref C) ∧ Binds K fd ps []
/-! ### [x for a, b in zip(t, u)], tuples -/
section
variable {K : PySem.W.Frag} {O O' : Own} {ds : List SD} {Q : SD → Own → Prop} {Hk : Hp} {σ : L2.St} {H H' : Hp}
theorem lc_body {tt : TT} {te : TE} {O2 : Own} {acc ds' : List SD} {I' : List SD → Own → Prop} {Dl : Addr} {P' : Hp → Prop} {σ' : L2.St} (h : LcTurn K tt te O2 ds' acc I') (hl : acc.length < sizeLine)
    (p1 : Pt K Hk ((Dl, OD.lst acc) :: O2) ds' σ' H) (k : ∀ acc2 O3 Hk2 H2, Same Hk Hk2 → Hold K Hk2 ((Dl, OD.lst acc2) :: O3) H2 → I' acc2 O3 → P' H2) :
    tt σ' H fun b H3 => if b = true then te σ' H3 fun y H4 => ∃ acc, H4 Dl = some (.lst acc) ∧ acc.length < sizeLine ∧ P' (upd H4 Dl (.lst (acc ++ [y]))) else P' H3 := by
  refine h Dl Hk _ H p1 _ fun b O3 Hk3 H3 e3 h3 q3 => ?_
  cases b with
  | true =>
    refine iteT (q3.1 rfl Hk3 _ H3 (p1.ext e3 h3) _ fun y r O4 Hk4 H4 e4 h4 s4 q4 => ?_)
    obtain ⟨O5, hp, q5⟩ := q4
    have h5 := h4.perm hp
    obtain ⟨⟨vs, g1, g2⟩, _⟩ := h5.ow _ List.mem_cons_self
    exact ⟨vs, g1, by rw [g2.length]; exact hl, k _ O5 Hk4 _ (e3.trans e4) (h5.write (g2.append (.cons s4 .nil))) q5⟩
  | false =>
    obtain ⟨O5, hp, q5⟩ := q3.2 rfl
    exact iteF (k _ O5 Hk3 _ e3 (h3.perm hp) q5)
theorem wipe_two {j1 j2 : Nat} (hj : j1 ≠ j2) (v u : Option V) : ((wipe σ [j1, j2]).set j1 v).set j2 u = (σ.set j1 v).set j2 u := by
  show (((σ.set j2 none).set j1 none).set j1 v).set j2 u = (σ.set j1 v).set j2 u
  rw [List.set_set, List.set_comm _ _ hj, List.set_set, List.set_comm _ _ hj.symm]
theorem wipe_two2 {j1 j2 : Nat} (hj : j1 ≠ j2) (v u : Option V) : wipe ((σ.set j1 v).set j2 u) [j1, j2] = wipe σ [j1, j2] := by
  show ((((σ.set j1 v).set j2 u).set j2 none).set j1 none) = (σ.set j2 none).set j1 none
  rw [List.set_set, List.set_comm _ _ hj, List.set_set]
theorem w_lcZT {ta : TA} {j1 j2 : Nat} {tt : TT} {te : TE} (hj : j1 ≠ j2) (h : AvW K ta O ds fun rs O1 => ∃ es fs : List PyData, rs = [.dat (.tuple es), .dat (.tuple fs)] ∧ es.length ≤ 1000000 ∧ ∃ I : Nat → List SD → Own → Prop, I 0 [] O1 ∧
    (∀ (i : Nat) d e acc O2, es[i]? = some d → fs[i]? = some e → acc.length ≤ i → I i acc O2 → LcTurn K tt te O2 ((ds.set j1 (.dat d)).set j2 (.dat e)) acc (I (i + 1))) ∧ ∀ acc O2 Dl, I (min es.length fs.length) acc O2 → Q (.ad Dl) ((Dl, .lst acc) :: O2)) :
    EvW K (tLc (RZ.iZipA K ta) (gTup K 2 (gCons (gName j1) (gCons (gName j2) gNil))) tt te [j1, j2]) O ds Q := fun Hk σ H p Q' k =>
  h Hk σ H p _ fun vs rs O1 Hk1 H1 e1 h1 s1 q1 => by
    obtain ⟨es, fs, rfl, hn, I, h0, hs, hd⟩ := q1
    obtain ⟨v, u, rfl, hv, hu⟩ := all2 s1
    cases (show Da Hk1 v (.tuple es) from hv) with
    | @tup a xs _ g1 g2 =>
      cases (show Da Hk1 u (.tuple fs) from hu) with
      | @tup b ys _ k1 k2 =>
      refine ⟨a, b, xs, ys, rfl, .inr ⟨.inl (.inl (h1.kn _ _ g1)), .inl (.inl (h1.kn _ _ k1)), fun Dl hf => ⟨fun i m H => m = min xs.length ys.length - i ∧ i ≤ min xs.length ys.length ∧ ∃ acc O2 Hk2, Same Hk1 Hk2 ∧ acc.length ≤ i ∧ Hold K Hk2 ((Dl, OD.lst acc) :: O2) H ∧ I i acc O2, ⟨min xs.length ys.length, by simp, Nat.zero_le _, [], O1, Hk1, Same.refl _, Nat.le_refl _, h1.own hf .nil, h0⟩, ?_⟩⟩⟩
      rintro i m H' ⟨rfl, hi, acc, O2, Hk2, e, hl, hh, q⟩
      have sq : SqT K H' a xs := .inl (.inl (hh.kn _ _ (e _ _ g1)))
      have sk : SqT K H' b ys := .inl (.inl (hh.kn _ _ (e _ _ k1)))
      by_cases hlt : i < min xs.length ys.length
      · have hlx : i < xs.length := by omega
        have hly : i < ys.length := by omega
        have hx : xs[i]? = some xs[i] := List.getElem?_eq_getElem hlx
        have hy : ys[i]? = some ys[i] := List.getElem?_eq_getElem hly
        refine .inr ⟨⟨xs, ys, xs[i], ys[i], sq, sk, hx, hy⟩, fun H2 => ∃ acc3 O3 Hk3, Same Hk1 Hk3 ∧ acc3.length ≤ i + 1 ∧ Hold K Hk3 ((Dl, OD.lst acc3) :: O3) H2 ∧ I (i + 1) acc3 O3, fun H2 hN => ⟨min xs.length ys.length - (i + 1), by omega, rfl, hlt, hN⟩, fun x H2 y => ?_⟩
        obtain ⟨T, x', y', rfl, nT, rfl, fx, fy⟩ := y
        have ex : x' = xs[i] := by
          have := fx xs sq
          rw [hx] at this
          exact (Option.some.inj this).symm
        have ey : y' = ys[i] := by
          have := fy ys sk
          rw [hy] at this
          exact (Option.some.inj this).symm
        obtain ⟨d, hd1, hd2⟩ := g2.getV hx
        obtain ⟨d', hd3, hd4⟩ := k2.getV hy
        have smT : Same Hk2 (upd Hk2 T (.tup [x', y'])) := same_new (hh.kn.free nT)
        have hh3 := hh.know (o := .tup [x', y']) nT
        refine ⟨T, [x', y'], rfl, .inl (.inl upd_same), rfl, x', [y'], rfl, y', [], rfl, rfl, ?_⟩
        have hdx : SDok K (upd Hk2 T (.tup [x', y'])) x' (.dat d) := by
          have := Da.mono (e.trans smT) hd2
          rw [← ex] at this
          exact this
        have hdy : SDok K (upd Hk2 T (.tup [x', y'])) y' (.dat d') := by
          have := Da.mono (e.trans smT) hd4
          rw [← ey] at this
          exact this
        have e4 := e.trans smT
        have hlt2 := (List.getElem?_eq_some_iff.mp hd1).1
        have hz : acc.length < sizeLine := Nat.lt_of_lt_of_le (show acc.length < 1000001 by omega) (by decide)
        have ht := hs i d d' acc O2 hd1 hd3 hl q
        rw [wipe_two hj]
        refine ⟨wipe_two2 hj _ _, ?_⟩
        have p1 := (((p.ext e1 h1).ext e4 (hh3.sub (List.sublist_cons_self ..))).ext (Same.refl _) hh3)
        refine lc_body (I' := fun acc2 O3 => acc2.length ≤ i + 1 ∧ I (i + 1) acc2 O3) ?_ hz ((p1.set (j := j1) hdx).set (j := j2) hdy) fun acc2 O3 Hk3 H3 e3 h3 q3 => ⟨acc2, O3, Hk3, e4.trans e3, q3.1, h3, q3.2⟩
        intro Dl2 Hk3 σ3 H3 p3 Q3 k3
        refine ht Dl2 Hk3 σ3 H3 p3 Q3 fun b O3 Hk4 H4 e4 h4 q4 => k3 b O3 Hk4 H4 e4 h4 ⟨fun hb => w_mono (q4.1 hb) fun r O4 ⟨O5, hp, q5⟩ => ⟨O5, hp, by rw [List.length_append]; simp; omega, q5⟩, fun hb => ?_⟩
        obtain ⟨O5, hp, q5⟩ := q4.2 hb
        exact ⟨O5, hp, by omega, q5⟩
      · have ei : i = min xs.length ys.length := by omega
        refine .inl ⟨⟨xs, ys, sq, sk, by omega⟩, ?_⟩
        rw [ei, g2.length, k2.length] at q
        exact k _ (.ad Dl) _ Hk2 _ (e1.trans e) hh rfl (hd acc O2 Dl q)
end
/-! ### l.index(True), a list of truth values -/
section
variable {K : PySem.W.Frag} {O : Own} {Q : SD → Own → Prop}
theorem peIdx {X : Cx} (K : PySem.W.Frag) {e : Expr} {to : TE} {ta : TA} (hs : PE X e (tBM X.K "list" (rIndex X.K) to ta)) (h : X.K = K := by rfl) : PE X e (tBM K "list" (rIndex K) to ta) := h ▸ hs
theorem m_idxB {bs : List Bool} {j : Nat} (hj : bs[j]? = some true) (hno : ∀ m, m < j → bs[m]? = some false) (q : Q (iV j) O) : MbW K (rIndex K) (.dat (.list (bs.map .bool))) [bV true] O Q := fun Hk H h u us hu hus Q' k => by
  obtain ⟨v, rfl, hv⟩ := all1 hus
  cases (show Da Hk v (.bool true) from hv)
  cases (show Da Hk u (.list (bs.map .bool)) from hu) with
  | @lst a xs _ g1 g2 =>
    have e : ∀ {m : Nat} {z : V}, xs[m]? = some z → ∃ b, bs[m]? = some b ∧ z = .bl b := fun {m z} hz => by
      obtain ⟨d, h1, h2⟩ := g2.getV hz
      rw [List.getElem?_map] at h1
      cases hb : bs[m]? with
      | none => rw [hb] at h1; cases h1
      | some b =>
        rw [hb] at h1
        cases h1
        cases h2
        exact ⟨b, rfl, rfl⟩
    have hl : xs.length = bs.length := by rw [g2.length, List.length_map]
    have hjl := (List.getElem?_eq_some_iff.mp hj).1
    have hx : xs[j]? = some xs[j] := List.getElem?_eq_getElem (by omega)
    obtain ⟨b, hb1, hb2⟩ := e hx
    rw [hj] at hb1
    cases hb1
    refine ⟨a, xs, .bl true, j, .bl true, rfl, rfl, .inl (.inl (h.kn _ _ g1)), rfl, List.all_eq_true.mpr fun z hz => ?_, hx.trans (congrArg some hb2), rfl, fun m z hm hz => ?_, k _ (iV j) O Hk H (Same.refl _) h (.int _) q⟩
    · obtain ⟨i, hi⟩ := List.mem_iff_getElem?.mp hz
      obtain ⟨b, _, rfl⟩ := e hi
      rfl
    · obtain ⟨b, hb, rfl⟩ := e hz
      rw [hno m hm] at hb
      cases hb
      rfl
end
theorem ty_lstD {K : PySem.W.Frag} {O : Own} {es : List PyData} : TyW K "list" (.dat (.list es)) O := fun Hk H h u hu => by
  cases (show Da Hk u (.list es) from hu) with
  | @lst a xs _ g1 g2 => exact .inl ⟨rfl, _, .inl (.inl (h.kn _ _ g1))⟩
/-! ### x not in [None, 'a', ..] -/
section
variable {K : PySem.W.Frag} {O : Own} {Q : SD → Own → Prop}
theorem kNotIn {X : Cx} (K : PySem.W.Frag) (h : X.K = K := by rfl) : OpR X (compareOp .NotIn) (rIn K true) := h ▸ op_notIn_seq
def flS : PyData → Bool
  | .none => true
  | .str _ => true
  | _ => false
def flV : PyData → V
  | .str s => .str s
  | _ => .non
theorem flS_v {H : Hp} {v : V} {d : PyData} (h : Da H v d) (hf : flS d = true) : v = flV d ∧ flatV v = true := by
  cases h <;> first | exact ⟨rfl, rfl⟩ | cases hf
theorem flV_eq {d e : PyData} (hd : flS d = true) (he : flS e = true) : eqV (flV d) (flV e) = true ↔ d = e := by
  cases d <;> cases e <;> simp_all [flS, flV, eqV]
theorem o_notInS {d : PyData} {ds : List PyData} (hd : flS d = true) (hs : ∀ e ∈ ds, flS e = true) (q : ∀ b : Bool, (b = true ↔ d ∉ ds) → Q (bV b) O) : OpW K (rIn K true) (.dat d) (.dat (.list ds)) O Q := fun Hk H h u v hu hv Q' k => by
  obtain ⟨rfl, hf⟩ := flS_v (show Da Hk u d from hu) hd
  cases (show Da Hk v (.list ds) from hv) with
  | @lst a xs _ g1 g2 =>
    have hx : xs = ds.map flV := by
      refine List.ext_getElem? fun i => ?_
      rw [List.getElem?_map]
      cases hi : xs[i]? with
      | none =>
        have := List.getElem?_eq_none_iff.mp hi
        rw [List.getElem?_eq_none (by rw [← g2.length]; exact this)]
        rfl
      | some z =>
        obtain ⟨e, h1, h2⟩ := g2.getV hi
        rw [h1, (flS_v h2 (hs e (List.mem_of_getElem? h1))).1]
        rfl
    refine ⟨a, xs, rfl, .inl (.inl (.inl (h.kn _ _ g1))), hf, List.all_eq_true.mpr fun z hz => ?_, k.now h (r := bV _) (.bl _) (q _ ?_)⟩
    · rw [hx] at hz
      obtain ⟨e, he, rfl⟩ := List.mem_map.mp hz
      have := hs e he
      cases e <;> first | rfl | cases this
    · rw [hx]
      show (!(ds.map flV).any fun y => eqV y (flV d)) = true ↔ _
      rw [Bool.not_eq_true']
      constructor
      · intro g hm
        exact List.any_eq_false.mp g (flV d) (List.mem_map.mpr ⟨d, hm, rfl⟩) ((flV_eq hd hd).mpr rfl)
      · intro g
        refine List.any_eq_false.mpr fun z hz => ?_
        obtain ⟨e, he, rfl⟩ := List.mem_map.mp hz
        intro hz2
        exact g ((flV_eq (hs e he) hd).mp hz2 ▸ he)
end
end Wk
namespace Wk
open PySem PySem.Spec PyProof.Rows L2
section
variable {K : PySem.W.Frag} {O : Own} {Q : SD → Own → Prop} {ds : List SD} {W : WX} {Qs : Addr → Option (Str × PyData) → Own → List SD → Prop} {ta tb : TE} {r : R2}
theorem x_op (h : EvX K W Qs ta O ds fun r1 O1 => EvW K tb O1 ds fun r2 O2 => OpW K r r1 r2 O2 Q) : EvX K W Qs (tOp r ta tb) O ds Q := fun Hk σ H p kw Q' k =>
  h Hk σ H p kw _ fun v r1 O1 Hk1 H1 e1 h1 s1 q1 => q1 Hk1 σ H1 (p.ext e1 h1) _ fun u r2 O2 Hk2 H2 e2 h2 s2 q2 => q2 Hk2 H2 h2 v u (s1.mono e2) s2 Q' (k.ext (e1.trans e2))
theorem kIn {X : Cx} (K : PySem.W.Frag) (h : X.K = K := by rfl) : OpR X (compareOp .In) (rIn K false) := h ▸ op_in_seq
theorem ints_of {H : Hp} {xs : List V} {ns : List Int} (h : DaAll H xs (ns.map PyData.int)) : xs = ns.map V.int := h.ints
theorem eqV_int {a b : Int} : eqV (.int a) (.int b) = true ↔ a = b := by simp [eqV]
theorem o_inI {x : Int} {ns : List Int} (q : ∀ b : Bool, (b = true ↔ x ∈ ns) → Q (bV b) O) : OpW K (rIn K false) (iV x) (.dat (lI ns)) O Q := fun Hk H h u v hu hv Q' k => by
  cases (show Da Hk u (.int x) from hu)
  cases (show Da Hk v (lI ns) from hv) with
  | @lst a xs _ g1 g2 =>
    have hx := ints_of g2
    subst hx
    refine ⟨a, _, rfl, .inl (.inl (.inl (h.kn _ _ g1))), rfl, List.all_eq_true.mpr fun z hz => ?_, k.now h (r := bV _) (.bl _) (q _ ?_)⟩
    · obtain ⟨e, _, rfl⟩ := List.mem_map.mp hz
      rfl
    · show ((ns.map V.int).any fun y => eqV y (.int x)) = true ↔ _
      rw [List.any_eq_true]
      constructor
      · rintro ⟨y, hy, e⟩
        obtain ⟨z, hz, rfl⟩ := List.mem_map.mp hy
        exact eqV_int.mp e ▸ hz
      · exact fun hm => ⟨.int x, List.mem_map.mpr ⟨x, hm, rfl⟩, eqV_int.mpr rfl⟩
theorem m_idxI {ns : List Int} {x : Int} (hx : x ∈ ns) (q : Q (iV (ns.idxOf x : Nat)) O) : MbW K (rIndex K) (.dat (lI ns)) [iV x] O Q := fun Hk H h u us hu hus Q' k => by
  obtain ⟨v, rfl, hv⟩ := all1 hus
  cases (show Da Hk v (.int x) from hv)
  cases (show Da Hk u (lI ns) from hu) with
  | @lst a xs _ g1 g2 =>
    have hxs := ints_of g2
    subst hxs
    have hl : ns.idxOf x < ns.length := List.idxOf_lt_length_iff.mpr hx
    have hat : ns[ns.idxOf x]? = some x := by
      rw [List.getElem?_eq_getElem hl, List.getElem_idxOf]
    refine ⟨a, _, .int x, ns.idxOf x, .int x, rfl, rfl, .inl (.inl (h.kn _ _ g1)), rfl, List.all_eq_true.mpr fun z hz => ?_, by rw [List.getElem?_map, hat]; rfl, eqV_int.mpr rfl, fun m z hm hz => ?_, k _ (iV _) O Hk H (Same.refl _) h (.int _) q⟩
    · obtain ⟨e, _, rfl⟩ := List.mem_map.mp hz
      rfl
    · rw [List.getElem?_map] at hz
      cases hn : ns[m]? with
      | none => rw [hn] at hz; cases hz
      | some y =>
        rw [hn] at hz
        cases hz
        refine Bool.eq_false_iff.mpr fun e => ?_
        have hy : y = x := eqV_int.mp e
        subst hy
        obtain ⟨hml, he⟩ := List.getElem?_eq_some_iff.mp hn
        have := List.not_of_lt_findIdx (p := (· == y)) (xs := ns) (i := m) hm
        rw [he] at this
        simp at this
end
end Wk
namespace LW
open PySem PySem.Spec PyProof.Rows L2 Wk
abbrev Pre := List SD → Own → (SD → Own → Prop) → Prop
abbrev PreX := List SD → Own → (SD → Own → Prop) → (Addr → Option (Str × PyData) → Own → Prop) → Prop
abbrev xF (f x : Str) : Option (Str × PyData) := some (f, PyData.str x)
abbrev dic1 (f x : Str) : SD := .dic [(.inr f, PyData.str x)]
abbrev dL (rs : List (List (List Int))) : List SD := rs.map fun r => SD.dat (lS r)
abbrev dS (cs : List (List Int)) : List SD := cs.map fun c => SD.dat (tI c)
def TapeOk (ts : List Int) : Prop := ∀ t ∈ ts, 0 ≤ t ∧ t < 2147483629
abbrev Sta (st : Addr) (ts : List Int) (k : Int) : Addr × OD := (st, .lst [.dat (lI ts), iV k])
theorem TapeOk.snoc {ts : List Int} {t : Int} (h : TapeOk ts) (h0 : 0 ≤ t) (h1 : t < 2147483629) : TapeOk (ts ++ [t]) := fun x hx => by
  rcases List.mem_append.mp hx with hx | hx
  · exact h x hx
  · have e : x = t := by simpa using hx
    rw [e]; exact ⟨h0, h1⟩
theorem getD_mem {ts : List Int} {P : Int → Prop} (h : ∀ t ∈ ts, P t) {i : Int} (h0 : 0 ≤ i) (h1 : i < ts.length) : P (ts.getD i.toNat 0) := by
  obtain ⟨j, rfl⟩ : ∃ j : Nat, i = (j : Int) := ⟨i.toNat, by omega⟩
  have hj : j < ts.length := by omega
  rw [Int.toNat_natCast, List.getD_eq_getElem?_getD, List.getElem?_eq_getElem hj]
  exact h _ (List.getElem_mem hj)
theorem no_neB {b : Bool} {p : Prop} (h : b = true ↔ p) (hp : p) (hf : (!b) = true) : False := by
  rw [h.mpr hp] at hf
  cases hf
/-! ### shapes: parts from 0 on -/
def px (ns : List Int) (i : Nat) : Int := ns.getD i 0
def pt (ns : List Int) (r : Int) : Int := px ns (r - 1).toNat
structure Sh (ns : List Int) : Prop where
  pos : ∀ v ∈ ns, 0 < v
  desc : ns.Pairwise (fun a b => b ≤ a)
theorem px_nil (i : Nat) : px [] i = 0 := rfl
theorem px_zero (v : Int) (r : List Int) : px (v :: r) 0 = v := rfl
theorem px_succ (v : Int) (r : List Int) (i : Nat) : px (v :: r) (i + 1) = px r i := rfl
theorem px_ge {ns : List Int} {i : Nat} (h : ns.length ≤ i) : px ns i = 0 := by
  unfold px
  rw [List.getD_eq_getElem?_getD, List.getElem?_eq_none h]
  rfl
theorem px_lt {ns : List Int} {i : Nat} (h : i < ns.length) : px ns i = ns[i] := by
  unfold px
  rw [List.getD_eq_getElem?_getD, List.getElem?_eq_getElem h]
  rfl
theorem px_mem {ns : List Int} {i : Nat} (h : i < ns.length) : px ns i ∈ ns := by
  rw [px_lt h]
  exact List.getElem_mem h
theorem pt_1 (ns : List Int) (i : Nat) : pt ns (1 + (i : Int)) = px ns i := by
  unfold pt
  rw [show ((1 : Int) + (i : Int) - 1).toNat = i by omega]
theorem pt_2 (ns : List Int) (i : Nat) : pt ns (1 + (i : Int) + 1) = px ns (i + 1) := by
  unfold pt
  rw [show ((1 : Int) + (i : Int) + 1 - 1).toNat = i + 1 by omega]
theorem pt_3 (ns : List Int) (i : Nat) : pt ns (2 + (i : Int)) = px ns (i + 1) := by
  unfold pt
  rw [show ((2 : Int) + (i : Int) - 1).toNat = i + 1 by omega]
theorem pt_4 (ns : List Int) (i : Nat) : pt ns (2 + (i : Int) - 1) = px ns i := by
  unfold pt
  rw [show ((2 : Int) + (i : Int) - 1 - 1).toNat = i by omega]
theorem pt_one (ns : List Int) : pt ns 1 = px ns 0 := rfl
theorem Sh.nil : Sh [] := ⟨fun _ h => absurd h List.not_mem_nil, List.Pairwise.nil⟩
theorem Sh.tail {v : Int} {r : List Int} (h : Sh (v :: r)) : Sh r := ⟨fun x hx => h.pos x (List.mem_cons_of_mem _ hx), (List.pairwise_cons.mp h.desc).2⟩
theorem Sh.px_pos {ns : List Int} (h : Sh ns) {i : Nat} (hi : i < ns.length) : 0 < px ns i := h.pos _ (px_mem hi)
theorem Sh.nonneg {ns : List Int} (h : Sh ns) (i : Nat) : 0 ≤ px ns i := by
  by_cases hi : i < ns.length
  · exact Int.le_of_lt (h.px_pos hi)
  · rw [px_ge (by omega)]
    exact Int.le_refl 0
theorem Sh.anti {ns : List Int} (h : Sh ns) (i : Nat) : px ns (i + 1) ≤ px ns i := by
  by_cases hi : i + 1 < ns.length
  · rw [px_lt hi, px_lt (by omega)]
    exact (List.pairwise_iff_getElem.mp h.desc) i (i + 1) (by omega) hi (by omega)
  · rw [px_ge (show ns.length ≤ i + 1 by omega)]
    exact h.nonneg i
theorem Sh.anti' {ns : List Int} (h : Sh ns) {i j : Nat} (hij : i ≤ j) : px ns j ≤ px ns i := by
  induction j with
  | zero =>
    have : i = 0 := by omega
    rw [this]
    exact Int.le_refl _
  | succ j ih =>
    by_cases e : i = j + 1
    · rw [e]
      exact Int.le_refl _
    · exact Int.le_trans (h.anti j) (ih (by omega))
theorem Sh.ext : ∀ {a b : List Int}, Sh a → Sh b → (∀ i, px a i = px b i) → a = b
  | [], [], _, _, _ => rfl
  | [], y :: s, _, hb, h => by
    have := h 0
    rw [px_nil, px_zero] at this
    have := hb.pos y List.mem_cons_self
    omega
  | x :: r, [], ha, _, h => by
    have := h 0
    rw [px_nil, px_zero] at this
    have := ha.pos x List.mem_cons_self
    omega
  | x :: r, y :: s, ha, hb, h => by
    have h0 := h 0
    rw [px_zero, px_zero] at h0
    rw [h0, Sh.ext ha.tail hb.tail fun i => h (i + 1)]
/-- all zeros left out -/
def trim (ns : List Int) : List Int := ns.filter fun v => !decide (v = 0)
theorem trim_len (ns : List Int) : (trim ns).length ≤ ns.length := List.length_filter_le _ _
theorem trim_all0 : ∀ {ns : List Int}, (∀ i, px ns i = 0) → trim ns = []
  | [], _ => rfl
  | v :: r, h => by
    have h0 := h 0
    rw [px_zero] at h0
    unfold trim
    rw [List.filter_cons, if_neg (by rw [h0]; decide)]
    exact trim_all0 fun i => h (i + 1)
theorem trim_sh : ∀ {ns : List Int}, (∀ i, 0 ≤ px ns i) → (∀ i, px ns (i + 1) ≤ px ns i) → Sh (trim ns) ∧ ∀ i, px (trim ns) i = px ns i
  | [], _, _ => ⟨Sh.nil, fun _ => rfl⟩
  | v :: r, h0, h1 => by
    obtain ⟨s1, s2⟩ := trim_sh (ns := r) (fun i => h0 (i + 1)) (fun i => h1 (i + 1))
    by_cases hv : v = 0
    · have all : ∀ i, px (v :: r) i = 0 := by
        intro i
        induction i with
        | zero => rw [px_zero, hv]
        | succ i ih =>
          have a := h0 (i + 1)
          have b := h1 i
          omega
      rw [trim_all0 all]
      exact ⟨Sh.nil, fun i => by rw [px_nil, all]⟩
    · have e : trim (v :: r) = v :: trim r := by
        unfold trim
        rw [List.filter_cons, if_pos (by simpa using hv)]
      rw [e]
      have p0 := h0 0
      rw [px_zero] at p0
      refine ⟨⟨fun x hx => ?_, List.pairwise_cons.mpr ⟨fun x hx => ?_, s1.desc⟩⟩, fun i => ?_⟩
      · rcases List.mem_cons.mp hx with rfl | hx
        · omega
        · exact s1.pos x hx
      · obtain ⟨j, hj, rfl⟩ := List.mem_iff_getElem.mp hx
        rw [← px_lt hj, s2 j]
        have : ∀ j, px r j ≤ v := by
          intro j
          induction j with
          | zero => exact h1 0
          | succ j ih => exact Int.le_trans (h1 (j + 1)) ih
        exact this j
      · cases i with
        | zero => rfl
        | succ i => exact s2 i
/-- a list by its parts -/
def ofN (n : Nat) (f : Nat → Int) : List Int := (List.range n).map f
theorem ofN_len (n : Nat) (f : Nat → Int) : (ofN n f).length = n := by
  unfold ofN
  rw [List.length_map, List.length_range]
theorem px_ofN (n : Nat) (f : Nat → Int) (i : Nat) : px (ofN n f) i = if i < n then f i else 0 := by
  by_cases h : i < n
  · rw [if_pos h, px_lt (by rw [ofN_len]; exact h)]
    unfold ofN
    rw [List.getElem_map, List.getElem_range]
  · rw [if_neg h, px_ge (by rw [ofN_len]; omega)]
theorem ofN_succ (n : Nat) (f : Nat → Int) : ofN (n + 1) f = ofN n f ++ [f n] := by
  unfold ofN
  rw [List.range_succ, List.map_append]
  rfl
theorem trim_sh_of {l : List Int} {f : Nat → Int} (e : ∀ i, px l i = f i) (h0 : ∀ i, 0 ≤ f i) (h1 : ∀ i, f (i + 1) ≤ f i) : Sh (trim l) ∧ ∀ i, px (trim l) i = f i := by
  obtain ⟨a, b⟩ := trim_sh (ns := l) (fun i => by rw [e]; exact h0 i) (fun i => by rw [e, e]; exact h1 i)
  exact ⟨a, fun i => (b i).trans (e i)⟩
/-- the first is a strip over the second -/
def Strip (u l : List Int) : Prop := ∀ i, px l i ≤ px u i ∧ px u (i + 1) ≤ px l i
def stripB (u l : List Int) : Bool := (List.range (max u.length l.length)).all fun i => decide (px l i ≤ px u i ∧ px u (i + 1) ≤ px l i)
theorem stripB_iff {u l : List Int} : stripB u l = true ↔ Strip u l := by
  unfold stripB Strip
  rw [List.all_eq_true]
  constructor
  · intro h i
    by_cases hi : i < max u.length l.length
    · exact of_decide_eq_true (h i (List.mem_range.mpr hi))
    · rw [px_ge (show u.length ≤ i by omega), px_ge (show l.length ≤ i by omega), px_ge (show u.length ≤ i + 1 by omega)]
      exact ⟨Int.le_refl _, Int.le_refl _⟩
  · intro h i _
    exact decide_eq_true (h i)
theorem stripB_false {u l : List Int} {i : Nat} (h : ¬ (px l i ≤ px u i ∧ px u (i + 1) ≤ px l i)) : stripB u l = false := by
  cases e : stripB u l with
  | false => rfl
  | true => exact absurd (stripB_iff.mp e i) h
theorem stripB_true {u l : List Int} (h : Strip u l) : stripB u l = true := stripB_iff.mpr h
theorem strip_of {u l : List Int} {n : Nat} (hn : max u.length l.length ≤ n) (h : ∀ i, i < n → px l i ≤ px u i ∧ px u (i + 1) ≤ px l i) : Strip u l := fun i => by
  by_cases hi : i < n
  · exact h i hi
  · rw [px_ge (show u.length ≤ i by omega), px_ge (show l.length ≤ i by omega), px_ge (show u.length ≤ i + 1 by omega)]
    exact ⟨Int.le_refl _, Int.le_refl _⟩
theorem Strip.refl {u : List Int} (h : Sh u) : Strip u u := fun i => ⟨Int.le_refl _, h.anti i⟩
theorem Strip.len {u l : List Int} (s : Strip u l) (hu : Sh u) (hl : Sh l) : l.length ≤ u.length ∧ u.length ≤ l.length + 1 := by
  constructor
  · by_cases h : l.length ≤ u.length
    · exact h
    · have a := (s u.length).1
      rw [px_ge (ns := u) (Nat.le_refl _)] at a
      have := hl.px_pos (i := u.length) (by omega)
      omega
  · by_cases h : u.length ≤ l.length + 1
    · exact h
    · have a := (s l.length).2
      rw [px_ge (ns := l) (Nat.le_refl _)] at a
      have := hu.px_pos (i := l.length + 1) (by omega)
      omega
theorem px_snoc_lt {us : List Int} {v : Int} {j : Nat} (h : j < us.length) : px (us ++ [v]) j = px us j := by
  rw [px_lt h, px_lt (by rw [List.length_append]; omega), List.getElem_append_left h]
theorem px_snoc_eq {us : List Int} {v : Int} {j : Nat} (h : us.length = j) : px (us ++ [v]) j = v := by
  subst h
  rw [px_lt (by rw [List.length_append]; simp), List.getElem_append_right (Nat.le_refl _)]
  simp
theorem map_get {α β : Type} {f : α → β} {ns : List α} {i : Nat} {d : β} (h : (ns.map f)[i]? = some d) : ∃ v, ns[i]? = some v ∧ d = f v := by
  rw [List.getElem?_map] at h
  cases hn : ns[i]? with
  | none => rw [hn] at h; cases h
  | some v => rw [hn] at h; cases h; exact ⟨v, rfl, rfl⟩
theorem take_next {α : Type} {ns : List α} {i : Nat} {v : α} (h : ns[i]? = some v) : ns.take (i + 1) = ns.take i ++ [v] := by
  rw [List.take_add_one, h]
  rfl
theorem trim_snoc (ns : List Int) (v : Int) : trim (ns ++ [v]) = trim ns ++ (if v = 0 then [] else [v]) := by
  unfold trim
  rw [List.filter_append]
  congr 1
  by_cases h : v = 0
  · rw [if_pos h, List.filter_cons, if_neg (by rw [h]; decide)]
    rfl
  · rw [if_neg h, List.filter_cons, if_pos (by simpa using h)]
    rfl
/-- drawn over ns, n places behind the first -/
structure OverI (ns us : List Int) (n : Nat) : Prop where
  len : us.length = n + 1
  fst : px ns 0 ≤ px us 0
  oth : ∀ j, j < n → px ns (j + 1) ≤ px us (j + 1) ∧ px us (j + 1) ≤ px ns j
theorem OverI.snoc {ns us : List Int} {n : Nat} {v : Int} (h : OverI ns us n) (h1 : px ns (n + 1) ≤ v) (h2 : v ≤ px ns n) : OverI ns (us ++ [v]) (n + 1) := by
  refine ⟨by rw [List.length_append, h.len]; rfl, by rw [px_snoc_lt (by rw [h.len]; omega)]; exact h.fst, fun j hj => ?_⟩
  by_cases e : j = n
  · subst e
    rw [px_snoc_eq h.len]
    exact ⟨h1, h2⟩
  · rw [px_snoc_lt (by rw [h.len]; omega)]
    exact h.oth j (by omega)
theorem OverI.fin {ns us : List Int} (h : OverI ns us ns.length) (s : Sh ns) : Sh (trim us) ∧ Strip (trim us) ns ∧ (trim us).length ≤ ns.length + 1 := by
  have hz : ∀ i, ns.length < i → px us i = 0 := fun i hi => px_ge (by rw [h.len]; omega)
  have step : ∀ i, px us (i + 1) ≤ px ns i := fun i => by
    by_cases hi : i < ns.length
    · exact (h.oth i hi).2
    · rw [hz (i + 1) (by omega)]
      exact s.nonneg i
  have above : ∀ i, px ns i ≤ px us i := fun i => by
    cases i with
    | zero => exact h.fst
    | succ i =>
      by_cases hi : i < ns.length
      · exact (h.oth i hi).1
      · rw [px_ge (show ns.length ≤ i + 1 by omega), hz (i + 1) (by omega)]
        exact Int.le_refl _
  obtain ⟨a, b⟩ := trim_sh_of (l := us) (f := px us) (fun _ => rfl) (fun i => Int.le_trans (s.nonneg i) (above i)) (fun i => Int.le_trans (step i) (above i))
  exact ⟨a, fun i => ⟨by rw [b]; exact above i, by rw [b]; exact step i⟩, by rw [← h.len]; exact trim_len us⟩
/-- drawn below ns, n places -/
structure BelI (ns us : List Int) (n : Nat) : Prop where
  len : us.length = n
  oth : ∀ j, j < n → px ns (j + 1) ≤ px us j ∧ px us j ≤ px ns j
theorem BelI.snoc {ns us : List Int} {n : Nat} {v : Int} (h : BelI ns us n) (h1 : px ns (n + 1) ≤ v) (h2 : v ≤ px ns n) : BelI ns (us ++ [v]) (n + 1) := by
  refine ⟨by rw [List.length_append, h.len]; rfl, fun j hj => ?_⟩
  by_cases e : j = n
  · subst e
    rw [px_snoc_eq h.len]
    exact ⟨h1, h2⟩
  · rw [px_snoc_lt (by rw [h.len]; omega)]
    exact h.oth j (by omega)
theorem BelI.fin {ns us : List Int} (h : BelI ns us ns.length) (s : Sh ns) : Sh (trim us) ∧ Strip ns (trim us) ∧ (trim us).length ≤ ns.length := by
  have hz : ∀ i, ns.length ≤ i → px us i = 0 := fun i hi => px_ge (by rw [h.len]; omega)
  have lo : ∀ i, px ns (i + 1) ≤ px us i := fun i => by
    by_cases hi : i < ns.length
    · exact (h.oth i hi).1
    · rw [px_ge (show ns.length ≤ i + 1 by omega), hz i (by omega)]
      exact Int.le_refl _
  have up : ∀ i, px us i ≤ px ns i := fun i => by
    by_cases hi : i < ns.length
    · exact (h.oth i hi).2
    · rw [px_ge (show ns.length ≤ i by omega), hz i (by omega)]
      exact Int.le_refl _
  obtain ⟨a, b⟩ := trim_sh_of (l := us) (f := px us) (fun _ => rfl) (fun i => Int.le_trans (s.nonneg (i + 1)) (lo i)) (fun i => Int.le_trans (up (i + 1)) (lo i))
  exact ⟨a, fun i => ⟨by rw [b]; exact up i, by rw [b]; exact lo i⟩, by rw [← h.len]; exact trim_len us⟩
/-- a falling list of numbers that are not negative, its zeros left out -/
theorem sh_of_sorted {ms : List Int} (hs : ms.Pairwise (fun a b => a ≤ b)) (h0 : ∀ v ∈ ms, 0 ≤ v) : Sh (trim ms.reverse) := by
  refine ⟨fun v hv => ?_, ?_⟩
  · unfold trim at hv
    rw [List.mem_filter] at hv
    have := h0 v (List.mem_reverse.mp hv.1)
    have hne : v ≠ 0 := by simpa using hv.2
    omega
  · exact (List.pairwise_reverse.mpr hs).filter _
/-! ### chains -/
def stripsB : List Int → List (List Int) → Bool
  | _, [] => true
  | c, d :: r => stripB d c && stripsB d r
def chainB : List (List Int) → Bool
  | [] => false
  | c :: r => decide (c = []) && stripsB c r
theorem strips_next {cs : List (List Int)} {i : Nat} (hi : i + 1 < cs.length) : stripsB (cs.getD i []) (cs.drop (i + 1)) = (stripB (cs.getD (i + 1) []) (cs.getD i []) && stripsB (cs.getD (i + 1) []) (cs.drop (i + 2))) := by
  rw [List.drop_eq_getElem_cons hi]
  show (stripB cs[i + 1] (cs.getD i []) && stripsB cs[i + 1] (cs.drop (i + 1 + 1))) = _
  have e : cs.getD (i + 1) [] = cs[i + 1] := by
    rw [List.getD_eq_getElem?_getD, List.getElem?_eq_getElem hi]
    rfl
  rw [e]
theorem chain_start {cs : List (List Int)} (h : 0 < cs.length) (h0 : cs.getD 0 [] = []) : chainB cs = stripsB (cs.getD 0 []) (cs.drop 1) := by
  cases cs with
  | nil => cases h
  | cons c r =>
    have e : c = [] := h0
    subst e
    rfl
theorem chain_not {cs : List (List Int)} (h0 : cs.getD 0 [] ≠ []) : chainB cs = false := by
  cases cs with
  | nil => rfl
  | cons c r =>
    show (decide (c = []) && stripsB c r) = false
    rw [decide_eq_false (show ¬ c = [] from h0)]
    rfl
theorem px_take (ns : List Int) (n i : Nat) : px (ns.take n) i = if i < n then px ns i else 0 := by
  unfold px
  rw [List.getD_eq_getElem?_getD, List.getD_eq_getElem?_getD, List.getElem?_take]
  by_cases h : i < n
  · rw [if_pos h, if_pos h]
  · rw [if_neg h, if_neg h]
    rfl
theorem px_pad (ns : List Int) (z i : Nat) : px (ns ++ List.replicate z 0) i = px ns i := by
  by_cases h : i < ns.length
  · rw [px_lt h, px_lt (by rw [List.length_append]; omega), List.getElem_append_left h]
  · rw [px_ge (ns := ns) (by omega)]
    by_cases h2 : i < (ns ++ List.replicate z 0).length
    · rw [px_lt h2, List.getElem_append_right (by omega), List.getElem_replicate]
    · exact px_ge (by omega)
/-- below c, with at most n parts -/
theorem cut_below {c ms : List Int} {n z : Nat} (hc : Sh c) (hm : Sh ms) (s : Strip c ms) (hl : c.length ≤ n + 1) :
    Sh (trim ((ms ++ List.replicate z 0).take n)) ∧ Strip c (trim ((ms ++ List.replicate z 0).take n)) ∧ (trim ((ms ++ List.replicate z 0).take n)).length ≤ n := by
  have e : ∀ i, px ((ms ++ List.replicate z 0).take n) i = if i < n then px ms i else 0 := fun i => by rw [px_take, px_pad]
  obtain ⟨a, b⟩ := trim_sh_of (f := fun i => if i < n then px ms i else 0) e (fun i => by
    show 0 ≤ if i < n then px ms i else 0
    split
    · exact hm.nonneg i
    · exact Int.le_refl 0) (fun i => by
    show (if i + 1 < n then px ms (i + 1) else 0) ≤ if i < n then px ms i else 0
    have := hm.anti i
    have := hm.nonneg i
    split <;> split <;> omega)
  refine ⟨a, fun i => ?_, ?_⟩
  · rw [b]
    show (if i < n then px ms i else 0) ≤ px c i ∧ px c (i + 1) ≤ if i < n then px ms i else 0
    have h1 := s i
    have h2 := hc.nonneg i
    by_cases hi : i < n
    · rw [if_pos hi]
      exact h1
    · rw [if_neg hi, px_ge (ns := c) (i := i + 1) (by omega)]
      exact ⟨h2, Int.le_refl _⟩
  · refine Nat.le_trans (trim_len _) ?_
    rw [List.length_take]
    exact Nat.min_le_left _ _
theorem getD_cons_succ' {α : Type} (c : α) (r : List α) (i : Nat) (d : α) : (c :: r).getD (i + 1) d = r.getD i d := rfl
theorem strips_iff : ∀ {c : List Int} {r : List (List Int)}, stripsB c r = true ↔ ∀ i, i < r.length → Strip (r.getD i []) ((c :: r).getD i [])
  | c, [] => ⟨fun _ i hi => absurd hi (Nat.not_lt_zero _), fun _ => rfl⟩
  | c, d :: r => by
    show (stripB d c && stripsB d r) = true ↔ _
    rw [Bool.and_eq_true, stripB_iff, strips_iff]
    constructor
    · rintro ⟨h1, h2⟩ i hi
      cases i with
      | zero => exact h1
      | succ i => exact h2 i (by rw [List.length_cons] at hi; omega)
    · intro h
      exact ⟨h 0 (by rw [List.length_cons]; omega), fun i hi => h (i + 1) (by rw [List.length_cons]; omega)⟩
theorem chain_iff {cs : List (List Int)} : chainB cs = true ↔ 0 < cs.length ∧ cs.getD 0 [] = [] ∧ ∀ i, i + 1 < cs.length → Strip (cs.getD (i + 1) []) (cs.getD i []) := by
  cases cs with
  | nil => exact ⟨fun h => (by cases h), fun h => absurd h.1 (Nat.lt_irrefl _)⟩
  | cons c r =>
    show (decide (c = []) && stripsB c r) = true ↔ _
    rw [Bool.and_eq_true, decide_eq_true_eq, strips_iff]
    constructor
    · rintro ⟨h1, h2⟩
      exact ⟨by rw [List.length_cons]; omega, h1, fun i hi => h2 i (by rw [List.length_cons] at hi; omega)⟩
    · rintro ⟨_, h1, h2⟩
      exact ⟨h1, fun i hi => h2 i (by rw [List.length_cons]; omega)⟩
theorem getD_set {α : Type} (cs : List α) (i j : Nat) (x d : α) (hi : i < cs.length) : (cs.set i x).getD j d = if i = j then x else cs.getD j d := by
  rw [List.getD_eq_getElem?_getD, List.getD_eq_getElem?_getD, List.getElem?_set]
  by_cases h : i = j
  · subst h
    rw [if_pos rfl, if_pos rfl, if_pos hi]
    rfl
  · rw [if_neg h, if_neg h]
structure ChG (cs : List (List Int)) : Prop where
  str : chainB cs = true
  all : ∀ c ∈ cs, Sh c ∧ c.length ≤ 30
theorem ChG.sh {cs : List (List Int)} (g : ChG cs) (i : Nat) : Sh (cs.getD i []) ∧ (cs.getD i []).length ≤ 30 := by
  by_cases hi : i < cs.length
  · rw [List.getD_eq_getElem?_getD, List.getElem?_eq_getElem hi]
    exact g.all _ (List.getElem_mem hi)
  · rw [List.getD_eq_getElem?_getD, List.getElem?_eq_none (by omega)]
    exact ⟨Sh.nil, Nat.zero_le _⟩
theorem getD_len {cs : List (List Int)} {n : Nat} (h : ∀ c ∈ cs, c.length ≤ n) (i : Nat) : (cs.getD i []).length ≤ n := by
  by_cases hi : i < cs.length
  · rw [List.getD_eq_getElem?_getD, List.getElem?_eq_getElem hi]
    exact h _ (List.getElem_mem hi)
  · rw [List.getD_eq_getElem?_getD, List.getElem?_eq_none (by omega)]
    exact Nat.zero_le _
/-! ### toggling -/
def tog (lo sh hi : List Int) (i : Nat) : Int := (if i = 0 then px hi 0 else min (px hi i) (px lo (i - 1))) + max (px hi (i + 1)) (px lo i) - px sh i
def togg (lo sh hi : List Int) : List Int := trim (ofN hi.length (tog lo sh hi))
structure Tri (lo sh hi : List Int) : Prop where
  l : Sh lo
  s : Sh sh
  h : Sh hi
  a : Strip sh lo
  b : Strip hi sh
theorem Tri.bounds {lo sh hi : List Int} (t : Tri lo sh hi) (i : Nat) : px lo i ≤ tog lo sh hi i ∧ tog lo sh hi i ≤ px hi i ∧ px hi (i + 1) ≤ tog lo sh hi i ∧ (i ≠ 0 → tog lo sh hi i ≤ px lo (i - 1)) := by
  have a := t.a i
  have b := t.b i
  have nl := t.l.nonneg i
  unfold tog
  by_cases h : i = 0
  · rw [if_pos h]
    subst h
    refine ⟨?_, ?_, ?_, fun z => absurd rfl z⟩ <;> omega
  · rw [if_neg h]
    have a2 := (t.a (i - 1)).2
    rw [show i - 1 + 1 = i by omega] at a2
    refine ⟨?_, ?_, ?_, fun _ => ?_⟩ <;> omega
theorem Tri.prt {lo sh hi : List Int} (t : Tri lo sh hi) {n : Nat} (hn : hi.length ≤ n) : Sh (trim (ofN n (tog lo sh hi))) ∧ ∀ i, px (trim (ofN n (tog lo sh hi))) i = tog lo sh hi i := by
  refine trim_sh_of (fun i => ?_) (fun i => Int.le_trans (t.l.nonneg i) (t.bounds i).1) fun i => ?_
  · rw [px_ofN]
    split
    · rfl
    · have b := t.bounds i
      have := t.l.nonneg i
      rw [px_ge (ns := hi) (i := i) (by omega)] at b
      omega
  · have b1 := (t.bounds (i + 1)).2.2.2 (by omega)
    rw [show i + 1 - 1 = i by omega] at b1
    exact Int.le_trans b1 (t.bounds i).1
theorem Tri.togg_eq {lo sh hi : List Int} (t : Tri lo sh hi) {n : Nat} (hn : hi.length ≤ n) : trim (ofN n (tog lo sh hi)) = togg lo sh hi := by
  obtain ⟨a, b⟩ := t.prt hn
  obtain ⟨c, d⟩ := t.prt (Nat.le_refl _)
  exact Sh.ext a c fun i => (b i).trans (d i).symm
theorem Tri.tri {lo sh hi : List Int} (t : Tri lo sh hi) : Tri lo (togg lo sh hi) hi := by
  obtain ⟨c, d⟩ := t.prt (Nat.le_refl _)
  refine ⟨t.l, c, t.h, fun i => ?_, fun i => ?_⟩
  · show _ ≤ px (trim _) i ∧ px (trim _) (i + 1) ≤ _
    rw [d, d]
    have b1 := (t.bounds (i + 1)).2.2.2 (by omega)
    rw [show i + 1 - 1 = i by omega] at b1
    exact ⟨(t.bounds i).1, b1⟩
  · show px (trim _) i ≤ _ ∧ _ ≤ px (trim _) i
    rw [d]
    exact ⟨(t.bounds i).2.1, (t.bounds i).2.2.1⟩
theorem Tri.back {lo sh hi : List Int} (t : Tri lo sh hi) : togg lo (togg lo sh hi) hi = sh := by
  obtain ⟨c, d⟩ := t.prt (Nat.le_refl _)
  obtain ⟨e, f⟩ := t.tri.prt (Nat.le_refl _)
  refine Sh.ext e t.s fun i => ?_
  refine (f i).trans ?_
  unfold tog
  have : px (togg lo sh hi) i = tog lo sh hi i := d i
  rw [this]
  unfold tog
  omega
theorem Tri.len {lo sh hi : List Int} : (togg lo sh hi).length ≤ hi.length := by
  have := trim_len (ofN hi.length (tog lo sh hi))
  rw [ofN_len] at this
  exact this
def togC (cs : List (List Int)) (i : Nat) : List (List Int) := cs.set i (togg (cs.getD (i - 1) []) (cs.getD i []) (cs.getD (i + 1) []))
theorem ChG.tri {cs : List (List Int)} (g : ChG cs) {i : Nat} (h1 : 1 ≤ i) (h2 : i + 1 < cs.length) : Tri (cs.getD (i - 1) []) (cs.getD i []) (cs.getD (i + 1) []) := by
  obtain ⟨_, _, s⟩ := chain_iff.mp g.str
  have a := s (i - 1) (by omega)
  rw [show i - 1 + 1 = i by omega] at a
  exact ⟨(g.sh _).1, (g.sh _).1, (g.sh _).1, a, s i h2⟩
theorem togC_len (cs : List (List Int)) (i : Nat) : (togC cs i).length = cs.length := List.length_set
theorem togC_getD {cs : List (List Int)} {i : Nat} (h2 : i + 1 < cs.length) (j : Nat) : (togC cs i).getD j [] = if i = j then togg (cs.getD (i - 1) []) (cs.getD i []) (cs.getD (i + 1) []) else cs.getD j [] := getD_set _ _ _ _ _ (by omega)
theorem ChG.tog {cs : List (List Int)} (g : ChG cs) {i : Nat} (h1 : 1 ≤ i) (h2 : i + 1 < cs.length) : ChG (togC cs i) := by
  have t := g.tri h1 h2
  obtain ⟨l, z, s⟩ := chain_iff.mp g.str
  refine ⟨chain_iff.mpr ⟨by rw [togC_len]; exact l, ?_, fun j hj => ?_⟩, fun c hc => ?_⟩
  · rw [togC_getD h2, if_neg (by omega)]
    exact z
  · rw [togC_len] at hj
    rw [togC_getD h2, togC_getD h2]
    by_cases e1 : i = j + 1
    · rw [if_pos e1, if_neg (by omega)]
      have := t.tri.a
      rw [show j = i - 1 by omega]
      exact this
    · rw [if_neg e1]
      by_cases e2 : i = j
      · rw [if_pos e2]
        have := t.tri.b
        rw [← e2]
        exact this
      · rw [if_neg e2]
        exact s j hj
  · obtain ⟨j, hj, rfl⟩ := List.mem_iff_getElem.mp hc
    have e : (togC cs i)[j] = (togC cs i).getD j [] := by
      rw [List.getD_eq_getElem?_getD, List.getElem?_eq_getElem hj]
      rfl
    rw [e, togC_getD h2]
    split
    · exact ⟨t.tri.s, Nat.le_trans Tri.len (g.sh _).2⟩
    · exact g.sh _
theorem togC_togC {cs : List (List Int)} (g : ChG cs) {i : Nat} (h1 : 1 ≤ i) (h2 : i + 1 < cs.length) : togC (togC cs i) i = cs := by
  have t := g.tri h1 h2
  have e : togg ((togC cs i).getD (i - 1) []) ((togC cs i).getD i []) ((togC cs i).getD (i + 1) []) = cs.getD i [] := by
    rw [togC_getD h2, togC_getD h2, togC_getD h2, if_neg (by omega), if_pos rfl, if_neg (by omega)]
    exact t.back
  show (togC cs i).set i (togg ((togC cs i).getD (i - 1) []) ((togC cs i).getD i []) ((togC cs i).getD (i + 1) [])) = cs
  rw [e]
  show (cs.set i _).set i _ = cs
  rw [List.set_set]
  have e2 : cs.getD i [] = cs[i]'(by omega) := by
    rw [List.getD_eq_getElem?_getD, List.getElem?_eq_getElem (by omega)]
    rfl
  rw [e2]
  exact List.set_getElem_self (by omega)
theorem set_parts {α : Type} {cs : List α} {i : Nat} {x : α} (h : i < cs.length) : cs.take i ++ [x] ++ cs.drop (i + 1) = cs.set i x := by
  rw [List.set_eq_take_append_cons_drop, if_pos h, List.append_assoc]
  rfl
/-! ### sizes of shapes, and what toggling does to them -/
def psum (f : Nat → Int) : Nat → Int
  | 0 => 0
  | n + 1 => psum f n + f n
theorem psum_front (f : Nat → Int) : ∀ n, psum f (n + 1) = f 0 + psum (fun i => f (i + 1)) n
  | 0 => by show 0 + f 0 = f 0 + 0; omega
  | n + 1 => by
    have ih := psum_front f n
    show psum f (n + 1) + f (n + 1) = f 0 + (psum (fun i => f (i + 1)) n + f (n + 1))
    omega
theorem psum_congr {f g : Nat → Int} (h : ∀ i, f i = g i) : ∀ n, psum f n = psum g n
  | 0 => rfl
  | n + 1 => by
    show psum f n + f n = psum g n + g n
    rw [psum_congr h n, h]
theorem psum_zero : ∀ n, psum (fun _ => 0) n = 0
  | 0 => rfl
  | n + 1 => by
    show psum (fun _ => 0) n + 0 = 0
    rw [psum_zero n]
    rfl
theorem sum_px : ∀ {ns : List Int} {n : Nat}, ns.length ≤ n → ns.sum = psum (px ns) n
  | [], n, _ => by
    rw [psum_congr (g := fun _ => 0) (fun i => px_nil i), psum_zero]
    rfl
  | v :: r, 0, h => by cases h
  | v :: r, n + 1, h => by
    rw [psum_front, List.sum_cons, sum_px (ns := r) (n := n) (by rw [List.length_cons] at h; omega)]
    rfl
theorem psum_tog (lo sh hi : List Int) : ∀ n, psum (tog lo sh hi) (n + 1) = psum (px hi) (n + 1) + psum (px lo) (n + 1) - psum (px sh) (n + 1) + max (px hi (n + 1)) (px lo n) - px lo n
  | 0 => by
    show 0 + ((if 0 = 0 then px hi 0 else _) + max (px hi 1) (px lo 0) - px sh 0) = (0 + px hi 0) + (0 + px lo 0) - (0 + px sh 0) + max (px hi 1) (px lo 0) - px lo 0
    rw [if_pos rfl]
    omega
  | n + 1 => by
    have ih := psum_tog lo sh hi n
    have e : tog lo sh hi (n + 1) = min (px hi (n + 1)) (px lo n) + max (px hi (n + 2)) (px lo (n + 1)) - px sh (n + 1) := by
      unfold tog
      rw [if_neg (by omega), show n + 1 - 1 = n by omega]
    show psum (tog lo sh hi) (n + 1) + tog lo sh hi (n + 1) = (psum (px hi) (n + 1) + px hi (n + 1)) + (psum (px lo) (n + 1) + px lo (n + 1)) - (psum (px sh) (n + 1) + px sh (n + 1)) + max (px hi (n + 2)) (px lo (n + 1)) - px lo (n + 1)
    rw [e, ih]
    omega
theorem Tri.sum {lo sh hi : List Int} (t : Tri lo sh hi) : (togg lo sh hi).sum = lo.sum + hi.sum - sh.sum := by
  obtain ⟨_, d⟩ := t.prt (Nat.le_refl _)
  have hn := Tri.len (lo := lo) (sh := sh) (hi := hi)
  rw [sum_px (n := hi.length + lo.length + sh.length + 1) (by omega), sum_px (ns := lo) (n := hi.length + lo.length + sh.length + 1) (by omega), sum_px (ns := hi) (n := hi.length + lo.length + sh.length + 1) (by omega), sum_px (ns := sh) (n := hi.length + lo.length + sh.length + 1) (by omega)]
  rw [psum_congr (f := px (togg lo sh hi)) (g := tog lo sh hi) d, psum_tog, px_ge (ns := hi) (i := hi.length + lo.length + sh.length + 1) (by omega), px_ge (ns := lo) (i := hi.length + lo.length + sh.length) (by omega)]
  omega
/-- the sizes of the steps of a chain -/
def siz (cs : List (List Int)) (k : Nat) : Int := (cs.getD (k + 1) []).sum - (cs.getD k []).sum
def sizes (cs : List (List Int)) : List Int := ofN (cs.length - 1) (siz cs)
theorem ofN_get (n : Nat) (f : Nat → Int) (i : Nat) : (ofN n f)[i]? = if i < n then some (f i) else none := by
  unfold ofN
  rw [List.getElem?_map]
  by_cases h : i < n
  · rw [if_pos h, List.getElem?_range h]
    rfl
  · rw [if_neg h, List.getElem?_eq_none (by rw [List.length_range]; omega)]
    rfl
theorem siz_tog {cs : List (List Int)} (g : ChG cs) {i : Nat} (h1 : 1 ≤ i) (h2 : i + 1 < cs.length) (k : Nat) : siz (togC cs i) k = if k = i then siz cs (i - 1) else if k + 1 = i then siz cs i else siz cs k := by
  have t := (g.tri h1 h2).sum
  have e : i - 1 + 1 = i := by omega
  unfold siz
  rw [togC_getD h2, togC_getD h2]
  by_cases a : k = i
  · subst a
    rw [if_neg (by omega), if_pos rfl, if_pos rfl, t, e]
    omega
  · rw [if_neg (show ¬ i = k by omega), if_neg a]
    by_cases b : k + 1 = i
    · rw [if_pos b.symm, if_pos b, t, show k = i - 1 by omega]
      omega
    · rw [if_neg (show ¬ i = k + 1 by omega), if_neg b]
theorem sizes_tog {cs : List (List Int)} (g : ChG cs) {i : Nat} (h1 : 1 ≤ i) (h2 : i + 1 < cs.length) :
    (sizes cs).take (i - 1) ++ [siz cs i, siz cs (i - 1)] ++ (sizes cs).drop (i + 1) = sizes (togC cs i) := by
  refine List.ext_getElem? fun k => ?_
  unfold sizes
  have hl : ((ofN (cs.length - 1) (siz cs)).take (i - 1)).length = i - 1 := by rw [List.length_take, ofN_len]; omega
  rw [ofN_get, togC_len, siz_tog g h1 h2, List.append_assoc]
  by_cases a : k < i - 1
  · rw [List.getElem?_append_left (by omega), List.getElem?_take, if_pos a, ofN_get, if_pos (by omega), if_pos (by omega), if_neg (by omega), if_neg (by omega)]
  · rw [List.getElem?_append_right (by omega), hl]
    by_cases b : k = i - 1
    · rw [show k - (i - 1) = 0 by omega, if_pos (by omega), if_neg (by omega), if_pos (by omega)]
      rfl
    · by_cases c : k = i
      · rw [show k - (i - 1) = 1 by omega, if_pos (by omega), if_pos c]
        rfl
      · obtain ⟨m, hm⟩ : ∃ m, k = i + 1 + m := ⟨k - (i + 1), by omega⟩
        subst hm
        rw [show i + 1 + m - (i - 1) = m + 2 by omega]
        show ((ofN (cs.length - 1) (siz cs)).drop (i + 1))[m]? = _
        rw [List.getElem?_drop, ofN_get, if_neg (show ¬ i + 1 + m = i by omega), if_neg (show ¬ i + 1 + m + 1 = i by omega)]
theorem togC_far {cs : List (List Int)} {i j : Nat} (h1 : 1 ≤ i) (h2 : i + 1 < cs.length) (h3 : 1 ≤ j) (h4 : j + 1 < cs.length) (hf : i + 1 < j ∨ j + 1 < i) : togC (togC cs i) j = togC (togC cs j) i := by
  have a : togC (togC cs i) j = (togC cs i).set j (togg (cs.getD (j - 1) []) (cs.getD j []) (cs.getD (j + 1) [])) := by
    show (togC cs i).set j _ = _
    rw [togC_getD h2, togC_getD h2, togC_getD h2, if_neg (by omega), if_neg (by omega), if_neg (by omega)]
  have b : togC (togC cs j) i = (togC cs j).set i (togg (cs.getD (i - 1) []) (cs.getD i []) (cs.getD (i + 1) [])) := by
    show (togC cs j).set i _ = _
    rw [togC_getD h4, togC_getD h4, togC_getD h4, if_neg (by omega), if_neg (by omega), if_neg (by omega)]
  rw [a, b]
  unfold togC
  exact List.set_comm _ _ (by omega)
/-- toggled one after another -/
def togs (cs : List (List Int)) (js : List Int) : List (List Int) := js.foldl (fun c j => togC c j.toNat) cs
theorem togs_snoc (cs : List (List Int)) (js : List Int) (j : Int) : togs cs (js ++ [j]) = togC (togs cs js) j.toNat := by
  unfold togs
  rw [List.foldl_append]
  rfl
theorem togs_ok {cs : List (List Int)} (g : ChG cs) : ∀ (n : Nat) (js : List Int), js.length = n → (∀ j ∈ js, 1 ≤ j ∧ j + 1 < cs.length) → ChG (togs cs js) ∧ (togs cs js).length = cs.length
  | 0, js, e, _ => by
    rw [List.length_eq_zero_iff.mp e]
    exact ⟨g, rfl⟩
  | n + 1, js, e, h => by
    have hne : js ≠ [] := fun z => by rw [z] at e; cases e
    obtain ⟨a, b⟩ := togs_ok g n js.dropLast (by rw [List.length_dropLast]; omega) fun j hj => h j ((List.dropLast_sublist js).mem hj)
    have hj := h _ (List.getLast_mem hne)
    have e2 := togs_snoc cs js.dropLast (js.getLast hne)
    rw [List.dropLast_concat_getLast hne] at e2
    rw [e2]
    exact ⟨a.tog (by omega) (by omega), by rw [togC_len]; exact b⟩
/-! ### the local rule -/
def gro (rho mu nu : List Int) (c : Int) : Nat → Int
  | 0 => max (px mu 0) (px nu 0) + c
  | i + 1 => max (px mu (i + 1)) (px nu (i + 1)) + min (px mu i) (px nu i) - px rho i
def lrule (rho mu nu : List Int) (c : Int) (n : Nat) : List Int := trim (ofN (n + 1) (gro rho mu nu c))
def grow (rho mu nu : List Int) (c : Int) : List Int := lrule rho mu nu c (max mu.length nu.length)
structure Sq (rho mu nu : List Int) (c : Int) : Prop where
  r : Sh rho
  m : Sh mu
  n : Sh nu
  a : Strip mu rho
  b : Strip nu rho
  c : 0 ≤ c
theorem Sq.zero {rho mu nu : List Int} {c : Int} (s : Sq rho mu nu c) {i : Nat} (h : max mu.length nu.length ≤ i) : gro rho mu nu c (i + 1) = 0 := by
  show max (px mu (i + 1)) (px nu (i + 1)) + min (px mu i) (px nu i) - px rho i = 0
  have a := (s.a i).1
  have r := s.r.nonneg i
  rw [px_ge (ns := mu) (i := i) (by omega)] at a ⊢
  rw [px_ge (ns := nu) (i := i) (by omega), px_ge (ns := mu) (i := i + 1) (by omega), px_ge (ns := nu) (i := i + 1) (by omega)]
  omega
theorem Sq.bounds {rho mu nu : List Int} {c : Int} (s : Sq rho mu nu c) (i : Nat) : px mu i ≤ gro rho mu nu c i ∧ px nu i ≤ gro rho mu nu c i ∧ gro rho mu nu c (i + 1) ≤ px mu i ∧ gro rho mu nu c (i + 1) ≤ px nu i := by
  have a := s.a i
  have b := s.b i
  have hc := s.c
  have e1 : gro rho mu nu c (i + 1) = max (px mu (i + 1)) (px nu (i + 1)) + min (px mu i) (px nu i) - px rho i := rfl
  refine ⟨?_, ?_, ?_, ?_⟩
  · cases i with
    | zero =>
      show _ ≤ max (px mu 0) (px nu 0) + c
      omega
    | succ i =>
      have a2 := s.a i
      have b2 := s.b i
      show _ ≤ max (px mu (i + 1)) (px nu (i + 1)) + min (px mu i) (px nu i) - px rho i
      omega
  · cases i with
    | zero =>
      show _ ≤ max (px mu 0) (px nu 0) + c
      omega
    | succ i =>
      have a2 := s.a i
      have b2 := s.b i
      show _ ≤ max (px mu (i + 1)) (px nu (i + 1)) + min (px mu i) (px nu i) - px rho i
      omega
  · omega
  · omega
theorem Sq.prt {rho mu nu : List Int} {c : Int} (s : Sq rho mu nu c) {n : Nat} (hn : max mu.length nu.length ≤ n) : Sh (lrule rho mu nu c n) ∧ ∀ i, px (lrule rho mu nu c n) i = gro rho mu nu c i := by
  refine trim_sh_of (fun i => ?_) (fun i => Int.le_trans (s.m.nonneg i) (s.bounds i).1) fun i => Int.le_trans (s.bounds i).2.2.1 (s.bounds i).1
  rw [px_ofN]
  split
  · rfl
  · obtain ⟨j, rfl⟩ : ∃ j, i = j + 1 := ⟨i - 1, by omega⟩
    exact (s.zero (by omega)).symm
theorem Sq.eq {rho mu nu : List Int} {c : Int} (s : Sq rho mu nu c) {n : Nat} (hn : max mu.length nu.length ≤ n) : lrule rho mu nu c n = grow rho mu nu c := by
  obtain ⟨a, b⟩ := s.prt hn
  obtain ⟨d, e⟩ := s.prt (Nat.le_refl _)
  exact Sh.ext a d fun i => (b i).trans (e i).symm
theorem Sq.px {rho mu nu : List Int} {c : Int} (s : Sq rho mu nu c) (i : Nat) : px (grow rho mu nu c) i = gro rho mu nu c i := (s.prt (Nat.le_refl _)).2 i
theorem Sq.sh {rho mu nu : List Int} {c : Int} (s : Sq rho mu nu c) : Sh (grow rho mu nu c) := (s.prt (Nat.le_refl _)).1
theorem Sq.overM {rho mu nu : List Int} {c : Int} (s : Sq rho mu nu c) : Strip (grow rho mu nu c) mu := fun i => by
  rw [s.px, s.px]
  exact ⟨(s.bounds i).1, (s.bounds i).2.2.1⟩
theorem Sq.overN {rho mu nu : List Int} {c : Int} (s : Sq rho mu nu c) : Strip (grow rho mu nu c) nu := fun i => by
  rw [s.px, s.px]
  exact ⟨(s.bounds i).2.1, (s.bounds i).2.2.2⟩
theorem grow_len {rho mu nu : List Int} {c : Int} : (grow rho mu nu c).length ≤ max mu.length nu.length + 1 := by
  have := trim_len (ofN (max mu.length nu.length + 1) (gro rho mu nu c))
  rw [ofN_len] at this
  exact this
/-- the number of parts grows by at most one from each neighbour -/
theorem Sq.len {rho mu nu : List Int} {c : Int} (s : Sq rho mu nu c) : (grow rho mu nu c).length ≤ min mu.length nu.length + 1 := by
  have a := (Strip.len s.overM s.sh s.m).2
  have b := (Strip.len s.overN s.sh s.n).2
  omega
/-! ### the corners of a board -/
/-- the row of corners below a row -/
def rowB (above : List (List Int)) : List Int → List (List Int) → List (List Int)
  | [], acc => acc
  | c :: cs, acc => rowB above cs (acc ++ [grow (above.getD (acc.length - 1) []) (above.getD acc.length []) (acc.getD (acc.length - 1) []) c])
def rowBelow (above : List (List Int)) (cs : List Int) : List (List Int) := rowB above cs [[]]
def cornersB : List (List Int) → List (List Int) → List (List (List Int))
  | _, [] => []
  | above, r :: rs => rowBelow above r :: cornersB (rowBelow above r) rs
def corners (n : Nat) (board : List (List Int)) : List (List (List Int)) := List.replicate (n + 1) [] :: cornersB (List.replicate (n + 1) []) board
/-- a row of corners: a chain of shapes -/
structure RowOk (n : Nat) (r : List (List Int)) : Prop where
  len : r.length = n + 1
  fst : r.getD 0 [] = []
  sh : ∀ j, Sh (r.getD j []) ∧ (r.getD j []).length ≤ j
  st : ∀ j, j + 1 < r.length → Strip (r.getD (j + 1) []) (r.getD j [])
/-- two rows, one below the other, up to a column -/
structure Below (above r : List (List Int)) : Prop where
  pos : 0 < r.length
  fst : r.getD 0 [] = []
  sh : ∀ j, Sh (r.getD j []) ∧ (r.getD j []).length ≤ j
  st : ∀ j, j + 1 < r.length → Strip (r.getD (j + 1) []) (r.getD j [])
  dn : ∀ j, j < r.length → Strip (r.getD j []) (above.getD j [])
theorem getD_snoc {α : Type} (r : List α) (x d : α) (j : Nat) : (r ++ [x]).getD j d = if j < r.length then r.getD j d else if j = r.length then x else d := by
  rw [List.getD_eq_getElem?_getD, List.getD_eq_getElem?_getD]
  by_cases h : j < r.length
  · rw [if_pos h, List.getElem?_append_left h]
  · rw [if_neg h, List.getElem?_append_right (by omega)]
    by_cases e : j = r.length
    · rw [if_pos e, e, Nat.sub_self]
      rfl
    · rw [if_neg e]
      obtain ⟨k, hk⟩ : ∃ k, j - r.length = k + 1 := ⟨j - r.length - 1, by omega⟩
      rw [hk]
      rfl
theorem Below.sq {n : Nat} {above r : List (List Int)} {c : Int} (ha : RowOk n above) (h : Below above r) (hl : r.length ≤ n) (hc : 0 ≤ c) : Sq (above.getD (r.length - 1) []) (above.getD r.length []) (r.getD (r.length - 1) []) c := by
  have hp := h.pos
  have h1 := ha.st (r.length - 1) (by rw [ha.len]; omega)
  rw [show r.length - 1 + 1 = r.length by omega] at h1
  exact ⟨(ha.sh _).1, (ha.sh _).1, (h.sh _).1, h1, h.dn _ (by omega), hc⟩
theorem Below.snoc {n : Nat} {above r : List (List Int)} {c : Int} (ha : RowOk n above) (h : Below above r) (hl : r.length ≤ n) (hc : 0 ≤ c) :
    Below above (r ++ [grow (above.getD (r.length - 1) []) (above.getD r.length []) (r.getD (r.length - 1) []) c]) := by
  have s := h.sq ha hl hc
  have hp := h.pos
  refine ⟨by rw [List.length_append]; omega, ?_, fun j => ?_, fun j hj => ?_, fun j hj => ?_⟩
  · rw [getD_snoc, if_pos hp]
    exact h.fst
  · rw [getD_snoc]
    split
    · exact h.sh j
    · split
      · rename_i e
        refine ⟨s.sh, ?_⟩
        have := s.len
        have := (ha.sh r.length).2
        have := (h.sh (r.length - 1)).2
        omega
      · exact ⟨Sh.nil, Nat.zero_le _⟩
  · rw [List.length_append] at hj
    simp only [List.length_cons, List.length_nil] at hj
    rw [getD_snoc, getD_snoc]
    by_cases e : j + 1 < r.length
    · rw [if_pos e, if_pos (by omega)]
      exact h.st j e
    · have e2 : j + 1 = r.length := by omega
      rw [if_neg e, if_pos e2, if_pos (by omega), show j = r.length - 1 by omega]
      exact s.overN
  · rw [List.length_append] at hj
    simp only [List.length_cons, List.length_nil] at hj
    rw [getD_snoc]
    by_cases e : j < r.length
    · rw [if_pos e]
      exact h.dn j e
    · have e2 : j = r.length := by omega
      rw [if_neg e, if_pos e2, e2]
      exact s.overM
theorem Below.start {n : Nat} {above : List (List Int)} (ha : RowOk n above) : Below above [[]] := by
  refine ⟨Nat.zero_lt_one, rfl, fun j => ?_, fun j hj => absurd hj (by simp), fun j hj => ?_⟩
  · cases j with
    | zero => exact ⟨Sh.nil, Nat.le_refl _⟩
    | succ j => exact ⟨Sh.nil, Nat.zero_le _⟩
  · have e : j = 0 := by simpa using hj
    subst e
    rw [ha.fst]
    exact Strip.refl Sh.nil
theorem rowB_ok {n : Nat} {above : List (List Int)} (ha : RowOk n above) : ∀ (cs : List Int) (acc : List (List Int)), (∀ c ∈ cs, 0 ≤ c) → acc.length + cs.length ≤ n + 1 → Below above acc → Below above (rowB above cs acc) ∧ (rowB above cs acc).length = acc.length + cs.length
  | [], acc, _, _, h => ⟨h, rfl⟩
  | c :: cs, acc, hc, hl, h => by
    rw [List.length_cons] at hl
    obtain ⟨a, b⟩ := rowB_ok ha cs (acc ++ [grow (above.getD (acc.length - 1) []) (above.getD acc.length []) (acc.getD (acc.length - 1) []) c]) (fun x hx => hc x (List.mem_cons_of_mem _ hx))
      (by rw [List.length_append]; simp only [List.length_cons, List.length_nil]; omega) (h.snoc ha (by omega) (hc c List.mem_cons_self))
    refine ⟨a, b.trans ?_⟩
    rw [List.length_append, List.length_cons]
    simp only [List.length_cons, List.length_nil]
    omega
theorem rowBelow_ok {n : Nat} {above : List (List Int)} {cs : List Int} (ha : RowOk n above) (hc : ∀ c ∈ cs, 0 ≤ c) (hl : cs.length = n) : RowOk n (rowBelow above cs) ∧ Below above (rowBelow above cs) := by
  obtain ⟨a, b⟩ := rowB_ok ha cs [[]] hc (by simp only [List.length_cons, List.length_nil]; omega) (Below.start ha)
  refine ⟨⟨by rw [show rowBelow above cs = rowB above cs [[]] from rfl, b]; simp only [List.length_cons, List.length_nil]; omega, a.fst, a.sh, a.st⟩, a⟩
theorem row0_ok (n : Nat) : RowOk n (List.replicate (n + 1) []) := by
  have e : ∀ j, (List.replicate (n + 1) ([] : List Int)).getD j [] = [] := fun j => by
    rw [List.getD_eq_getElem?_getD, List.getElem?_replicate]
    split <;> rfl
  refine ⟨List.length_replicate, e 0, fun j => ?_, fun j _ => ?_⟩
  · rw [e]
    exact ⟨Sh.nil, Nat.zero_le _⟩
  · rw [e, e]
    exact Strip.refl Sh.nil
/-! ### the rule backwards -/
def shr (mu nu sh : List Int) (i : Nat) : Int := max (px mu (i + 1)) (px nu (i + 1)) + min (px mu i) (px nu i) - px sh (i + 1)
def shrN (mu nu sh : List Int) (n : Nat) : List Int := trim (ofN n (shr mu nu sh))
def shrink (mu nu sh : List Int) : List Int := shrN mu nu sh (min mu.length nu.length)
def cnt (mu nu sh : List Int) : Int := px sh 0 - max (px mu 0) (px nu 0)
structure Bq (mu nu sh : List Int) : Prop where
  m : Sh mu
  n : Sh nu
  s : Sh sh
  a : Strip sh mu
  b : Strip sh nu
theorem Bq.bounds {mu nu sh : List Int} (q : Bq mu nu sh) (i : Nat) : shr mu nu sh i ≤ px mu i ∧ shr mu nu sh i ≤ px nu i ∧ px mu (i + 1) ≤ shr mu nu sh i ∧ px nu (i + 1) ≤ shr mu nu sh i ∧ 0 ≤ shr mu nu sh i := by
  have a := q.a i
  have b := q.b i
  have a1 := q.a (i + 1)
  have b1 := q.b (i + 1)
  have h := q.m.nonneg (i + 1)
  unfold shr
  refine ⟨?_, ?_, ?_, ?_, ?_⟩ <;> omega
theorem Bq.zero {mu nu sh : List Int} (q : Bq mu nu sh) {i : Nat} (h : min mu.length nu.length ≤ i) : shr mu nu sh i = 0 := by
  have b := q.bounds i
  have e : px mu i = 0 ∨ px nu i = 0 := by
    by_cases hm : mu.length ≤ i
    · exact .inl (px_ge hm)
    · exact .inr (px_ge (by omega))
  rcases e with e | e <;> omega
theorem Bq.prt {mu nu sh : List Int} (q : Bq mu nu sh) {n : Nat} (hn : min mu.length nu.length ≤ n) : Sh (shrN mu nu sh n) ∧ ∀ i, px (shrN mu nu sh n) i = shr mu nu sh i := by
  refine trim_sh_of (fun i => ?_) (fun i => (q.bounds i).2.2.2.2) fun i => Int.le_trans (q.bounds (i + 1)).1 (q.bounds i).2.2.1
  rw [px_ofN]
  split
  · rfl
  · exact (q.zero (by omega)).symm
theorem Bq.eq {mu nu sh : List Int} (q : Bq mu nu sh) {n : Nat} (hn : min mu.length nu.length ≤ n) : shrN mu nu sh n = shrink mu nu sh := by
  obtain ⟨a, b⟩ := q.prt hn
  obtain ⟨d, e⟩ := q.prt (Nat.le_refl _)
  exact Sh.ext a d fun i => (b i).trans (e i).symm
theorem Bq.px {mu nu sh : List Int} (q : Bq mu nu sh) (i : Nat) : px (shrink mu nu sh) i = shr mu nu sh i := (q.prt (Nat.le_refl _)).2 i
theorem Bq.sh {mu nu sh : List Int} (q : Bq mu nu sh) : Sh (shrink mu nu sh) := (q.prt (Nat.le_refl _)).1
theorem Bq.sq {mu nu sh : List Int} (q : Bq mu nu sh) : Sq (shrink mu nu sh) mu nu (cnt mu nu sh) := by
  refine ⟨q.sh, q.m, q.n, fun i => ?_, fun i => ?_, ?_⟩
  · rw [q.px]
    exact ⟨(q.bounds i).1, (q.bounds i).2.2.1⟩
  · rw [q.px]
    exact ⟨(q.bounds i).2.1, (q.bounds i).2.2.2.1⟩
  · have a := (q.a 0).1
    have b := (q.b 0).1
    unfold cnt
    omega
theorem Sq.bq {rho mu nu : List Int} {c : Int} (s : Sq rho mu nu c) : Bq mu nu (grow rho mu nu c) := ⟨s.m, s.n, s.sh, s.overM, s.overN⟩
theorem Bq.back {mu nu sh : List Int} (q : Bq mu nu sh) : grow (shrink mu nu sh) mu nu (cnt mu nu sh) = sh := by
  refine Sh.ext q.sq.sh q.s fun i => ?_
  rw [q.sq.px]
  cases i with
  | zero =>
    show max (LW.px mu 0) (LW.px nu 0) + cnt mu nu sh = _
    unfold cnt
    omega
  | succ i =>
    show max (LW.px mu (i + 1)) (LW.px nu (i + 1)) + min (LW.px mu i) (LW.px nu i) - LW.px (shrink mu nu sh) i = _
    rw [q.px]
    unfold shr
    omega
theorem Sq.back {rho mu nu : List Int} {c : Int} (s : Sq rho mu nu c) : shrink mu nu (grow rho mu nu c) = rho ∧ cnt mu nu (grow rho mu nu c) = c := by
  constructor
  · refine Sh.ext s.bq.sh s.r fun i => ?_
    rw [s.bq.px]
    unfold shr
    rw [s.px]
    show _ - (max (LW.px mu (i + 1)) (LW.px nu (i + 1)) + min (LW.px mu i) (LW.px nu i) - LW.px rho i) = _
    omega
  · unfold cnt
    rw [s.px]
    show max (LW.px mu 0) (LW.px nu 0) + c - _ = c
    omega
theorem Sq.swap {rho mu nu : List Int} {c : Int} (s : Sq rho mu nu c) : Sq rho nu mu c := ⟨s.r, s.n, s.m, s.b, s.a, s.c⟩
theorem Sq.comm {rho mu nu : List Int} {c : Int} (s : Sq rho mu nu c) : grow rho nu mu c = grow rho mu nu c := by
  refine Sh.ext s.swap.sh s.sh fun i => ?_
  rw [s.swap.px, s.px]
  cases i with
  | zero =>
    show max (LW.px nu 0) (LW.px mu 0) + c = max (LW.px mu 0) (LW.px nu 0) + c
    omega
  | succ i =>
    show max (LW.px nu (i + 1)) (LW.px mu (i + 1)) + min (LW.px nu i) (LW.px mu i) - LW.px rho i = max (LW.px mu (i + 1)) (LW.px nu (i + 1)) + min (LW.px mu i) (LW.px nu i) - LW.px rho i
    omega
theorem grow_same {rho nu : List Int} (r : Sh rho) (n : Sh nu) (b : Strip nu rho) : grow rho rho nu 0 = nu := by
  have s : Sq rho rho nu 0 := ⟨r, r, n, Strip.refl r, b, Int.le_refl _⟩
  refine Sh.ext s.sh n fun i => ?_
  rw [s.px]
  cases i with
  | zero =>
    have := b 0
    show max (LW.px rho 0) (LW.px nu 0) + 0 = _
    omega
  | succ i =>
    have h1 := b i
    have h2 := b (i + 1)
    show max (LW.px rho (i + 1)) (LW.px nu (i + 1)) + min (LW.px rho i) (LW.px nu i) - LW.px rho i = _
    omega
theorem px_drop1 (ns : List Int) (i : Nat) : px (ns.drop 1) i = px ns (i + 1) := by
  cases ns with
  | nil => rfl
  | cons v r => rfl
theorem Sh.drop1 {ns : List Int} (h : Sh ns) : Sh (ns.drop 1) := by
  cases ns with
  | nil => exact h
  | cons v r => exact h.tail
theorem Sq.more {rho mu nu : List Int} {c d : Int} (s : Sq rho mu nu c) (t : Sq rho mu nu d) : (grow rho mu nu d).drop 1 = (grow rho mu nu c).drop 1 := by
  refine Sh.ext t.sh.drop1 s.sh.drop1 fun i => ?_
  rw [px_drop1, px_drop1, s.px, t.px]
  rfl
theorem Bq.swap {mu nu sh : List Int} (q : Bq mu nu sh) : Bq nu mu sh := ⟨q.n, q.m, q.s, q.b, q.a⟩
theorem Bq.comm {mu nu sh : List Int} (q : Bq mu nu sh) : shrink nu mu sh = shrink mu nu sh ∧ cnt nu mu sh = cnt mu nu sh := by
  constructor
  · refine Sh.ext q.swap.sh q.sh fun i => ?_
    rw [q.swap.px, q.px]
    unfold shr
    omega
  · unfold cnt
    omega
/-! ### boards -/
structure Brd (n : Nat) (b : List (List Int)) : Prop where
  n0 : 0 < n
  b0 : 0 < b.length
  row : ∀ r ∈ b, r.length = n ∧ ∀ v ∈ r, 0 ≤ v ∧ v ≤ 1000
theorem rowB_snoc (above : List (List Int)) (c : Int) : ∀ (cs : List Int) (acc : List (List Int)), rowB above (cs ++ [c]) acc = rowB above cs acc ++ [grow (above.getD ((rowB above cs acc).length - 1) []) (above.getD (rowB above cs acc).length []) ((rowB above cs acc).getD ((rowB above cs acc).length - 1) []) c]
  | [], acc => rfl
  | d :: cs, acc => rowB_snoc above c cs _
theorem mS_dats (cs : List (List Int)) : Dats (cs.map fun c => SD.dat (tI c)) (cs.map fun c => tI c) := by
  have e : (cs.map fun c => SD.dat (tI c)) = (cs.map fun c => tI c).map SD.dat := by
    rw [List.map_map]
    rfl
  rw [e]
  exact Dats.map _
def lastB : List (List Int) → List (List Int) → List (List Int)
  | above, [] => above
  | above, r :: rs => lastB (rowBelow above r) rs
theorem lastB_snoc (r : List Int) : ∀ (above rs : List (List Int)), lastB above (rs ++ [r]) = rowBelow (lastB above rs) r
  | _, [] => rfl
  | above, s :: rs => lastB_snoc r (rowBelow above s) rs
theorem cornersB_snoc (r : List Int) : ∀ (above rs : List (List Int)), cornersB above (rs ++ [r]) = cornersB above rs ++ [rowBelow (lastB above rs) r]
  | _, [] => rfl
  | above, s :: rs => by
    show rowBelow above s :: cornersB (rowBelow above s) (rs ++ [r]) = rowBelow above s :: (cornersB (rowBelow above s) rs ++ _)
    rw [cornersB_snoc r (rowBelow above s) rs]
    rfl
theorem cornersB_len : ∀ (above rs : List (List Int)), (cornersB above rs).length = rs.length
  | _, [] => rfl
  | above, s :: rs => by
    show (cornersB (rowBelow above s) rs).length + 1 = rs.length + 1
    rw [cornersB_len]
theorem lastB_ok {n : Nat} : ∀ {above rs : List (List Int)}, RowOk n above → (∀ r ∈ rs, r.length = n ∧ ∀ v ∈ r, 0 ≤ v) → RowOk n (lastB above rs)
  | _, [], h, _ => h
  | above, s :: rs, h, hr => by
    have h1 := (rowBelow_ok h (hr s List.mem_cons_self).2 (hr s List.mem_cons_self).1).1
    show RowOk n (lastB (rowBelow above s) rs)
    exact lastB_ok h1 fun r hh => hr r (List.mem_cons_of_mem _ hh)
theorem cornersB_ok {n : Nat} : ∀ {above rs : List (List Int)}, RowOk n above → (∀ r ∈ rs, r.length = n ∧ ∀ v ∈ r, 0 ≤ v) → ∀ r ∈ cornersB above rs, RowOk n r
  | _, [], _, _, _, h => absurd h List.not_mem_nil
  | above, s :: rs, h, hr, r, hm => by
    have h1 := (rowBelow_ok h (hr s List.mem_cons_self).2 (hr s List.mem_cons_self).1).1
    rcases List.mem_cons.mp hm with rfl | hm
    · exact h1
    · exact cornersB_ok h1 (fun r hh => hr r (List.mem_cons_of_mem _ hh)) r hm
theorem Brd.rows {n : Nat} {b : List (List Int)} (h : Brd n b) : ∀ r ∈ b, r.length = n ∧ ∀ v ∈ r, 0 ≤ v := fun r hr => ⟨(h.row r hr).1, fun v hv => ((h.row r hr).2 v hv).1⟩
abbrev R0 (n : Nat) : List (List Int) := List.replicate (n + 1) []
theorem rep_flat (n : Nat) : (List.replicate n [PyData.tuple []]).flatten = (List.replicate n ([] : List Int)).map fun c => tI c := by
  induction n with
  | zero => rfl
  | succ n ih =>
    rw [List.replicate_succ, List.flatten_cons, ih, List.replicate_succ]
    rfl
theorem map_dat (cs : List (List Int)) : (cs.map fun c => tI c).map SD.dat = cs.map fun c => .dat (tI c) := by
  rw [List.map_map]
  rfl
/-- the last row, of an owned list of rows whose first is owned too -/
theorem last_at {n : Nat} {p r0 : Addr} {O : Own} (bs : List (List Int)) :
    ∃ z, atI (SD.ad r0 :: (cornersB (R0 n) bs).map fun r => SD.dat (lS r)) (-1) = some z ∧ Lst ((p, OD.lst (SD.ad r0 :: (cornersB (R0 n) bs).map fun r => SD.dat (lS r))) :: (r0, OD.lst ((R0 n).map fun c => .dat (tI c))) :: O) z ((lastB (R0 n) bs).map fun c => tI c) := by
  rcases List.eq_nil_or_concat bs with rfl | ⟨cs, r, rfl⟩
  · exact ⟨_, at_snoc [] _, .o (List.mem_cons_of_mem _ List.mem_cons_self) (mS_dats _)⟩
  · rw [List.concat_eq_append, lastB_snoc, cornersB_snoc, List.map_append]
    exact ⟨_, at_snoc (SD.ad r0 :: (cornersB (R0 n) cs).map fun r => SD.dat (lS r)) (.dat (lS (rowBelow (lastB (R0 n) cs) r))), .d⟩
theorem psum_add (f g : Nat → Int) : ∀ n, psum (fun i => f i + g i) n = psum f n + psum g n
  | 0 => rfl
  | n + 1 => by
    show psum (fun i => f i + g i) n + (f n + g n) = (psum f n + f n) + (psum g n + g n)
    rw [psum_add f g n]
    omega
theorem psum_gro (rho mu nu : List Int) (c : Int) : ∀ n, psum (gro rho mu nu c) (n + 1) = c + psum (px mu) n + psum (px nu) n - psum (px rho) n + max (px mu n) (px nu n)
  | 0 => by
    show 0 + (max (px mu 0) (px nu 0) + c) = c + 0 + 0 - 0 + max (px mu 0) (px nu 0)
    omega
  | n + 1 => by
    show psum (gro rho mu nu c) (n + 1) + (max (px mu (n + 1)) (px nu (n + 1)) + min (px mu n) (px nu n) - px rho n) = c + (psum (px mu) n + px mu n) + (psum (px nu) n + px nu n) - (psum (px rho) n + px rho n) + max (px mu (n + 1)) (px nu (n + 1))
    rw [psum_gro rho mu nu c n]
    omega
theorem Sq.sum {rho mu nu : List Int} {c : Int} (s : Sq rho mu nu c) : (grow rho mu nu c).sum = mu.sum + nu.sum - rho.sum + c := by
  have hl := s.len
  rw [sum_px (n := mu.length + nu.length + rho.length + 1) (by omega), sum_px (ns := mu) (n := mu.length + nu.length + rho.length) (by omega), sum_px (ns := nu) (n := mu.length + nu.length + rho.length) (by omega), sum_px (ns := rho) (n := mu.length + nu.length + rho.length) (by omega)]
  rw [psum_congr (f := LW.px (grow rho mu nu c)) (g := gro rho mu nu c) (fun i => s.px i), psum_gro, px_ge (ns := mu) (by omega), px_ge (ns := nu) (by omega)]
  omega
/-! ### the shapes at the corners, by row and column -/
def am (b : List (List Int)) (i j : Nat) : Int := (b.getD i []).getD j 0
def cor (b : List (List Int)) : Nat → Nat → List Int
  | 0, _ => []
  | _ + 1, 0 => []
  | i + 1, j + 1 => grow (cor b i j) (cor b i (j + 1)) (cor b (i + 1) j) (am b i j)
theorem cor_0 (b : List (List Int)) (j : Nat) : cor b 0 j = [] := by
  unfold cor
  rfl
theorem cor_s0 (b : List (List Int)) (i : Nat) : cor b i 0 = [] := by
  cases i with
  | zero => exact cor_0 b 0
  | succ i =>
    unfold cor
    rfl
theorem cor_ss (b : List (List Int)) (i j : Nat) : cor b (i + 1) (j + 1) = grow (cor b i j) (cor b i (j + 1)) (cor b (i + 1) j) (am b i j) := by
  conv => lhs; unfold cor
structure Am (b : List (List Int)) : Prop where
  nn : ∀ i j, 0 ≤ am b i j
theorem getD_at {α : Type} {xs : List α} {i : Nat} (h : i < xs.length) (d : α) : xs.getD i d = xs[i] := by
  rw [List.getD_eq_getElem?_getD, List.getElem?_eq_getElem h]
  rfl
theorem getD_no {α : Type} {xs : List α} {i : Nat} (h : xs.length ≤ i) (d : α) : xs.getD i d = d := by
  rw [List.getD_eq_getElem?_getD, List.getElem?_eq_none h]
  rfl
theorem Brd.am {n : Nat} {b : List (List Int)} (h : Brd n b) : Am b := ⟨fun i j => by
  show 0 ≤ (b.getD i []).getD j 0
  by_cases hi : i < b.length
  · rw [getD_at hi]
    by_cases hj : j < b[i].length
    · rw [getD_at hj]
      exact ((h.row _ (List.getElem_mem hi)).2 _ (List.getElem_mem hj)).1
    · have e : b[i].getD j 0 = 0 := getD_no (by omega) _
      rw [e]
      exact Int.le_refl 0
  · have e : b.getD i [] = [] := getD_no (by omega) _
    rw [e]
    exact Int.le_refl 0⟩
/-- every corner is a shape, a strip over its neighbours to the left and above -/
theorem cor_ok {b : List (List Int)} (h : Am b) : ∀ i j, Sh (cor b i j) ∧ (i = 0 ∨ Strip (cor b i j) (cor b (i - 1) j)) ∧ (j = 0 ∨ Strip (cor b i j) (cor b i (j - 1)))
  | 0, j => by
    rw [cor_0]
    refine ⟨Sh.nil, .inl rfl, ?_⟩
    rw [cor_0]
    exact .inr (Strip.refl Sh.nil)
  | i + 1, 0 => by
    rw [cor_s0]
    refine ⟨Sh.nil, .inr ?_, .inl rfl⟩
    rw [show i + 1 - 1 = i by omega, cor_s0]
    exact Strip.refl Sh.nil
  | i + 1, j + 1 => by
    obtain ⟨s0, _, _⟩ := cor_ok h i j
    obtain ⟨s1, _, c1⟩ := cor_ok h i (j + 1)
    obtain ⟨s2, r2, _⟩ := cor_ok h (i + 1) j
    have c1' : Strip (cor b i (j + 1)) (cor b i j) := by
      rcases c1 with z | z
      · exact absurd z (by omega)
      · exact z
    have r2' : Strip (cor b (i + 1) j) (cor b i j) := by
      rcases r2 with z | z
      · exact absurd z (by omega)
      · exact z
    have q : Sq (cor b i j) (cor b i (j + 1)) (cor b (i + 1) j) (am b i j) := ⟨s0, s1, s2, c1', r2', h.nn i j⟩
    rw [cor_ss]
    exact ⟨q.sh, .inr q.overM, .inr q.overN⟩
theorem cor_sq {b : List (List Int)} (h : Am b) (i j : Nat) : Sq (cor b i j) (cor b i (j + 1)) (cor b (i + 1) j) (am b i j) := by
  obtain ⟨s0, _, _⟩ := cor_ok h i j
  obtain ⟨s1, _, c1⟩ := cor_ok h i (j + 1)
  obtain ⟨s2, r2, _⟩ := cor_ok h (i + 1) j
  refine ⟨s0, s1, s2, ?_, ?_, h.nn i j⟩
  · rcases c1 with z | z
    · exact absurd z (by omega)
    · exact z
  · rcases r2 with z | z
    · exact absurd z (by omega)
    · exact z
/-! sizes -/
/-- the sum of the board above and to the left -/
def bsum (b : List (List Int)) (i j : Nat) : Int := psum (fun r => psum (fun c => am b r c) j) i
theorem cor_sum {b : List (List Int)} (h : Am b) : ∀ i j, (cor b i j).sum = bsum b i j
  | 0, j => by
    rw [cor_0]
    rfl
  | i + 1, 0 => by
    rw [cor_s0]
    show (0 : Int) = psum (fun r => psum (fun c => am b r c) 0) (i + 1)
    exact (psum_zero (i + 1)).symm
  | i + 1, j + 1 => by
    have s := (cor_sq h i j).sum
    rw [← cor_ss, cor_sum h i (j + 1), cor_sum h (i + 1) j, cor_sum h i j] at s
    rw [s]
    show (psum _ i) + (psum _ i + psum (fun c => am b i c) j) - psum _ i + am b i j = psum _ i + (psum (fun c => am b i c) j + am b i j)
    show bsum b i (j + 1) + (bsum b i j + psum (fun c => am b i c) j) - bsum b i j + am b i j = bsum b i (j + 1) + (psum (fun c => am b i c) j + am b i j)
    omega
/-! the turned board -/
theorem cor_turn {b t : List (List Int)} (h : Am b) (e : ∀ i j, am t i j = am b j i) : ∀ i j, cor t i j = cor b j i
  | 0, j => by rw [cor_0, cor_s0]
  | i + 1, 0 => by rw [cor_0, cor_s0]
  | i + 1, j + 1 => by
    rw [cor_ss, cor_ss, cor_turn h e i j, cor_turn h e i (j + 1), cor_turn h e (i + 1) j, e]
    exact (cor_sq h j i).comm
/-! boards that agree up to a corner -/
theorem cor_part {b t : List (List Int)} : ∀ i j, (∀ r c, r < i → c < j → am t r c = am b r c) → cor t i j = cor b i j
  | 0, j, _ => by rw [cor_0, cor_0]
  | i + 1, 0, _ => by rw [cor_s0, cor_s0]
  | i + 1, j + 1, e => by
    rw [cor_ss, cor_ss, cor_part i j fun r c hr hc => e r c (by omega) (by omega), cor_part i (j + 1) fun r c hr hc => e r c (by omega) hc, cor_part (i + 1) j fun r c hr hc => e r c hr (by omega), e i j (by omega) (by omega)]
/-! a row of zeros, put in before row z -/
theorem cor_zero {b t : List (List Int)} (h : Am b) {z : Nat} (e1 : ∀ r c, r < z → am t r c = am b r c) (e2 : ∀ c, am t z c = 0) (e3 : ∀ r c, z ≤ r → am t (r + 1) c = am b r c) :
    ∀ i j, cor t i j = if i ≤ z then cor b i j else cor b (i - 1) j
  | 0, j => by
    rw [if_pos (Nat.zero_le _), cor_0, cor_0]
  | i + 1, 0 => by
    rw [cor_s0, cor_s0, cor_s0]
    split <;> rfl
  | i + 1, j + 1 => by
    rw [cor_ss, cor_zero h e1 e2 e3 i j, cor_zero h e1 e2 e3 i (j + 1), cor_zero h e1 e2 e3 (i + 1) j]
    by_cases a : i + 1 ≤ z
    · rw [if_pos (by omega), if_pos (by omega), if_pos a, if_pos a, e1 i j (by omega), ← cor_ss]
    · rw [if_neg a, if_neg a, show i + 1 - 1 = i by omega]
      by_cases c : i = z
      · subst c
        rw [if_pos (Nat.le_refl _), if_pos (Nat.le_refl _), e2]
        have q := cor_sq h i j
        have q2 : Sq (cor b i j) (cor b i j) (cor b i (j + 1)) 0 := ⟨q.r, q.r, q.m, Strip.refl q.r, q.a, Int.le_refl _⟩
        rw [q2.comm]
        exact grow_same q.r q.m q.a
      · obtain ⟨k, rfl⟩ : ∃ k, i = k + 1 := ⟨i - 1, by omega⟩
        rw [if_neg (by omega), if_neg (by omega), show k + 1 - 1 = k by omega, e3 k j (by omega), ← cor_ss]
/-! doubled -/
def dbl (ns : List Int) : List Int := ns.map fun v => 2 * v
theorem px_dbl (ns : List Int) (i : Nat) : px (dbl ns) i = 2 * px ns i := by
  unfold dbl
  by_cases h : i < ns.length
  · rw [px_lt (by rw [List.length_map]; exact h), px_lt h, List.getElem_map]
  · rw [px_ge (by rw [List.length_map]; omega), px_ge (by omega)]
    rfl
theorem Sh.dbl {ns : List Int} (h : Sh ns) : Sh (dbl ns) := by
  refine ⟨fun v hv => ?_, ?_⟩
  · obtain ⟨w, hw, rfl⟩ := List.mem_map.mp hv
    have := h.pos w hw
    show 0 < 2 * w
    omega
  · unfold LW.dbl
    rw [List.pairwise_map]
    exact h.desc.imp fun hab => by omega
theorem Strip.dbl {u l : List Int} (h : Strip u l) : Strip (dbl u) (dbl l) := fun i => by
  have := h i
  rw [px_dbl, px_dbl, px_dbl]
  omega
theorem Sq.dbl {rho mu nu : List Int} {c : Int} (s : Sq rho mu nu c) : grow (dbl rho) (dbl mu) (dbl nu) (2 * c) = dbl (grow rho mu nu c) := by
  have t : Sq (LW.dbl rho) (LW.dbl mu) (LW.dbl nu) (2 * c) := ⟨s.r.dbl, s.m.dbl, s.n.dbl, s.a.dbl, s.b.dbl, by have := s.c; omega⟩
  refine Sh.ext t.sh s.sh.dbl fun i => ?_
  rw [t.px, px_dbl, s.px]
  cases i with
  | zero =>
    show max (LW.px (LW.dbl mu) 0) (LW.px (LW.dbl nu) 0) + 2 * c = 2 * (max (LW.px mu 0) (LW.px nu 0) + c)
    rw [px_dbl, px_dbl]
    omega
  | succ i =>
    show max (LW.px (LW.dbl mu) (i + 1)) (LW.px (LW.dbl nu) (i + 1)) + min (LW.px (LW.dbl mu) i) (LW.px (LW.dbl nu) i) - LW.px (LW.dbl rho) i = 2 * (max (LW.px mu (i + 1)) (LW.px nu (i + 1)) + min (LW.px mu i) (LW.px nu i) - LW.px rho i)
    rw [px_dbl, px_dbl, px_dbl, px_dbl, px_dbl]
    omega
theorem cor_dbl {b t : List (List Int)} (h : Am b) (e : ∀ i j, am t i j = 2 * am b i j) : ∀ i j, cor t i j = dbl (cor b i j)
  | 0, j => by
    rw [cor_0, cor_0]
    rfl
  | i + 1, 0 => by
    rw [cor_s0, cor_s0]
    rfl
  | i + 1, j + 1 => by
    rw [cor_ss, cor_ss, cor_dbl h e i j, cor_dbl h e i (j + 1), cor_dbl h e (i + 1) j, e]
    exact (cor_sq h i j).dbl
/-! the rows of corners, by the corners -/
def corRow (b : List (List Int)) (n i : Nat) : List (List Int) := (List.range (n + 1)).map fun j => cor b i j
def corAll (b : List (List Int)) (n m : Nat) : List (List (List Int)) := (List.range (m + 1)).map fun i => corRow b n i
theorem corRow_get (b : List (List Int)) (n i j : Nat) : (corRow b n i).getD j [] = if j < n + 1 then cor b i j else [] := by
  unfold corRow
  rw [List.getD_eq_getElem?_getD, List.getElem?_map]
  by_cases h : j < n + 1
  · rw [if_pos h, List.getElem?_range h]
    rfl
  · rw [if_neg h, List.getElem?_eq_none (by rw [List.length_range]; omega)]
    rfl
theorem corRow_0 (b : List (List Int)) (n : Nat) : corRow b n 0 = R0 n := by
  unfold corRow
  rw [show (fun j => cor b 0 j) = fun _ => ([] : List Int) from funext fun j => cor_0 b j, List.map_const', List.length_range]
theorem range_map_succ {α : Type} (f : Nat → α) (n : Nat) : (List.range (n + 1)).map f = (List.range n).map f ++ [f n] := by
  rw [List.range_succ, List.map_append]
  rfl
/-- one row below another -/
theorem rowB_cor {b : List (List Int)} {n i : Nat} {r : List Int} (hr : ∀ j, r.getD j 0 = am b i j) (hl : r.length = n) :
    ∀ k, k ≤ n → rowB (corRow b n i) (r.take k) [[]] = (List.range (k + 1)).map fun j => cor b (i + 1) j
  | 0, _ => by
    show [[]] = [cor b (i + 1) 0]
    rw [cor_s0]
  | k + 1, hk => by
    have hv : r[k]? = some (am b i k) := by
      rw [← hr k, getD_at (by omega)]
      exact List.getElem?_eq_getElem _
    have ih := rowB_cor hr hl k (by omega)
    rw [take_next hv, rowB_snoc, ih, range_map_succ (fun j => cor b (i + 1) j) (k + 1), cor_ss]
    have hlen : ((List.range (k + 1)).map fun j => cor b (i + 1) j).length = k + 1 := by rw [List.length_map, List.length_range]
    rw [hlen, show k + 1 - 1 = k by omega, corRow_get, corRow_get, if_pos (by omega), if_pos (by omega)]
    have e : ((List.range (k + 1)).map fun j => cor b (i + 1) j).getD k [] = cor b (i + 1) k := by
      rw [getD_at (by rw [hlen]; omega), List.getElem_map, List.getElem_range]
    rw [e]
theorem rowBelow_cor {b : List (List Int)} {n i : Nat} {r : List Int} (hr : ∀ j, r.getD j 0 = am b i j) (hl : r.length = n) : rowBelow (corRow b n i) r = corRow b n (i + 1) := by
  have := rowB_cor (b := b) (n := n) (i := i) hr hl n (Nat.le_refl _)
  rw [← hl, List.take_length] at this
  rw [← hl]
  exact this
theorem lastB_cor {n : Nat} {b : List (List Int)} (hb : ∀ r ∈ b, r.length = n) : ∀ k, k ≤ b.length → lastB (R0 n) (b.take k) = corRow b n k ∧ R0 n :: cornersB (R0 n) (b.take k) = corAll b n k
  | 0, _ => by
    refine ⟨?_, ?_⟩
    · show R0 n = _
      rw [corRow_0]
    · show [R0 n] = [corRow b n 0]
      rw [corRow_0]
  | k + 1, hk => by
    obtain ⟨h1, h2⟩ := lastB_cor hb k (by omega)
    have hv : b[k]? = some b[k] := List.getElem?_eq_getElem (by omega)
    have e : rowBelow (corRow b n k) b[k] = corRow b n (k + 1) := rowBelow_cor (fun j => by
      have e0 : b.getD k [] = b[k] := getD_at (by omega) _
      show _ = (b.getD k []).getD j 0
      rw [e0]) (hb _ (List.getElem_mem (by omega)))
    rw [take_next hv, lastB_snoc, cornersB_snoc, h1, e]
    refine ⟨rfl, ?_⟩
    rw [← List.cons_append, h2]
    unfold corAll
    rw [range_map_succ _ (k + 1)]
/-- what shapes_of answers -/
theorem Brd.all {n : Nat} {b : List (List Int)} (h : Brd n b) : R0 n :: cornersB (R0 n) b = corAll b n b.length := by
  have := (lastB_cor (fun r hr => (h.row r hr).1) b.length (Nat.le_refl _)).2
  rw [List.take_length] at this
  exact this
theorem sum_take (r : List Int) : ∀ j, (r.take j).sum = psum (px r) j
  | 0 => rfl
  | j + 1 => by
    rw [List.take_add_one, List.sum_append, sum_take r j]
    show _ = psum (px r) j + px r j
    congr 1
    unfold px
    rw [List.getD_eq_getElem?_getD]
    cases r[j]? with
    | none => rfl
    | some v => simp
theorem at_nth {α : Type} {xs : List α} {x : α} {i : Int} (h0 : 0 ≤ i) (h : xs[i.toNat]? = some x) : atI xs i = some x := by
  obtain ⟨hl, _⟩ := List.getElem?_eq_some_iff.mp h
  obtain ⟨v, h1, h2, _⟩ := atI_in (xs := xs) h0 (by omega)
  rw [h1, ← h2, h]
theorem corAll_get (b : List (List Int)) (n m i : Nat) (h : i < m + 1) : ((corAll b n m).map fun r => lS r)[i]? = some (lS (corRow b n i)) := by
  unfold corAll
  rw [List.getElem?_map, List.getElem?_map, List.getElem?_range h]
  rfl
theorem corAll_len (b : List (List Int)) (n m : Nat) : (corAll b n m).length = m + 1 := by
  unfold corAll
  rw [List.length_map, List.length_range]
theorem corRow_len (b : List (List Int)) (n i : Nat) : (corRow b n i).length = n + 1 := by
  unfold corRow
  rw [List.length_map, List.length_range]
/-! ### borders -/
def rights (rows : List (List (List Int))) : List (List Int) := rows.map fun r => r.getD (r.length - 1) []
def corCol (b : List (List Int)) (n m : Nat) : List (List Int) := (List.range (m + 1)).map fun i => cor b i n
theorem rights_all (b : List (List Int)) (n m : Nat) : rights (corAll b n m) = corCol b n m := by
  unfold rights corAll corCol
  rw [List.map_map]
  refine List.map_congr_left fun i _ => ?_
  show (corRow b n i).getD ((corRow b n i).length - 1) [] = cor b i n
  rw [corRow_len, corRow_get, if_pos (by omega), Nat.add_sub_cancel]
theorem bgen_chain {f : Nat → List Int} {n : Nat} (h0 : f 0 = []) (hs : ∀ j, Strip (f (j + 1)) (f j)) : chainB ((List.range (n + 1)).map f) = true := by
  have e : ∀ j, j < n + 1 → ((List.range (n + 1)).map f).getD j [] = f j := fun j hj => by
    rw [List.getD_eq_getElem?_getD, List.getElem?_map, List.getElem?_range hj]
    rfl
  refine chain_iff.mpr ⟨by rw [List.length_map, List.length_range]; omega, by rw [e 0 (by omega), h0], fun j hj => ?_⟩
  rw [List.length_map, List.length_range] at hj
  rw [e _ hj, e _ (by omega)]
  exact hs j
theorem corRow_chain {b : List (List Int)} (h : Am b) (n i : Nat) : chainB (corRow b n i) = true := bgen_chain (cor_s0 b i) fun j => by
  have := (cor_ok h i (j + 1)).2.2
  simpa using this
theorem corCol_chain {b : List (List Int)} (h : Am b) (n m : Nat) : chainB (corCol b n m) = true := bgen_chain (f := fun i => cor b i n) (cor_0 b n) fun i => by
  have := (cor_ok h (i + 1) n).2.1
  simpa using this
theorem corCol_len (b : List (List Int)) (n m : Nat) : (corCol b n m).length = m + 1 := by
  rw [corCol, List.length_map, List.length_range]
theorem corRow_last (b : List (List Int)) (n i : Nat) : (corRow b n i).getD ((corRow b n i).length - 1) [] = cor b i n := by
  rw [corRow_len, corRow_get, if_pos (by omega), Nat.add_sub_cancel]
theorem corCol_last (b : List (List Int)) (n m : Nat) : (corCol b n m).getD ((corCol b n m).length - 1) [] = cor b m n := by
  rw [corCol_len, Nat.add_sub_cancel, corCol, List.getD_eq_getElem?_getD, List.getElem?_map, List.getElem?_range (by omega)]
  rfl
/-- the number of parts -/
theorem cor_len {b : List (List Int)} (h : Am b) : ∀ i j, (cor b i j).length ≤ min i j
  | 0, j => by rw [cor_0]; exact Nat.zero_le _
  | i + 1, 0 => by rw [cor_s0]; exact Nat.zero_le _
  | i + 1, j + 1 => by
    have s := (cor_sq h i j).len
    rw [← cor_ss] at s
    have h1 := cor_len h i (j + 1)
    have h2 := cor_len h (i + 1) j
    omega
theorem map_last {cs : List (List Int)} (h : cs ≠ []) : atI (cs.map fun c => tI c) (-1) = some (tI (cs.getD (cs.length - 1) [])) := by
  rw [at_last (d := .none) (by simpa using h)]
  congr 1
  rw [List.length_map, List.getD_eq_getElem?_getD, List.getElem?_map, getD_some (d := []) (by have := List.length_pos_iff.mpr h; omega)]
  rfl
theorem corAll_last (b : List (List Int)) (n m : Nat) : atI ((corAll b n m).map fun r => lS r) (-1) = some (lS (corRow b n m)) := by
  unfold corAll
  rw [range_map_succ, List.map_append]
  exact at_snoc _ _
/-! ### stairs: the shapes at the corners of a path (82 = right, 85 = up) -/
theorem corL {b : List (List Int)} (h : Am b) : ∀ i j, (cor b i j).length ≤ i
  | 0, j => by rw [cor_0]; exact Nat.le_refl 0
  | i + 1, 0 => by rw [cor_s0]; exact Nat.zero_le _
  | i + 1, j + 1 => by
    have h1 := corL h i (j + 1)
    have h2 := (cor_sq h i j).len
    rw [cor_ss]
    omega
def Sgn (p : List Nat) : Prop := ∀ c ∈ p, c = 82 ∨ c = 85
def crn (b : List (List Int)) (m : Nat) (q : List Nat) : List Int := cor b (m - q.count 85) (q.count 82)
def stS (b : List (List Int)) (m : Nat) (p : List Nat) : List (List Int) := (List.range (p.length + 1)).map fun k => crn b m (p.take k)
theorem stS_len (b : List (List Int)) (m : Nat) (p : List Nat) : (stS b m p).length = p.length + 1 := by
  unfold stS
  rw [List.length_map, List.length_range]
theorem stS_get {b : List (List Int)} {m : Nat} {p : List Nat} {k : Nat} (h : k ≤ p.length) : (stS b m p).getD k [] = crn b m (p.take k) := by
  unfold stS
  rw [List.getD_eq_getElem?_getD, List.getElem?_map, List.getElem?_range (by omega)]
  rfl
theorem ext_D {α : Type} {a b : List α} (d : α) (hl : a.length = b.length) (h : ∀ i, i < a.length → a.getD i d = b.getD i d) : a = b := by
  refine List.ext_getElem hl fun i h1 h2 => ?_
  have := h i h1
  rwa [List.getD_eq_getElem?_getD, List.getElem?_eq_getElem h1, List.getD_eq_getElem?_getD, List.getElem?_eq_getElem h2] at this
theorem take_mid {q s : List Nat} {x y : Nat} : (q ++ [x, y] ++ s).take q.length = q ∧ (q ++ [x, y] ++ s).take (q.length + 1) = q ++ [x] ∧ (q ++ [x, y] ++ s).take (q.length + 2) = q ++ [x, y] := by
  refine ⟨?_, ?_, ?_⟩
  · rw [List.append_assoc, List.take_left]
  · rw [show q ++ [x, y] ++ s = (q ++ [x]) ++ (y :: s) by simp, show q.length + 1 = (q ++ [x]).length by simp, List.take_left]
  · rw [show q.length + 2 = (q ++ [x, y]).length by simp, List.take_left]
theorem crn_perm (b : List (List Int)) (m : Nat) {q s : List Nat} (h : q.Perm s) : crn b m q = crn b m s := by
  unfold crn
  rw [h.count_eq, h.count_eq]
theorem stS_swap (b : List (List Int)) (m : Nat) (q s : List Nat) (x y : Nat) : stS b m (q ++ [y, x] ++ s) = (stS b m (q ++ [x, y] ++ s)).set (q.length + 1) (crn b m (q ++ [y])) := by
  have hl : ∀ u v : Nat, (q ++ [u, v] ++ s).length = q.length + s.length + 2 := fun u v => by simp; omega
  refine ext_D [] (by rw [List.length_set, stS_len, stS_len, hl, hl]) fun k hk => ?_
  rw [stS_len, hl] at hk
  rw [stS_get (by rw [hl]; omega)]
  by_cases e : k = q.length + 1
  · subst e
    rw [List.getD_eq_getElem?_getD, List.getElem?_set_self (by rw [stS_len, hl]; omega), take_mid.2.1]
    rfl
  · rw [List.getD_eq_getElem?_getD, List.getElem?_set_ne (Ne.symm e), ← List.getD_eq_getElem?_getD, stS_get (by rw [hl]; omega)]
    rcases Nat.lt_or_ge k (q.length + 1) with z | z
    · have h1 : ∀ u v : Nat, (q ++ [u, v] ++ s).take k = q.take k := fun u v => by
        rw [List.append_assoc, List.take_append_of_le_length (by omega)]
      rw [h1, h1]
    · obtain ⟨j, rfl⟩ : ∃ j, k = q.length + 2 + j := ⟨k - q.length - 2, by omega⟩
      have h1 : ∀ u v : Nat, (q ++ [u, v] ++ s).take (q.length + 2 + j) = (q ++ [u, v]) ++ s.take j := fun u v => by
        rw [List.take_append, show (q ++ [u, v]).length = q.length + 2 by simp, List.take_of_length_le (by simp), show q.length + 2 + j - (q.length + 2) = j by omega]
      rw [h1, h1]
      exact crn_perm b m (((List.Perm.swap ..).append_left q).append_right _)
/-- what stands around a square to be taken off, to be put in -/
theorem stair_sq {b : List (List Int)} (hb : Am b) {m : Nat} {q : List Nat} (h : q.count 85 + 1 ≤ m) : ∃ r, m - q.count 85 = r + 1 ∧ crn b m q = cor b (r + 1) (q.count 82) ∧ crn b m (q ++ [82]) = cor b (r + 1) (q.count 82 + 1) ∧ crn b m (q ++ [85]) = cor b r (q.count 82) ∧ crn b m (q ++ [82, 85]) = cor b r (q.count 82 + 1) ∧ crn b m (q ++ [85, 82]) = cor b r (q.count 82 + 1) ∧ Sq (cor b r (q.count 82)) (cor b r (q.count 82 + 1)) (cor b (r + 1) (q.count 82)) (am b r (q.count 82)) := by
  obtain ⟨r, hr⟩ : ∃ r, m - q.count 85 = r + 1 := ⟨m - q.count 85 - 1, by omega⟩
  have a1 : (q ++ [82]).count 82 = q.count 82 + 1 := by rw [List.count_append]; rfl
  have a2 : (q ++ [82]).count 85 = q.count 85 := by rw [List.count_append]; rfl
  have a3 : (q ++ [85]).count 82 = q.count 82 := by rw [List.count_append]; rfl
  have a4 : (q ++ [85]).count 85 = q.count 85 + 1 := by rw [List.count_append]; rfl
  have a5 : (q ++ [82, 85]).count 82 = q.count 82 + 1 := by rw [List.count_append]; rfl
  have a6 : (q ++ [82, 85]).count 85 = q.count 85 + 1 := by rw [List.count_append]; rfl
  have a7 : (q ++ [85, 82]).count 82 = q.count 82 + 1 := by rw [List.count_append]; rfl
  have a8 : (q ++ [85, 82]).count 85 = q.count 85 + 1 := by rw [List.count_append]; rfl
  have hr2 : m - (q.count 85 + 1) = r := by omega
  refine ⟨r, hr, ?_, ?_, ?_, ?_, ?_, cor_sq hb _ _⟩
  · unfold crn; rw [hr]
  · unfold crn; rw [a1, a2, hr]
  · unfold crn; rw [a3, a4, hr2]
  · unfold crn; rw [a5, a6, hr2]
  · unfold crn; rw [a7, a8, hr2]
/-! the columns in which the path goes up -/
def dl : List Nat → Nat → List Nat
  | [], _ => []
  | c :: p, k => if c = 82 then dl p (k + 1) else k :: dl p k
theorem dl_app : ∀ (q s : List Nat) (k : Nat), dl (q ++ s) k = dl q k ++ dl s (k + q.count 82)
  | [], s, k => rfl
  | c :: q, s, k => by
    show (if c = 82 then dl (q ++ s) (k + 1) else k :: dl (q ++ s) k) = (if c = 82 then dl q (k + 1) else k :: dl q k) ++ _
    rw [dl_app q s, dl_app q s, List.count_cons]
    by_cases h : c = 82
    · rw [if_pos h, if_pos h, if_pos (by rw [h]; rfl), show k + 1 + q.count 82 = k + (q.count 82 + 1) by omega]
    · rw [if_neg h, if_neg h, if_neg (by rw [beq_iff_eq]; exact h), Nat.add_zero]
      rfl
theorem dl_len {p : List Nat} (h : Sgn p) : ∀ k, (dl p k).length = p.count 85 := by
  induction p with
  | nil => exact fun _ => rfl
  | cons c p ih =>
    intro k
    have ih := ih fun d hd => h d (List.mem_cons_of_mem _ hd)
    show (if c = 82 then dl p (k + 1) else k :: dl p k).length = _
    rw [List.count_cons]
    rcases h c List.mem_cons_self with e | e
    · rw [if_pos e, ih, if_neg (by rw [e]; decide), Nat.add_zero]
    · rw [if_neg (by rw [e]; decide), List.length_cons, ih, if_pos (by rw [e]; rfl)]
theorem dl_off (q s : List Nat) (x : Nat) (hx : x = 85) : dl (q ++ [82, x] ++ s) 0 = dl q 0 ++ (q.count 82 + 1) :: dl s (q.count 82 + 1) ∧ dl (q ++ [x, 82] ++ s) 0 = dl q 0 ++ q.count 82 :: dl s (q.count 82 + 1) := by
  subst hx
  rw [List.append_assoc, List.append_assoc, dl_app q ([82, 85] ++ s), dl_app q ([85, 82] ++ s), Nat.zero_add]
  exact ⟨rfl, rfl⟩
theorem no_up : ∀ {p : List Nat}, (∀ q s, 82 :: p ≠ q ++ [82, 85] ++ s) → Sgn p → ∀ c ∈ p, c = 82
  | [], _, _, _, hc => absurd hc List.not_mem_nil
  | d :: p, h, hs, c, hc => by
    have hd : d = 82 := by
      rcases hs d List.mem_cons_self with e | e
      · exact e
      · exact absurd rfl (e ▸ h [] p)
    rcases List.mem_cons.mp hc with e | e
    · rw [e]; exact hd
    · refine no_up (p := p) (fun q s e2 => ?_) (fun x hx => hs x (List.mem_cons_of_mem _ hx)) c e
      refine h (82 :: q) s ?_
      rw [hd, e2]
      rfl
theorem dl_up : ∀ {p : List Nat}, (∀ c ∈ p, c = 82) → ∀ k, dl p k = []
  | [], _, _ => rfl
  | c :: p, h, k => by
    show (if c = 82 then dl p (k + 1) else _) = _
    rw [if_pos (h c List.mem_cons_self)]
    exact dl_up (fun d hd => h d (List.mem_cons_of_mem _ hd)) _
theorem dl_end : ∀ {p : List Nat}, (∀ q s, p ≠ q ++ [82, 85] ++ s) → Sgn p → ∀ d ∈ dl p 0, d = 0
  | [], _, _, _, hd => absurd hd List.not_mem_nil
  | c :: p, h, hs, d, hd => by
    have hs2 : Sgn p := fun x hx => hs x (List.mem_cons_of_mem _ hx)
    rcases hs c List.mem_cons_self with e | e
    · subst e
      have h1 := no_up h hs2
      rw [show dl (82 :: p) 0 = dl p 1 from rfl, dl_up h1] at hd
      exact absurd hd List.not_mem_nil
    · subst e
      rw [show dl (85 :: p) 0 = 0 :: dl p 0 from rfl] at hd
      rcases List.mem_cons.mp hd with e | e
      · exact e
      · exact dl_end (p := p) (fun q s e2 => h (85 :: q) s (by rw [e2]; rfl)) hs2 d e
/-- amounts of a row, from column hi - 1 down to column lo -/
def dn (b : List (List Int)) (r hi lo : Nat) : List Int := (List.range (hi - lo)).map fun t => am b r (hi - 1 - t)
theorem dn_next (b : List (List Int)) (r : Nat) {hi lo : Nat} (h : lo + 1 ≤ hi) : dn b r hi lo = dn b r hi (lo + 1) ++ [am b r lo] := by
  unfold dn
  rw [show hi - lo = hi - (lo + 1) + 1 by omega, List.range_succ, List.map_append]
  congr 1
  show [am b r (hi - 1 - (hi - (lo + 1)))] = _
  rw [show hi - 1 - (hi - (lo + 1)) = lo by omega]
theorem dn_same (b : List (List Int)) (r hi : Nat) : dn b r hi hi = [] := by
  unfold dn
  rw [Nat.sub_self]
  rfl
theorem dn_rev (b : List (List Int)) (r hi : Nat) : (dn b r hi 0).reverse = (List.range hi).map fun c => am b r c := by
  refine ext_D 0 (by unfold dn; rw [List.length_reverse, List.length_map, List.length_map, List.length_range, List.length_range, Nat.sub_zero]) fun i hi2 => ?_
  have hi2 : i < hi := by
    unfold dn at hi2
    rwa [List.length_reverse, List.length_map, List.length_range, Nat.sub_zero] at hi2
  unfold dn
  rw [Nat.sub_zero, List.getD_eq_getElem?_getD, List.getElem?_reverse (by rw [List.length_map, List.length_range]; exact hi2), List.length_map, List.length_range, List.getElem?_map, List.getElem?_range (by omega), List.getD_eq_getElem?_getD, List.getElem?_map, List.getElem?_range hi2]
  show am b r (hi - 1 - (hi - 1 - i)) = am b r i
  rw [show hi - 1 - (hi - 1 - i) = i by omega]
theorem take_am {b : List (List Int)} {r : Nat} {hi : Nat} (h : hi ≤ (b.getD r []).length) : (b.getD r []).take hi = (List.range hi).map fun c => am b r c := by
  refine ext_D 0 (by rw [List.length_take, List.length_map, List.length_range]; omega) fun i hi2 => ?_
  rw [List.length_take] at hi2
  have e1 : ((b.getD r []).take hi).getD i 0 = am b r i := by
    unfold am
    rw [List.getD_eq_getElem?_getD, List.getElem?_take_of_lt (by omega), ← List.getD_eq_getElem?_getD]
  have e2 : ((List.range hi).map fun c => am b r c).getD i 0 = am b r i := by
    rw [List.getD_eq_getElem?_getD, List.getElem?_map, List.getElem?_range (by omega)]
    rfl
  rw [e1, e2]
/-! ### paths as texts -/
abbrev tV (l : List Nat) : SD := .dat (.str (sT l))
theorem t_monoS {K : PySem.W.Frag} {t : TT} {O : Own} {ds : List SD} {Q R : Bool → Own → Prop} (h : TvW K t O ds R) (k : ∀ b O, R b O → Q b O) : TvW K t O ds Q := fun Hk σ H p Q' kk => h Hk σ H p Q' fun b O2 Hk2 H2 e h2 q => kk b O2 Hk2 H2 e h2 (k b O2 q)
theorem cut_two {p : List Nat} {i : Int} {x y : Nat} (h0 : 0 ≤ i) (h : cut p (some i) (some (i + 2)) = [x, y]) : ∃ q s, p = q ++ [x, y] ++ s ∧ i = (q.length : Int) := by
  obtain ⟨k, rfl⟩ : ∃ k : Nat, i = (k : Int) := ⟨i.toNat, by omega⟩
  have e : cut p (some (k : Int)) (some ((k : Int) + 2)) = (p.drop k).take (min (k + 2) p.length - min k p.length) := by
    unfold cut
    show (p.drop (if (k : Int) < 0 then ((k : Int) + (p.length : Int)).toNat else min (k : Int).toNat p.length)).take ((if (k : Int) + 2 < 0 then ((k : Int) + 2 + (p.length : Int)).toNat else min ((k : Int) + 2).toNat p.length) - (if (k : Int) < 0 then ((k : Int) + (p.length : Int)).toNat else min (k : Int).toNat p.length)) = _
    rw [if_neg (by omega), if_neg (by omega), Int.toNat_natCast, show ((k : Int) + 2).toNat = k + 2 by omega]
    by_cases z : k ≤ p.length
    · rw [show min k p.length = k by omega]
    · rw [show min k p.length = p.length by omega, List.drop_length, List.drop_eq_nil_of_le (by omega)]
  rw [e] at h
  have hl := congrArg List.length h
  rw [List.length_take, List.length_drop] at hl
  have hl : min (min (k + 2) p.length - min k p.length) (p.length - k) = 2 := hl
  rw [show min (k + 2) p.length - min k p.length = 2 by omega] at h
  refine ⟨p.take k, p.drop (k + 2), ?_, by rw [List.length_take]; omega⟩
  have e1 := (List.take_append_drop k p).symm
  have e2 := (List.take_append_drop 2 (p.drop k)).symm
  rw [h, List.drop_drop] at e2
  rw [List.append_assoc, ← e2]
  exact e1
theorem two_cut {q s : List Nat} {x y : Nat} : cut (q ++ [x, y] ++ s) (some (q.length : Int)) (some ((q.length : Int) + 2)) = [x, y] := by
  unfold cut
  show ((q ++ [x, y] ++ s).drop (if (q.length : Int) < 0 then ((q.length : Int) + ((q ++ [x, y] ++ s).length : Int)).toNat else min (q.length : Int).toNat (q ++ [x, y] ++ s).length)).take ((if (q.length : Int) + 2 < 0 then ((q.length : Int) + 2 + ((q ++ [x, y] ++ s).length : Int)).toNat else min ((q.length : Int) + 2).toNat (q ++ [x, y] ++ s).length) - (if (q.length : Int) < 0 then ((q.length : Int) + ((q ++ [x, y] ++ s).length : Int)).toNat else min (q.length : Int).toNat (q ++ [x, y] ++ s).length)) = _
  have hl : (q ++ [x, y] ++ s).length = q.length + 2 + s.length := by simp; omega
  rw [if_neg (by omega), if_neg (by omega), Int.toNat_natCast, hl, show min q.length (q.length + 2 + s.length) = q.length by omega, show min ((q.length : Int) + 2).toNat (q.length + 2 + s.length) - q.length = 2 by omega, List.append_assoc, List.drop_left]
  rfl
theorem sRU : Str.ofString "RU" = sT [82, 85] := by rw [sT_lit]; rfl
theorem sUR : Str.ofString "UR" = sT [85, 82] := by rw [sT_lit]; rfl
theorem sR : Str.ofString "R" = sT [82] := by rw [sT_lit]; rfl
theorem sU : Str.ofString "U" = sT [85] := by rw [sT_lit]; rfl
/-- what amounts_above holds: D the columns of the path as it was, E as it is now -/
def rowsN (b : List (List Int)) (m : Nat) (D E : List Nat) : List (List Int) := (List.range m).map fun r => dn b r (D.getD (m - 1 - r) 0) (E.getD (m - 1 - r) 0)
theorem rowsN_len (b : List (List Int)) (m : Nat) (D E : List Nat) : (rowsN b m D E).length = m := by
  unfold rowsN
  rw [List.length_map, List.length_range]
theorem rowsN_get {b : List (List Int)} {m : Nat} {D E : List Nat} {r : Nat} (h : r < m) : (rowsN b m D E).getD r [] = dn b r (D.getD (m - 1 - r) 0) (E.getD (m - 1 - r) 0) := by
  unfold rowsN
  rw [List.getD_eq_getElem?_getD, List.getElem?_map, List.getElem?_range h]
  rfl
theorem getD_mid (A B : List Nat) (x y : Nat) : (A ++ x :: B).getD A.length 0 = x ∧ ∀ u, u ≠ A.length → (A ++ x :: B).getD u 0 = (A ++ y :: B).getD u 0 := by
  refine ⟨by rw [List.getD_eq_getElem?_getD, List.getElem?_append_right (Nat.le_refl _), Nat.sub_self]; rfl, fun u hu => ?_⟩
  rw [List.getD_eq_getElem?_getD, List.getD_eq_getElem?_getD]
  rcases Nat.lt_or_ge u A.length with z | z
  · rw [List.getElem?_append_left z, List.getElem?_append_left z]
  · rw [List.getElem?_append_right z, List.getElem?_append_right z]
    obtain ⟨j, hj⟩ : ∃ j, u - A.length = j + 1 := ⟨u - A.length - 1, by omega⟩
    rw [hj]
    rfl
theorem rowsN_step (b : List (List Int)) {m : Nat} {D A B : List Nat} {c r : Nat} (hr : A.length + r + 1 = m) (hD : c + 1 ≤ D.getD A.length 0) : rowsN b m D (A ++ c :: B) = (rowsN b m D (A ++ (c + 1) :: B)).set r ((rowsN b m D (A ++ (c + 1) :: B)).getD r [] ++ [am b r c]) := by
  have e : m - 1 - r = A.length := by omega
  refine ext_D [] (by rw [List.length_set, rowsN_len, rowsN_len]) fun k hk => ?_
  rw [rowsN_len] at hk
  by_cases h : k = r
  · subst h
    rw [rowsN_get hk, List.getD_eq_getElem?_getD (l := (rowsN b m D (A ++ (c + 1) :: B)).set _ _), List.getElem?_set_self (by rw [rowsN_len]; exact hk), rowsN_get hk, e, (getD_mid A B c c).1, (getD_mid A B (c + 1) c).1]
    exact dn_next b k hD
  · rw [rowsN_get hk, List.getD_eq_getElem?_getD (l := (rowsN b m D (A ++ (c + 1) :: B)).set _ _), List.getElem?_set_ne (Ne.symm h), ← List.getD_eq_getElem?_getD, rowsN_get hk, (getD_mid A B c (c + 1)).2 _ (by omega)]
theorem rowsN_0 (b : List (List Int)) {m : Nat} {D : List Nat} : rowsN b m D D = List.replicate m [] := by
  refine ext_D [] (by rw [rowsN_len, List.length_replicate]) fun k hk => ?_
  rw [rowsN_len] at hk
  rw [rowsN_get hk, dn_same, List.getD_eq_getElem?_getD, List.getElem?_replicate, if_pos hk]
  rfl
theorem dl_le : ∀ (p : List Nat) (k : Nat), ∀ d ∈ dl p k, d ≤ k + p.length
  | [], _, d, h => absurd h List.not_mem_nil
  | c :: p, k, d, h => by
    have h : d ∈ (if c = 82 then dl p (k + 1) else k :: dl p k) := h
    rw [List.length_cons]
    split at h
    · have := dl_le p (k + 1) d h
      omega
    · rcases List.mem_cons.mp h with e | e
      · omega
      · have := dl_le p k d e
        omega
theorem dl_getD (p : List Nat) (u : Nat) : (dl p 0).getD u 0 ≤ p.length := by
  rw [List.getD_eq_getElem?_getD]
  by_cases h : u < (dl p 0).length
  · rw [List.getElem?_eq_getElem h]
    have := dl_le p 0 _ (List.getElem_mem h)
    show (dl p 0)[u] ≤ _
    omega
  · rw [List.getElem?_eq_none (by omega)]
    exact Nat.zero_le _
theorem dl_le2 : ∀ (p : List Nat) (k : Nat), ∀ d ∈ dl p k, d ≤ k + p.count 82
  | [], _, d, h => absurd h List.not_mem_nil
  | c :: p, k, d, h => by
    have h : d ∈ (if c = 82 then dl p (k + 1) else k :: dl p k) := h
    rw [List.count_cons]
    split at h
    · rename_i e
      have := dl_le2 p (k + 1) d h
      rw [if_pos (by rw [e]; rfl)]
      omega
    · rename_i e
      rw [if_neg (by rw [beq_iff_eq]; exact e)]
      rcases List.mem_cons.mp h with e | e
      · omega
      · have := dl_le2 p k d e
        omega
theorem dl_n {p : List Nat} {n : Nat} (h : p.count 82 = n) (u : Nat) : (dl p 0).getD u 0 ≤ n := by
  rw [List.getD_eq_getElem?_getD]
  by_cases hu : u < (dl p 0).length
  · rw [List.getElem?_eq_getElem hu]
    have := dl_le2 p 0 _ (List.getElem_mem hu)
    show (dl p 0)[u] ≤ _
    omega
  · rw [List.getElem?_eq_none (by omega)]
    exact Nat.zero_le _
theorem dl_at {p : List Nat} {i : Nat} (hs : Sgn p) (h : p[i]? = some 85) : (dl p 0).getD ((p.take i).count 85) 0 = (p.take i).count 82 := by
  obtain ⟨hi, e⟩ := List.getElem?_eq_some_iff.mp h
  have e1 : p = p.take i ++ 85 :: p.drop (i + 1) := by
    have := (List.take_append_drop i p).symm
    rwa [List.drop_eq_getElem_cons hi, e] at this
  have e2 : dl p 0 = dl (p.take i) 0 ++ (p.take i).count 82 :: dl (p.drop (i + 1)) ((p.take i).count 82) := by
    have h1 : dl (p.take i ++ 85 :: p.drop (i + 1)) 0 = dl (p.take i) 0 ++ dl (85 :: p.drop (i + 1)) (0 + (p.take i).count 82) := dl_app _ _ _
    rw [← e1, Nat.zero_add] at h1
    exact h1
  have e3 := dl_len (p := p.take i) (fun c hc => hs c (List.mem_of_mem_take hc)) 0
  rw [e2, ← e3]
  exact (getD_mid _ _ _ 0).1
abbrev absL (b : List (List Int)) (m : Nat) (p : List Nat) : List (List Int) := (List.range m).map fun r => (List.range ((dl p 0).getD (m - 1 - r) 0)).map fun c => am b r c
abbrev lLI (L : List (List Int)) : PyData := .list (L.map fun r => lI r)
theorem dLI_dats (L : List (List Int)) : Dats (L.map fun r => SD.dat (lI r)) (L.map fun r => lI r) := by
  have e : (L.map fun r => SD.dat (lI r)) = (L.map fun r => lI r).map SD.dat := by
    rw [List.map_map]
    rfl
  rw [e]
  exact Dats.map _
theorem absL_len (b : List (List Int)) (m : Nat) (p : List Nat) : (absL b m p).length = m := by rw [List.length_map, List.length_range]
/-! ### what a bench holds -/
abbrev nsB : List Str := [Str.ofString "_board", Str.ofString "_corners", Str.ofString "_grown", Str.ofString "_done", Str.ofString "_undone"]
abbrev lLc (b : List (List (List Int))) : PyData := .list (b.map fun r => lS r)
/-- a change: the board before it, the way back, the board behind it, the way forth -/
structure Stp where
  b0 : List (List Int)
  back : List Int × List Int
  b1 : List (List Int)
  forth : List Int × List Int
abbrev wayD (w : List Int × List Int) : PyData := .tuple [tI w.1, tI w.2]
abbrev stepD (s : Stp) : PyData := .tuple [tS s.b0, wayD s.back, tS s.b1, wayD s.forth]
abbrev BnI (C a dx : Addr) (vs : List V) (b : List (List Int)) (n : Nat) (g : Int) (pd pu : Addr) : Addr × OD := (a, insO C dx nsB vs [.dat (tS b), .dat (lLc (corAll b n b.length)), iV g, .ad pd, .ad pu])
abbrev StL (p : Addr) (ss : List Stp) : Addr × OD := (p, .lst (ss.map fun s => .dat (stepD s)))
/-- the square of the cell in row r, column c (from 1 on) as the program tells it -/
def sqD (b : List (List Int)) (r c : Nat) : PyData := if r = 0 ∨ c = 0 then .none else .tuple [.int (am b (r - 1) (c - 1)), tI (cor b (r - 1) (c - 1)), tI (cor b (r - 1) c), tI (cor b r (c - 1))]
abbrev sqN (b : List (List Int)) (i j : Nat) : PyData := .tuple [.int (am b i j), tI (cor b i j), tI (cor b i (j + 1)), tI (cor b (i + 1) j)]
theorem tI_inj {a b : List Int} (h : tI a = tI b) : a = b := by
  injection h with h
  exact (List.map_inj_right fun x y e => by injection e).mp h
theorem sq_same {b b2 : List (List Int)} {i j r c : Nat} (h : sqN b2 i j = sqD b r c) : cor b2 (i + 1) (j + 1) = cor b r c := by
  unfold sqD at h
  by_cases e : r = 0 ∨ c = 0
  · rw [if_pos e] at h
    cases h
  · rw [if_neg e] at h
    obtain ⟨r, rfl⟩ : ∃ k, r = k + 1 := ⟨r - 1, by omega⟩
    obtain ⟨c, rfl⟩ : ∃ k, c = k + 1 := ⟨c - 1, by omega⟩
    simp only [Nat.add_sub_cancel] at h
    injection h with h
    injection h with h1 h
    injection h with h2 h
    injection h with h3 h
    injection h with h4 _
    injection h1 with h1
    rw [cor_ss, cor_ss, h1, tI_inj h2, tI_inj h3, tI_inj h4]
/-! how many squares of a row, of all rows are grown again -/
open Classical in
noncomputable def cntR (b b2 : List (List Int)) (i r : Nat) (cw : List Int) (k : Nat) : Nat := ((List.range k).map fun j => if sqN b2 i j = sqD b r (cw.getD j 0).toNat then 0 else 1).sum
noncomputable def cntB (b b2 : List (List Int)) (n2 : Nat) (w : List Int × List Int) (k : Nat) : Nat := ((List.range k).map fun i => cntR b b2 i (w.1.getD i 0).toNat w.2 n2).sum
open Classical in
theorem cntR_s (b b2 : List (List Int)) (i r : Nat) (cw : List Int) (k : Nat) : cntR b b2 i r cw (k + 1) = cntR b b2 i r cw k + (if sqN b2 i k = sqD b r (cw.getD k 0).toNat then 0 else 1) := by
  unfold cntR
  rw [List.range_succ, List.map_append, List.sum_append]
  simp
theorem cntB_s (b b2 : List (List Int)) (n2 : Nat) (w : List Int × List Int) (k : Nat) : cntB b b2 n2 w (k + 1) = cntB b b2 n2 w k + cntR b b2 k (w.1.getD k 0).toNat w.2 n2 := by
  unfold cntB
  rw [List.range_succ, List.map_append, List.sum_append]
  simp
theorem cntR_le (b b2 : List (List Int)) (i r : Nat) (cw : List Int) : ∀ k, cntR b b2 i r cw k ≤ k
  | 0 => Nat.le_refl _
  | k + 1 => by
    rw [cntR_s]
    have := cntR_le b b2 i r cw k
    split <;> omega
theorem cntB_le (b b2 : List (List Int)) (n2 : Nat) (w : List Int × List Int) : ∀ k, cntB b b2 n2 w k ≤ k * n2
  | 0 => Nat.zero_le _
  | k + 1 => by
    rw [cntB_s, Nat.add_mul, Nat.one_mul]
    have := cntB_le b b2 n2 w k
    have := cntR_le b b2 k (w.1.getD k 0).toNat w.2 n2
    omega
/-- a way to a board: which row, which column of the one before each was, 0 for none -/
structure WayOk (n m n2 m2 : Nat) (w : List Int × List Int) : Prop where
  l1 : w.1.length = m2
  l2 : w.2.length = n2
  a1 : ∀ v ∈ w.1, 0 ≤ v ∧ v ≤ m
  a2 : ∀ v ∈ w.2, 0 ≤ v ∧ v ≤ n
theorem WayOk.r {n m n2 m2 : Nat} {w : List Int × List Int} (h : WayOk n m n2 m2 w) {i : Nat} (hi : i < m2) : ∃ r : Nat, w.1.getD i 0 = (r : Int) ∧ r ≤ m := by
  have hl : i < w.1.length := by rw [h.l1]; exact hi
  have := h.a1 _ (List.getElem_mem hl)
  refine ⟨(w.1.getD i 0).toNat, ?_, ?_⟩ <;> rw [List.getD_eq_getElem?_getD, List.getElem?_eq_getElem hl] <;> simp only [Option.getD_some] <;> omega
theorem WayOk.c {n m n2 m2 : Nat} {w : List Int × List Int} (h : WayOk n m n2 m2 w) {i : Nat} (hi : i < n2) : ∃ r : Nat, w.2.getD i 0 = (r : Int) ∧ r ≤ n := by
  have hl : i < w.2.length := by rw [h.l2]; exact hi
  have := h.a2 _ (List.getElem_mem hl)
  refine ⟨(w.2.getD i 0).toNat, ?_, ?_⟩ <;> rw [List.getD_eq_getElem?_getD, List.getElem?_eq_getElem hl] <;> simp only [Option.getD_some] <;> omega
/-! ### boards that are changed -/
theorem set_tkd {α : Type} (xs : List α) (i : Nat) (x : α) (h : i < xs.length) : xs.take i ++ [x] ++ xs.drop (i + 1) = xs.set i x := by
  rw [List.set_eq_take_append_cons_drop, if_pos h, List.append_assoc]
  rfl
def putB (b : List (List Int)) (i j : Nat) (v : Int) : List (List Int) := b.set i ((b.getD i []).set j v)
theorem brd_row {n : Nat} {b : List (List Int)} (h : Brd n b) {i : Nat} (hi : i < b.length) : (b.getD i []).length = n ∧ ∀ v ∈ b.getD i [], 0 ≤ v ∧ v ≤ 1000 := by
  rw [getD_at hi]
  exact h.row _ (List.getElem_mem hi)
theorem putB_brd {n : Nat} {b : List (List Int)} (h : Brd n b) {i j : Nat} (hi : i < b.length) {v : Int} (hv : 0 ≤ v ∧ v ≤ 1000) : Brd n (putB b i j v) := by
  refine ⟨h.n0, by rw [putB, List.length_set]; exact h.b0, fun r hr => ?_⟩
  rcases List.mem_or_eq_of_mem_set hr with hr | hr
  · exact h.row r hr
  · have := brd_row h hi
    rw [hr, List.length_set]
    refine ⟨this.1, fun u hu => ?_⟩
    rcases List.mem_or_eq_of_mem_set hu with hu | hu
    · exact this.2 u hu
    · rw [hu]; exact hv
def insB (b : List (List Int)) (k : Nat) (r : List Int) : List (List Int) := b.take k ++ [r] ++ b.drop k
theorem insB_len (b : List (List Int)) (k : Nat) (r : List Int) : (insB b k r).length = b.length + 1 := by
  rw [insB, List.length_append, List.length_append, List.length_take, List.length_drop]
  simp only [List.length_cons, List.length_nil]
  omega
theorem insB_brd {n : Nat} {b : List (List Int)} (h : Brd n b) {k : Nat} {r : List Int} (hl : r.length = n) (hr : ∀ v ∈ r, 0 ≤ v ∧ v ≤ 1000) : Brd n (insB b k r) := by
  refine ⟨h.n0, by rw [insB_len]; omega, fun q hq => ?_⟩
  rcases List.mem_append.mp hq with hq | hq
  · rcases List.mem_append.mp hq with hq | hq
    · exact h.row q (List.mem_of_mem_take hq)
    · rw [List.mem_singleton.mp hq]
      exact ⟨hl, hr⟩
  · exact h.row q (List.mem_of_mem_drop hq)
def remB (b : List (List Int)) (k : Nat) : List (List Int) := b.take k ++ b.drop (k + 1)
theorem remB_len {b : List (List Int)} {k : Nat} (h : k < b.length) : (remB b k).length = b.length - 1 := by
  rw [remB, List.length_append, List.length_take, List.length_drop]
  omega
theorem remB_brd {n : Nat} {b : List (List Int)} (h : Brd n b) {k : Nat} (hk : k < b.length) (h2 : 2 ≤ b.length) : Brd n (remB b k) := by
  refine ⟨h.n0, by rw [remB_len hk]; omega, fun q hq => ?_⟩
  rcases List.mem_append.mp hq with hq | hq
  · exact h.row q (List.mem_of_mem_take hq)
  · exact h.row q (List.mem_of_mem_drop hq)
/-! ways -/
abbrev stay (m : Nat) : List Int := rgI 1 ((m : Int) + 1)
theorem stay_len (m : Nat) : (stay m).length = m := by
  unfold stay rgI
  rw [List.length_map, List.length_range]
  omega
theorem stay_mem {m : Nat} {v : Int} (h : v ∈ stay m) : 0 ≤ v ∧ v ≤ m := by
  unfold stay rgI at h
  obtain ⟨i, hi, rfl⟩ := List.mem_map.mp h
  have := List.mem_range.mp hi
  omega
abbrev comes (m k : Nat) : List Int := (stay m).take k ++ [0] ++ (stay m).drop k
theorem comes_len (m k : Nat) : (comes m k).length = m + 1 := by
  unfold comes
  rw [List.length_append, List.length_append, List.length_take, List.length_drop, stay_len]
  simp only [List.length_cons, List.length_nil]
  omega
theorem comes_mem {m k : Nat} {v : Int} (h : v ∈ comes m k) : 0 ≤ v ∧ v ≤ m := by
  rcases List.mem_append.mp h with h | h
  · rcases List.mem_append.mp h with h | h
    · exact stay_mem (List.mem_of_mem_take h)
    · rw [List.mem_singleton.mp h]; omega
  · exact stay_mem (List.mem_of_mem_drop h)
abbrev goes (m k : Nat) : List Int := (stay m).take k ++ (stay m).drop (k + 1)
theorem goes_len {m k : Nat} (h : k < m) : (goes m k).length = m - 1 := by
  unfold goes
  rw [List.length_append, List.length_take, List.length_drop, stay_len]
  omega
theorem goes_mem {m k : Nat} {v : Int} (h : v ∈ goes m k) : 0 ≤ v ∧ v ≤ m := by
  rcases List.mem_append.mp h with h | h
  · exact stay_mem (List.mem_of_mem_take h)
  · exact stay_mem (List.mem_of_mem_drop h)
/-! columns -/
def insC (b : List (List Int)) (k : Nat) (xs : List Int) : List (List Int) := (List.range b.length).map fun i => (b.getD i []).take k ++ [xs.getD i 0] ++ (b.getD i []).drop k
theorem insC_len (b : List (List Int)) (k : Nat) (xs : List Int) : (insC b k xs).length = b.length := by
  rw [insC, List.length_map, List.length_range]
theorem insC_brd {n : Nat} {b : List (List Int)} (h : Brd n b) {k : Nat} {xs : List Int} (hl : xs.length = b.length) (hr : ∀ v ∈ xs, 0 ≤ v ∧ v ≤ 1000) : Brd (n + 1) (insC b k xs) := by
  refine ⟨by omega, by rw [insC_len]; exact h.b0, fun q hq => ?_⟩
  obtain ⟨i, hi, rfl⟩ := List.mem_map.mp hq
  have hi := List.mem_range.mp hi
  have hb := brd_row h hi
  have hx : xs.getD i 0 ∈ xs := by rw [getD_at (by omega)]; exact List.getElem_mem _
  refine ⟨?_, fun v hv => ?_⟩
  · rw [List.length_append, List.length_append, List.length_take, List.length_drop, hb.1]
    simp only [List.length_cons, List.length_nil]
    omega
  · rcases List.mem_append.mp hv with hv | hv
    · rcases List.mem_append.mp hv with hv | hv
      · exact hb.2 v (List.mem_of_mem_take hv)
      · rw [List.mem_singleton.mp hv]; exact hr _ hx
    · exact hb.2 v (List.mem_of_mem_drop hv)
def remC (b : List (List Int)) (k : Nat) : List (List Int) := b.map fun r => r.take k ++ r.drop (k + 1)
theorem remC_len (b : List (List Int)) (k : Nat) : (remC b k).length = b.length := List.length_map _
theorem remC_brd {n : Nat} {b : List (List Int)} (h : Brd n b) {k : Nat} (hk : k < n) (h2 : 2 ≤ n) : Brd (n - 1) (remC b k) := by
  refine ⟨by omega, by rw [remC_len]; exact h.b0, fun q hq => ?_⟩
  obtain ⟨r, hr, rfl⟩ := List.mem_map.mp hq
  have hb := h.row r hr
  refine ⟨?_, fun v hv => ?_⟩
  · rw [List.length_append, List.length_take, List.length_drop, hb.1]
    omega
  · rcases List.mem_append.mp hv with hv | hv
    · exact hb.2 v (List.mem_of_mem_take hv)
    · exact hb.2 v (List.mem_of_mem_drop hv)
/-! ### changes as the laws draw them -/
/-- a change that the law draws -/
inductive Chg where
  | put (r c v : Int)
  | insR (at' : Int) (xs : List Int)
  | remR (at' : Int)
  | insC (at' : Int) (xs : List Int)
  | remC (at' : Int)
abbrev pS (s : String) : PyData := .str (Str.ofString s)
def chgD : Chg → PyData
  | .put r c v => .tuple [pS "put", .int r, .int c, .int v]
  | .insR r xs => .tuple [pS "insert_row", .int r, tI xs]
  | .remR r => .tuple [pS "remove_row", .int r]
  | .insC r xs => .tuple [pS "insert_column", .int r, tI xs]
  | .remC r => .tuple [pS "remove_column", .int r]
def AmL (k : Nat) (xs : List Int) : Prop := xs.length = k ∧ ∀ v ∈ xs, 0 ≤ v ∧ v ≤ 1000
open Classical in
/-- which error is due -/
noncomputable def dueD (m n : Nat) : Chg → PyData
  | .put r c v => if ¬ (1 ≤ r ∧ r ≤ m) then pS "row" else if ¬ (1 ≤ c ∧ c ≤ n) then pS "column" else if ¬ AmL 1 [v] then pS "amounts" else .none
  | .insR r xs => if ¬ (1 ≤ r ∧ r ≤ m + 1) then pS "row" else if ¬ AmL n xs then pS "amounts" else if m = 8 then pS "size" else .none
  | .remR r => if ¬ (1 ≤ r ∧ r ≤ m) then pS "row" else if m = 1 then pS "size" else .none
  | .insC r xs => if ¬ (1 ≤ r ∧ r ≤ n + 1) then pS "column" else if ¬ AmL m xs then pS "amounts" else if n = 8 then pS "size" else .none
  | .remC r => if ¬ (1 ≤ r ∧ r ≤ n) then pS "column" else if n = 1 then pS "size" else .none
def Sml (v : Int) : Prop := -1000000 ≤ v ∧ v ≤ 1000000
def ChgOk : Chg → Prop
  | .put r c v => Sml r ∧ Sml c ∧ Sml v
  | .insR r xs => Sml r ∧ xs.length ≤ 1000 ∧ ∀ v ∈ xs, Sml v
  | .remR r => Sml r
  | .insC r xs => Sml r ∧ xs.length ≤ 1000 ∧ ∀ v ∈ xs, Sml v
  | .remC r => Sml r
abbrev kS : List Str := [Str.ofString "put", Str.ofString "insert_row", Str.ofString "remove_row", Str.ofString "insert_column", Str.ofString "remove_column"]
theorem kS_no : kS.Nodup := by decide +kernel
theorem kS_ne {i j : Nat} {x y : Str} (hx : kS[i]? = some x) (hy : kS[j]? = some y) (h : i ≠ j) : x ≠ y := fun e => by
  obtain ⟨h1, h2⟩ := List.getElem?_eq_some_iff.mp hx
  obtain ⟨h3, h4⟩ := List.getElem?_eq_some_iff.mp hy
  exact h ((List.getElem_inj kS_no).mp (h2.trans (e.trans h4.symm)))
/-- what is told of a change: the error that is due, or, on a bench of a hundred changes, that one -/
noncomputable def toldD (m n l : Nat) (c : Chg) : PyData := match dueD m n c with
  | .none => if 100 ≤ l then pS "changes" else .none
  | d => d
theorem nn (s : Str) : PyData.str s ≠ .none := fun e => nomatch e
theorem told_due {m n l : Nat} {c : Chg} {d : PyData} (h : dueD m n c = d) (hd : d ≠ .none) : toldD m n l c = d := by
  unfold toldD
  rw [h]
  cases d <;> first | rfl | exact absurd rfl hd
theorem told_ok {m n l : Nat} {c : Chg} (h : dueD m n c = .none) : toldD m n l c = if 100 ≤ l then pS "changes" else .none := by
  unfold toldD
  rw [h]
/-- the board behind a change -/
def afB (b : List (List Int)) : Chg → List (List Int)
  | .put r c v => putB b (r - 1).toNat (c - 1).toNat v
  | .insR r xs => insB b (r - 1).toNat xs
  | .remR r => remB b (r - 1).toNat
  | .insC r xs => insC b (r - 1).toNat xs
  | .remC r => remC b (r - 1).toNat
def afN (n : Nat) : Chg → Nat
  | .insC _ _ => n + 1
  | .remC _ => n - 1
  | _ => n
/-- its way back, its way forth -/
def afW (m n : Nat) : Chg → (List Int × List Int) × (List Int × List Int)
  | .put _ _ _ => ((stay m, stay n), (stay m, stay n))
  | .insR r _ => ((goes (m + 1) (r - 1).toNat, stay n), (comes m (r - 1).toNat, stay n))
  | .remR r => ((comes (m - 1) (r - 1).toNat, stay n), (goes m (r - 1).toNat, stay n))
  | .insC r _ => ((stay m, goes (n + 1) (r - 1).toNat), (stay m, comes n (r - 1).toNat))
  | .remC r => ((stay m, comes (n - 1) (r - 1).toNat), (stay m, goes n (r - 1).toNat))
/-! ### ids of rows and columns: ways told by them -/
def wayOf (A B : List Int) : List Int := B.map fun x => if x ∈ A then ((A.idxOf x : Nat) : Int) + 1 else 0
theorem wayOf_len (A B : List Int) : (wayOf A B).length = B.length := List.length_map _
theorem wayOf_mem {A B : List Int} {v : Int} (h : v ∈ wayOf A B) : 0 ≤ v ∧ v ≤ A.length := by
  obtain ⟨x, _, rfl⟩ := List.mem_map.mp h
  split
  · rename_i hx
    have := List.idxOf_lt_length_iff.mpr hx
    omega
  · omega
theorem wayOf_self {A : List Int} (h : A.Nodup) : wayOf A A = stay A.length := by
  refine List.ext_getElem? fun i => ?_
  unfold wayOf stay rgI
  rw [List.getElem?_map, List.getElem?_map, show ((A.length : Int) + 1 - 1).toNat = A.length by omega]
  by_cases hi : i < A.length
  · rw [List.getElem?_eq_getElem hi, List.getElem?_range hi]
    simp only [Option.map_some]
    rw [if_pos (List.getElem_mem hi), h.idxOf_getElem i hi]
    congr 1
    omega
  · rw [List.getElem?_eq_none (by omega), List.getElem?_eq_none (by rw [List.length_range]; omega)]
    rfl
abbrev insI (A : List Int) (k : Nat) (x : Int) : List Int := A.take k ++ [x] ++ A.drop k
abbrev remI (A : List Int) (k : Nat) : List Int := A.take k ++ A.drop (k + 1)
theorem wayOf_app (A B C : List Int) : wayOf A (B ++ C) = wayOf A B ++ wayOf A C := List.map_append
theorem wayOf_take (A B : List Int) (k : Nat) : wayOf A (B.take k) = (wayOf A B).take k := List.map_take
theorem wayOf_drop (A B : List Int) (k : Nat) : wayOf A (B.drop k) = (wayOf A B).drop k := List.map_drop
theorem wayOf_ins {A : List Int} (h : A.Nodup) {x : Int} (hx : x ∉ A) (k : Nat) : wayOf A (insI A k x) = comes A.length k := by
  unfold insI comes
  rw [wayOf_app, wayOf_app, wayOf_take, wayOf_drop, wayOf_self h]
  congr 2
  show [if x ∈ A then _ else (0 : Int)] = [0]
  rw [if_neg hx]
theorem wayOf_rem {A : List Int} (h : A.Nodup) (k : Nat) : wayOf A (remI A k) = goes A.length k := by
  unfold remI goes
  rw [wayOf_app, wayOf_take, wayOf_drop, wayOf_self h]
theorem insI_len (A : List Int) (k : Nat) (x : Int) : (insI A k x).length = A.length + 1 := by
  rw [insI, List.length_append, List.length_append, List.length_take, List.length_drop]
  simp only [List.length_cons, List.length_nil]
  omega
theorem remI_len {A : List Int} {k : Nat} (h : k < A.length) : (remI A k).length = A.length - 1 := by
  rw [remI, List.length_append, List.length_take, List.length_drop]
  omega
theorem insI_perm (A : List Int) (k : Nat) (x : Int) : (insI A k x).Perm (x :: A) := by
  have : (A.take k ++ [x] ++ A.drop k).Perm (x :: (A.take k ++ A.drop k)) := by
    rw [List.append_assoc]
    exact List.perm_middle
  rwa [List.take_append_drop] at this
theorem insI_nd {A : List Int} (h : A.Nodup) {x : Int} (hx : x ∉ A) (k : Nat) : (insI A k x).Nodup := (insI_perm A k x).nodup_iff.mpr (List.nodup_cons.mpr ⟨hx, h⟩)
theorem insI_mem {A : List Int} {k : Nat} {x v : Int} (h : v ∈ insI A k x) : v = x ∨ v ∈ A := List.mem_cons.mp ((insI_perm A k x).mem_iff.mp h)
theorem remI_ins {A : List Int} {k : Nat} (h : k ≤ A.length) (x : Int) : remI (insI A k x) k = A := by
  have hl : (A.take k).length = k := by rw [List.length_take]; omega
  unfold remI insI
  rw [List.append_assoc]
  conv => lhs; rw [show List.take k (A.take k ++ ([x] ++ A.drop k)) = A.take k by rw [List.take_append_of_le_length (by omega), List.take_of_length_le (by omega)]]
  rw [List.drop_append, List.drop_eq_nil_of_le (by omega), hl, show k + 1 - k = 1 by omega, List.nil_append]
  show A.take k ++ A.drop k = A
  exact List.take_append_drop k A
theorem ins_remI {A : List Int} {k : Nat} (h : k < A.length) : insI (remI A k) k A[k] = A := by
  have hl : (A.take k).length = k := by rw [List.length_take]; omega
  unfold remI insI
  rw [List.take_append_of_le_length (by omega), List.take_of_length_le (by omega), List.drop_append, List.drop_eq_nil_of_le (by omega), hl, Nat.sub_self, List.nil_append, List.drop_zero, List.append_assoc]
  show A.take k ++ (A[k] :: A.drop (k + 1)) = A
  rw [← List.drop_eq_getElem_cons h, List.take_append_drop]
theorem remI_sub (A : List Int) (k : Nat) : List.Sublist (remI A k) A := by
  have : List.Sublist (A.take k ++ A.drop (k + 1)) (A.take k ++ A.drop k) := List.Sublist.append_left (by rw [← List.drop_drop]; exact List.drop_sublist _ _) _
  rwa [List.take_append_drop] at this
theorem wayOf_ins2 {A : List Int} (h : A.Nodup) {x : Int} (hx : x ∉ A) {k : Nat} (hk : k ≤ A.length) : wayOf (insI A k x) A = goes (A.length + 1) k := by
  conv => lhs; rw [show A = remI (insI A k x) k from (remI_ins hk x).symm]
  have := wayOf_rem (insI_nd h hx k) k
  rw [remI_ins hk] at this ⊢
  rw [this, insI_len]
theorem remI_no {A : List Int} (h : A.Nodup) {k : Nat} (hk : k < A.length) : A[k] ∉ remI A k := fun z => by
  have := (insI_perm (remI A k) k A[k])
  rw [ins_remI hk] at this
  exact (List.nodup_cons.mp (this.nodup_iff.mp h)).1 z
theorem wayOf_rem2 {A : List Int} (h : A.Nodup) {k : Nat} (hk : k < A.length) : wayOf (remI A k) A = comes (A.length - 1) k := by
  have := wayOf_ins (h.sublist (remI_sub A k)) (remI_no h hk) k
  rw [ins_remI hk, remI_len hk] at this
  exact this
/-! ### states: a board, how many columns, its ids -/
structure Ste where
  b : List (List Int)
  n : Nat
  rs : List Int
  cs : List Int
abbrev stD (b : List (List Int)) (n : Nat) (rs cs : List Int) : PyData := .tuple [tS b, lI rs, lI cs, lLc (corAll b n b.length)]
abbrev steD (s : Ste) : PyData := stD s.b s.n s.rs s.cs
structure IdOk (f : Int) (s : Ste) : Prop where
  brd : Brd s.n s.b
  rl : s.rs.length = s.b.length
  cl : s.cs.length = s.n
  rn : s.rs.Nodup
  cn : s.cs.Nodup
  rb : ∀ v ∈ s.rs, v < f
  cb : ∀ v ∈ s.cs, v < f
  n8 : s.n ≤ 8
  m8 : s.b.length ≤ 8
theorem IdOk.mono {f g : Int} {s : Ste} (h : IdOk f s) (e : f ≤ g) : IdOk g s := ⟨h.brd, h.rl, h.cl, h.rn, h.cn, fun v hv => by have := h.rb v hv; omega, fun v hv => by have := h.cb v hv; omega, h.n8, h.m8⟩
abbrev wy (s t : Ste) : List Int × List Int := (wayOf s.rs t.rs, wayOf s.cs t.cs)
theorem wy_ok {f g : Int} {s t : Ste} (hs : IdOk f s) (ht : IdOk g t) : WayOk s.n s.b.length t.n t.b.length (wy s t) := ⟨by rw [wayOf_len, ht.rl], by rw [wayOf_len, ht.cl], fun v hv => by rw [← hs.rl]; exact wayOf_mem hv, fun v hv => by rw [← hs.cl]; exact wayOf_mem hv⟩
structure Lk (s t : Ste) (p : Stp) : Prop where
  b0 : p.b0 = s.b
  b1 : p.b1 = t.b
  fo : p.forth = wy s t
  ba : p.back = wy t s
inductive Dn : List Ste → List Stp → Ste → Prop
  | nil (c : Ste) : Dn [] [] c
  | snoc {l : List Ste} {d : List Stp} {s c : Ste} {p : Stp} : Dn l d s → Lk s c p → Dn (l ++ [s]) (d ++ [p]) c
inductive Un : List Ste → List Stp → Ste → Prop
  | nil (c : Ste) : Un [] [] c
  | snoc {l : List Ste} {d : List Stp} {t c : Ste} {p : Stp} : Un l d t → Lk c t p → Un (l ++ [t]) (d ++ [p]) c
theorem Dn.len {l : List Ste} {d : List Stp} {c : Ste} (h : Dn l d c) : l.length = d.length := by
  induction h with
  | nil => rfl
  | snoc _ _ ih => rw [List.length_append, List.length_append, ih]; rfl
theorem Un.len {l : List Ste} {d : List Stp} {c : Ste} (h : Un l d c) : l.length = d.length := by
  induction h with
  | nil => rfl
  | snoc _ _ ih => rw [List.length_append, List.length_append, ih]; rfl
theorem Dn.inv {l : List Ste} {d : List Stp} {c : Ste} (h : Dn l d c) : (l = [] ∧ d = []) ∨ ∃ l' d' s p, l = l' ++ [s] ∧ d = d' ++ [p] ∧ Dn l' d' s ∧ Lk s c p := by
  cases h with
  | nil => exact .inl ⟨rfl, rfl⟩
  | snoc h k => exact .inr ⟨_, _, _, _, rfl, rfl, h, k⟩
theorem Un.inv {l : List Ste} {d : List Stp} {c : Ste} (h : Un l d c) : (l = [] ∧ d = []) ∨ ∃ l' d' t p, l = l' ++ [t] ∧ d = d' ++ [p] ∧ Un l' d' t ∧ Lk c t p := by
  cases h with
  | nil => exact .inl ⟨rfl, rfl⟩
  | snoc h k => exact .inr ⟨_, _, _, _, rfl, rfl, h, k⟩
theorem rot1 {D A B C : Addr × OD} {O' : Own} : (D :: A :: B :: C :: O').Perm (A :: B :: C :: D :: O') := (List.perm_append_comm (l₁ := [D]) (l₂ := [A, B, C])).append_right O'
/-! ### the changes that law k23 draws: what comes of them -/
structure NxOk (f : Int) (s : Ste) (c : Chg) (rs2 cs2 : List Int) : Prop where
  due : dueD s.b.length s.n c = .none
  ok : ChgOk c
  id : IdOk (f + 1) ⟨afB s.b c, afN s.n c, rs2, cs2⟩
  fo : (afW s.b.length s.n c).2 = wy s ⟨afB s.b c, afN s.n c, rs2, cs2⟩
  ba : (afW s.b.length s.n c).1 = wy ⟨afB s.b c, afN s.n c, rs2, cs2⟩ s
theorem tn1 (k : Nat) : ((k : Int) + 1 - 1).toNat = k := by omega
theorem not_f {A : List Int} {f : Int} (h : ∀ v ∈ A, v < f) : f ∉ A := fun z => by
  have := h f z
  omega
theorem lt_f1 {A : List Int} {f : Int} (h : ∀ v ∈ A, v < f) : ∀ v ∈ A, v < f + 1 := fun v hv => by
  have := h v hv
  omega
theorem lt_ins {A : List Int} {f : Int} (h : ∀ v ∈ A, v < f) {k : Nat} : ∀ v ∈ insI A k f, v < f + 1 := fun v hv => by
  rcases insI_mem hv with rfl | hv
  · omega
  · have := h v hv
    omega
theorem sml_of {v : Int} (h1 : -1000000 ≤ v) (h2 : v ≤ 1000000) : Sml v := ⟨h1, h2⟩
theorem nx_put {f : Int} {s : Ste} (h : IdOk f s) {i j : Nat} {v : Int} (hi : i < s.b.length) (hj : j < s.n) (hv : 0 ≤ v ∧ v ≤ 1000) : NxOk f s (.put (i + 1) (j + 1) v) s.rs s.cs := by
  have hm := h.m8
  have hn := h.n8
  have e : afB s.b (.put ((i : Int) + 1) ((j : Int) + 1) v) = putB s.b i j v := by
    show putB _ _ _ _ = _
    rw [tn1, tn1]
  have hl : (putB s.b i j v).length = s.b.length := List.length_set
  refine ⟨?_, ⟨sml_of (by omega) (by omega), sml_of (by omega) (by omega), sml_of (by omega) (by omega)⟩, ?_, ?_, ?_⟩
  · exact (if_neg fun y => y ⟨by omega, by omega⟩).trans ((if_neg fun y => y ⟨by omega, by omega⟩).trans (if_neg fun y => y ⟨rfl, fun u hu => by rw [List.mem_singleton.mp hu]; exact hv⟩))
  · rw [e]
    exact ⟨putB_brd h.brd hi hv, by rw [hl]; exact h.rl, h.cl, h.rn, h.cn, lt_f1 h.rb, lt_f1 h.cb, hn, by rw [hl]; exact hm⟩
  · show (stay _, stay _) = (wayOf s.rs s.rs, wayOf s.cs s.cs)
    rw [wayOf_self h.rn, wayOf_self h.cn, h.rl, h.cl]
  · show (stay _, stay _) = (wayOf s.rs s.rs, wayOf s.cs s.cs)
    rw [wayOf_self h.rn, wayOf_self h.cn, h.rl, h.cl]
theorem nx_insR {f : Int} {s : Ste} (h : IdOk f s) {k : Nat} {xs : List Int} (hk : k ≤ s.b.length) (hm : s.b.length < 8) (hx : AmL s.n xs) : NxOk f s (.insR (k + 1) xs) (insI s.rs k f) s.cs := by
  have hn := h.n8
  have e : afB s.b (.insR ((k : Int) + 1) xs) = insB s.b k xs := by
    show insB _ _ _ = _
    rw [tn1]
  have hl : (insB s.b k xs).length = s.b.length + 1 := insB_len _ _ _
  have hf := not_f h.rb
  refine ⟨?_, ⟨sml_of (by omega) (by omega), by rw [hx.1]; omega, fun v hv => by have := hx.2 v hv; exact sml_of (by omega) (by omega)⟩, ?_, ?_, ?_⟩
  · exact (if_neg fun y => y ⟨by omega, by omega⟩).trans ((if_neg fun y => y hx).trans (if_neg (by omega)))
  · rw [e]
    exact ⟨insB_brd h.brd hx.1 hx.2, by rw [hl, insI_len, h.rl], h.cl, insI_nd h.rn hf k, h.cn, lt_ins h.rb, lt_f1 h.cb, hn, by rw [hl]; omega⟩
  · show (comes _ (((k : Int) + 1) - 1).toNat, stay _) = (wayOf s.rs (insI s.rs k f), wayOf s.cs s.cs)
    rw [wayOf_ins h.rn hf, wayOf_self h.cn, h.rl, h.cl, tn1]
  · show (goes _ (((k : Int) + 1) - 1).toNat, stay _) = (wayOf (insI s.rs k f) s.rs, wayOf s.cs s.cs)
    rw [wayOf_ins2 h.rn hf (by rw [h.rl]; exact hk), wayOf_self h.cn, h.rl, h.cl, tn1]
theorem nx_remR {f : Int} {s : Ste} (h : IdOk f s) {k : Nat} (hk : k < s.b.length) (h2 : 1 < s.b.length) : NxOk f s (.remR (k + 1)) (remI s.rs k) s.cs := by
  have hm := h.m8
  have hn := h.n8
  have e : afB s.b (.remR ((k : Int) + 1)) = remB s.b k := by
    show remB _ _ = _
    rw [tn1]
  have hl : (remB s.b k).length = s.b.length - 1 := remB_len hk
  have hrk : k < s.rs.length := by rw [h.rl]; exact hk
  refine ⟨?_, sml_of (by omega) (by omega), ?_, ?_, ?_⟩
  · exact (if_neg fun y => y ⟨by omega, by omega⟩).trans (if_neg (by omega))
  · rw [e]
    exact ⟨remB_brd h.brd hk h2, by rw [hl, remI_len hrk, h.rl], h.cl, h.rn.sublist (remI_sub _ _), h.cn, fun v hv => lt_f1 h.rb v ((remI_sub _ _).subset hv), lt_f1 h.cb, hn, by rw [hl]; omega⟩
  · show (goes _ (((k : Int) + 1) - 1).toNat, stay _) = (wayOf s.rs (remI s.rs k), wayOf s.cs s.cs)
    rw [wayOf_rem h.rn, wayOf_self h.cn, h.rl, h.cl, tn1]
  · show (comes _ (((k : Int) + 1) - 1).toNat, stay _) = (wayOf (remI s.rs k) s.rs, wayOf s.cs s.cs)
    rw [wayOf_rem2 h.rn hrk, wayOf_self h.cn, h.rl, h.cl, tn1]
theorem nx_insC {f : Int} {s : Ste} (h : IdOk f s) {k : Nat} {xs : List Int} (hk : k ≤ s.n) (hn : s.n < 8) (hx : AmL s.b.length xs) : NxOk f s (.insC (k + 1) xs) s.rs (insI s.cs k f) := by
  have hm := h.m8
  have e : afB s.b (.insC ((k : Int) + 1) xs) = insC s.b k xs := by
    show insC _ _ _ = _
    rw [tn1]
  have hl : (insC s.b k xs).length = s.b.length := insC_len _ _ _
  have hf := not_f h.cb
  refine ⟨?_, ⟨sml_of (by omega) (by omega), by rw [hx.1]; omega, fun v hv => by have := hx.2 v hv; exact sml_of (by omega) (by omega)⟩, ?_, ?_, ?_⟩
  · exact (if_neg fun y => y ⟨by omega, by omega⟩).trans ((if_neg fun y => y hx).trans (if_neg (by omega)))
  · rw [e]
    exact ⟨insC_brd h.brd hx.1 hx.2, by rw [hl, h.rl], by rw [insI_len, h.cl]; rfl, h.rn, insI_nd h.cn hf k, lt_f1 h.rb, lt_ins h.cb, Nat.succ_le_of_lt hn, by rw [hl]; omega⟩
  · show (stay _, comes _ (((k : Int) + 1) - 1).toNat) = (wayOf s.rs s.rs, wayOf s.cs (insI s.cs k f))
    rw [wayOf_ins h.cn hf, wayOf_self h.rn, h.rl, h.cl, tn1]
  · show (stay _, goes _ (((k : Int) + 1) - 1).toNat) = (wayOf s.rs s.rs, wayOf (insI s.cs k f) s.cs)
    rw [wayOf_ins2 h.cn hf (by rw [h.cl]; exact hk), wayOf_self h.rn, h.rl, h.cl, tn1]
theorem nx_remC {f : Int} {s : Ste} (h : IdOk f s) {k : Nat} (hk : k < s.n) (h2 : 1 < s.n) : NxOk f s (.remC (k + 1)) s.rs (remI s.cs k) := by
  have hm := h.m8
  have hn := h.n8
  have e : afB s.b (.remC ((k : Int) + 1)) = remC s.b k := by
    show remC _ _ = _
    rw [tn1]
  have hl : (remC s.b k).length = s.b.length := remC_len _ _
  have hck : k < s.cs.length := by rw [h.cl]; exact hk
  refine ⟨?_, sml_of (by omega) (by omega), ?_, ?_, ?_⟩
  · exact (if_neg fun y => y ⟨by omega, by omega⟩).trans (if_neg (by omega))
  · rw [e]
    exact ⟨remC_brd h.brd hk h2, by rw [hl, h.rl], by rw [remI_len hck, h.cl]; rfl, h.rn, h.cn.sublist (remI_sub _ _), lt_f1 h.rb, fun v hv => lt_f1 h.cb v ((remI_sub _ _).subset hv), Nat.le_trans (Nat.sub_le _ _) hn, by rw [hl]; omega⟩
  · show (stay _, goes _ (((k : Int) + 1) - 1).toNat) = (wayOf s.rs s.rs, wayOf s.cs (remI s.cs k))
    rw [wayOf_rem h.cn, wayOf_self h.rn, h.rl, h.cl, tn1]
  · show (stay _, comes _ (((k : Int) + 1) - 1).toNat) = (wayOf s.rs s.rs, wayOf (remI s.cs k) s.cs)
    rw [wayOf_rem2 h.cn hck, wayOf_self h.rn, h.rl, h.cl, tn1]
local macro_rules | `(tactic| walk_at "pl") => `(tactic| ((repeat' (first | exact pl_int _ _ | exact pl_none _ | exact PlAll.nil _ | assumption | refine pl_list ?_ | refine pl_tuple ?_ | refine PlAll.cons ?_ ?_ | refine PlAll.app ?_ ?_ | refine PlAll.map (fun _ => ?_))); done))
local macro_rules | `(tactic| walk_at "len") => `(tactic| first
  | omega
  | (simp only [List.length_map, List.length_append, List.length_cons, List.length_nil, List.length_reverse, List.length_range, List.length_replicate, cut_length] at *; omega))
local macro_rules | `(tactic| walk_at "e") => `(tactic| first
  | with_reducible refine w_op ?_
  | with_reducible refine w_cb ?_
  | with_reducible refine w_call ?_
  | with_reducible refine w_cons ?_
  | with_reducible refine w_nil ?_
  | with_reducible refine w_int ?_
  | with_reducible refine w_bl ?_
  | with_reducible refine w_str ?_
  | with_reducible refine w_none ?_
  | with_reducible refine w_ty ?_
  | with_reducible refine w_ref ?_
  | with_reducible refine w_un ?_
  | with_reducible refine w_if ?_
  | with_reducible refine t_yes ?_
  | (with_reducible refine t_test ?_)
  | (with_reducible refine t_B ?_)
  | with_reducible refine t_and ?_
  | with_reducible refine t_or ?_
  | with_reducible refine t_not ?_
  | with_reducible refine w_andV ?_
  | with_reducible refine w_orV ?_
  | with_reducible refine w_notV ?_
  | with_reducible refine w_chain ?_
  | with_reducible refine i_none ?_
  | with_reducible refine i_some ?_
  | with_reducible refine w_sl ?_
  | ((with_reducible show EvW _ (tVar _) _ _ _); refine w_vD rfl ?_)
  | ((with_reducible show EvW _ (tVar _) _ _ _); refine w_vA rfl ?_)
  | ((with_reducible show EvW _ (tVar _) _ _ _); refine w_vS rfl ?_)
  | ((with_reducible show EvW _ (tVar _) _ _ _); refine w_exc rfl ?_)
  | ((with_reducible show EvW _ (tVar _) _ _ _); refine w_vDic rfl ?_)
  | with_reducible refine g_isX (ExS.is (by assumption)) (by assumption) ?_
  | with_reducible refine g_isXT (ExS.is (by assumption)) (by assumption) ?_
  | ((with_reducible show OpW _ (rOr _ _) (SD.dic _) (SD.dic _) _ _); first | refine o_orR (o_neDic1 rfl ?_) | refine o_orR (o_neDic (fun p hp => by simp only [List.mem_cons, List.not_mem_nil, or_false] at hp; cases hp <;> (subst_vars; exact (Eq.refl true))) (by decide) ?_))
  | ((with_reducible show OpW _ (rOr _ _) (SD.dat _) (SD.dat _) _ _); refine o_orL ?_)
  | ((with_reducible refine i_Dic (b := true) ?hh ?_); (case hh => decide +kernel))
  | ((with_reducible refine i_Dic (b := false) ?hh ?_); (case hh => decide +kernel))
  | with_reducible refine w_xf ?_
  | ((with_reducible show EvW _ (tFs _ _) _ _ _); refine w_fs (by decide) ?_)
  | with_reducible refine w_revT ?_
  | with_reducible refine w_js ?_
  | with_reducible refine j_str ?_
  | with_reducible refine j_fmt ?_
  | with_reducible refine j_nil ?_
  | with_reducible refine w_xv0 ?_
  | with_reducible refine w_xvI ?_
  | with_reducible refine w_xvf ?_
  | ((with_reducible show EvW _ (tVar _) _ _ _); refine w_xob rfl ?_)
  | with_reducible refine g_isV (by assumption) (by assumption) ?_
  | with_reducible refine g_isVT (by assumption) (by assumption) ?_
  | with_reducible refine w_dic1 (fun _ => ?_)
  | with_reducible refine w_dic2 (fun _ _ => rfl) (fun _ => ?_)
  | with_reducible refine w_bm ?_
  | ((with_reducible refine m_app0 ?hh ?_); (case hh => walk_at "len"))
  | ((with_reducible refine m_app1 ?hh ?_); (case hh => walk_at "len"))
  | ((with_reducible refine m_app2 ?hh ?_); (case hh => walk_at "len"))
  | refine ⟨ty_own List.mem_cons_self, ?_⟩
  | refine ⟨ty_own (List.mem_cons_of_mem _ List.mem_cons_self), ?_⟩
  | refine ⟨ty_own (List.mem_cons_of_mem _ (List.mem_cons_of_mem _ List.mem_cons_self)), ?_⟩
  | ((with_reducible show EvW _ (tVar _) _ _ _); refine w_vX rfl (by assumption) ?_)
  | with_reducible refine o_add ?_
  | with_reducible refine o_sub ?_
  | with_reducible refine o_pow18 ?_
  | with_reducible refine o_lt ?_
  | with_reducible refine o_le ?_
  | with_reducible refine o_gt ?_
  | with_reducible refine o_ge ?_
  | with_reducible refine o_eqI ?_
  | with_reducible refine o_neI ?_
  | with_reducible refine o_eqB ?_
  | with_reducible refine o_neB ?_
  | with_reducible refine o_notN (b := true) rfl ?_
  | with_reducible refine o_notN (b := false) rfl ?_
  | with_reducible refine o_isN (b := true) rfl ?_
  | with_reducible refine o_isN (b := false) rfl ?_
  | with_reducible refine o_isB ?_
  | with_reducible refine o_notB ?_
  | with_reducible refine u_neg ?_
  | ((with_reducible refine o_mul ?hh ?_); (case hh => first | exact cmul_l (by omega) (by omega) | exact cmul_r (by omega) (by omega)))
  | ((with_reducible refine o_modB ?hh ?_); (case hh => first | omega | (simp only [List.length_map] at *; omega)); intro _ _ _ _)
  | ((with_reducible refine o_fdiv ?hh ?_); (case hh => constructor <;> omega))
  | ((with_reducible show OpW _ (rIxL _) (SD.ad _) _ _ _); first | refine o_ixO List.mem_cons_self rfl ?_ | refine o_ixO (List.mem_cons_of_mem _ List.mem_cons_self) rfl ?_)
  | (with_reducible refine w_lst ?_)
  | (with_reducible refine w_tup ?_)
  | refine ⟨_, Dats.nil, sz_ok rfl, ?_⟩
  | refine ⟨_, (Dats.cons Dats.nil), sz_ok rfl, ?_⟩
  | refine ⟨_, (Dats.cons (Dats.cons Dats.nil)), sz_ok rfl, ?_⟩
  | refine ⟨_, (Dats.cons (Dats.cons (Dats.cons Dats.nil))), sz_ok rfl, ?_⟩
  | refine ⟨_, (Dats.cons (Dats.cons (Dats.cons (Dats.cons Dats.nil)))), sz_ok rfl, ?_⟩
  | refine ⟨_, (Dats.cons (Dats.cons (Dats.cons (Dats.cons (Dats.cons Dats.nil))))), sz_ok rfl, ?_⟩
  | refine ⟨_, (Dats.cons (Dats.cons (Dats.cons (Dats.cons (Dats.cons (Dats.cons Dats.nil)))))), sz_ok rfl, ?_⟩
  | refine ⟨_, (Dats.cons (Dats.cons (Dats.cons (Dats.cons (Dats.cons (Dats.cons (Dats.cons Dats.nil))))))), sz_ok rfl, ?_⟩
  | refine ⟨_, (Dats.cons (Dats.cons (Dats.cons (Dats.cons (Dats.cons (Dats.cons (Dats.cons (Dats.cons Dats.nil)))))))), sz_ok rfl, ?_⟩
  | refine ⟨_, (Dats.cons (Dats.cons (Dats.cons (Dats.cons (Dats.cons (Dats.cons (Dats.cons (Dats.cons (Dats.cons Dats.nil))))))))), sz_ok rfl, ?_⟩
  | refine ⟨_, (Dats.cons (Dats.cons (Dats.cons (Dats.cons (Dats.cons (Dats.cons (Dats.cons (Dats.cons (Dats.cons (Dats.cons Dats.nil)))))))))), sz_ok rfl, ?_⟩
  | refine ⟨_, (Dats.cons (Dats.cons (Dats.cons (Dats.cons (Dats.cons (Dats.cons (Dats.cons (Dats.cons (Dats.cons (Dats.cons (Dats.cons Dats.nil))))))))))), sz_ok rfl, ?_⟩
  | refine ⟨_, (Dats.cons (Dats.cons (Dats.cons (Dats.cons (Dats.cons (Dats.cons (Dats.cons (Dats.cons (Dats.cons (Dats.cons (Dats.cons (Dats.cons Dats.nil)))))))))))), sz_ok rfl, ?_⟩
  | ((with_reducible refine o_nthL ?h1 ?h2 ?_); (case h1 => omega); (case h2 => walk_at "len"))
  | ((with_reducible refine o_nthT ?h1 ?h2 ?_); (case h1 => omega); (case h2 => walk_at "len"))
  | ((with_reducible refine o_pickM ?h1 ?h2 ?h3 ?_); (case h1 => rfl); (case h2 => omega); (case h3 => walk_at "len"); intro v hv; simp only [List.map_cons, List.map_nil, intOf, List.mem_cons, List.not_mem_nil, or_false] at hv)
  | ((with_reducible refine g_cat .d .d ?hh ?_); (case hh => walk_at "len"))
  | ((with_reducible refine g_catT ?hh ?_); (case hh => walk_at "len"))
  | ((with_reducible show OpW _ (rIxT _) (SD.dat (PyData.tuple _)) (SD.dat (PyData.int _)) _ _); refine o_ixT rfl ?_)
  | ((with_reducible show OpW _ (rIxL _) (SD.dat (PyData.list _)) (SD.dat (PyData.int _)) _ _); refine o_ixL rfl ?_)
  | ((with_reducible refine o_nthS ?h1 ?h2 ?_); (case h1 => omega); (case h2 => walk_at "len"))
  | ((with_reducible refine o_nthG (by assumption) ?h1 ?h2 ?_); (case h1 => omega); (case h2 => walk_at "len"))
  | ((with_reducible refine o_nthST ?h1 ?h2 ?_); (case h1 => omega); (case h2 => walk_at "len"))
  | ((with_reducible refine g_rep2 ?h1 ?h2 ?_); (case h1 => omega); (case h2 => omega))
  | ((with_reducible refine sl_S ?hh ?_); (case hh => walk_at "len"))
  | ((with_reducible refine o_addS ?hh ?_); (case hh => walk_at "len"))
  | ((with_reducible refine o_mulS ?h1 ?h2 ?_); (case h1 => omega); (case h2 => omega))
  | with_reducible refine o_eqT ?_
  | with_reducible refine o_neT ?_
  | with_reducible refine w_m1 ?_
  | with_reducible refine g_rev ?_
  | with_reducible refine g_list .d ?_
  | with_reducible refine ⟨_, Lst.d, ?_⟩
  | ((with_reducible refine g_lenStr ?hh ?_); (case hh => walk_at "len"))
  | with_reducible refine g_lenT ?_
  | with_reducible refine g_lenS ?_
  | with_reducible refine g_len .d ?_
  | with_reducible refine g_len (by assumption) ?_
  | with_reducible refine g_max2 ?_
  | with_reducible refine g_min2 ?_
  | with_reducible refine g_int ?_
  | with_reducible refine g_intB ?_
  | with_reducible refine g_tup .d ?_
  | with_reducible refine g_sumT ?_
  | with_reducible refine g_sum .d ?_
  | ((with_reducible show CbW _ (Wk.rLen _) [SD.ad _] _ _); first | refine g_lenO List.mem_cons_self ?_ | refine g_lenO (List.mem_cons_of_mem _ List.mem_cons_self) ?_ | refine g_lenO (List.mem_cons_of_mem _ (List.mem_cons_of_mem _ List.mem_cons_self)) ?_)
  | ((with_reducible show OpW _ (rIxT _) (SD.ad _) (SD.dat (PyData.int _)) _ _); refine o_ixTO List.mem_cons_self rfl ?_)
  | ((with_reducible show CbW _ (rIsi _) [SD.ad _, SD.ty _] _ _); first | refine i_TO (b := true) List.mem_cons_self (by decide +kernel) ?_ | refine i_TO (b := false) List.mem_cons_self (by decide +kernel) ?_ | refine i_O (b := true) (List.mem_cons_of_mem _ (List.mem_cons_of_mem _ List.mem_cons_self)) (by decide +kernel) ?_ | refine i_O (b := true) List.mem_cons_self (by decide +kernel) ?_ | refine i_O (b := true) (List.mem_cons_of_mem _ List.mem_cons_self) (by decide +kernel) ?_ | refine i_O (b := false) List.mem_cons_self (by decide +kernel) ?_ | refine i_O (b := false) (List.mem_cons_of_mem _ List.mem_cons_self) (by decide +kernel) ?_)
  | ((with_reducible refine i_B (b := true) ?hh ?_); (case hh => decide +kernel))
  | ((with_reducible refine i_B (b := false) ?hh ?_); (case hh => decide +kernel))
  | ((with_reducible refine i_I (b := true) ?hh ?_); (case hh => decide +kernel))
  | ((with_reducible refine i_I (b := false) ?hh ?_); (case hh => decide +kernel))
  | ((with_reducible refine i_T (b := true) ?hh ?_); (case hh => decide +kernel))
  | ((with_reducible refine i_T (b := false) ?hh ?_); (case hh => decide +kernel))
  | ((with_reducible refine i_L (b := true) ?hh ?_); (case hh => decide +kernel))
  | ((with_reducible refine i_L (b := false) ?hh ?_); (case hh => decide +kernel))
  | ((with_reducible refine i_N (b := true) ?hh ?_); (case hh => decide +kernel))
  | ((with_reducible refine i_N (b := false) ?hh ?_); (case hh => decide +kernel))
  | with_reducible refine g_sl .d ?_
  | with_reducible refine sl_T ?_
  | ((with_reducible refine o_eqP ?h1 ?h2 ?_); (case h1 => walk_at "pl"); (case h2 => walk_at "pl"); intro _ _)
  | ((with_reducible refine o_neP ?h1 ?h2 ?_); (case h1 => walk_at "pl"); (case h2 => walk_at "pl"); intro _ _)
  | refine b_dec (fun hd => ?_) (fun hd => ?_)
  | refine b_ndec (fun hd => ?_) (fun hd => ?_)
  | refine b_true ?_
  | refine b_false ?_
  | with_reducible refine b_any (fun hd => ?_) (fun hd => ?_)
  | with_reducible refine ⟨_, rfl, log_ok (by omega) (by omega), ?_⟩
  | with_reducible refine ⟨_, rfl, ?_⟩
  | with_reducible refine ⟨_, _, rfl, rfl, ?_⟩
  | with_reducible refine ⟨rfl, ?_⟩
  | fail "walk")
local macro_rules | `(tactic| walk_at "w") => `(tactic| first
  | with_reducible refine s_seq ?_
  | with_reducible refine s_next ?_
  | with_reducible refine s_asg ?_
  | with_reducible refine s_ret ?_
  | with_reducible refine s_retN ?_
  | with_reducible refine s_drop ?_
  | with_reducible refine s_if ?_
  | with_reducible refine s_setL ?_
  | ((with_reducible show StW _ (tAug _ _ _) _ _ _); refine s_aug ⟨_, rfl, ?_⟩)
  | ((with_reducible show StW _ (tRz1 _ _ _) _ _ _); refine s_rz1 (fun _ hx => hx) ?_)
  | ((with_reducible show StW _ (tRz _ _) _ _ _); refine s_rz (fun _ hx => hx) ?_)
  | ((with_reducible show StW _ (tRzI _ _ _ _) _ _ _); refine s_rzI (fun _ hx => hx) ?_)
  | walk_at "e")
local macro_rules | `(tactic| walk_at "no") => `(tactic| first
  | (rename_i hf; exact absurd rfl hf)
  | (rename_i hf; exact Bool.noConfusion hf)
  | (rename_i hq hf; exact (no_neB hq rfl hf).elim))
def topS (i : Nat) : Stmt := PySem.Challenge.pw_walkhands_k23_benches_of_boards.main.body.getD i (.Pass ⟨0, 0, 0, 0⟩)
section
variable {P : Program} {w : World} {K : PySem.W.Frag} {mg : Str → Option Value} {base : Heap}
def pre_law_draws : Pre := fun rs O Q => ∃ cell : Int, rs = [iV cell, iV 1000003, iV 6] ∧ ∀ row : List Int, row.length = 6 → (∀ v ∈ row, 0 ≤ v ∧ v < 1000003) → Q (.dat (lI row)) O
theorem len_law_draws (rs : List SD) (O : Own) (Q : SD → Own → Prop) (h : pre_law_draws rs O Q) : rs.length = 3 := by
  obtain ⟨ns, rfl, _⟩ := h
  rfl
abbrev s_law_draws : Stmt := topS 33
theorem sc_law_draws : FnScope ["cell", "modulus", "count", "number", "row", "k", "mixed"] ["cell", "modulus", "count"] (defScope s_law_draws) := ⟨rfl, rfl, rfl, by decide +kernel, rfl, by decide +kernel, by decide +kernel⟩
set_option maxHeartbeats 4000000 in
theorem ok_law_draws  (D : Def K mg "_law_draws" s_law_draws) (m_int : mg "int" = none) (m_range : mg "range" = none) : Callee P w K mg base "_law_draws" ["cell", "modulus", "count"] 1 pre_law_draws := by
  obtain ⟨f, fd, F, hmg⟩ := D
  refine ⟨f, fd, fn_ok F sc_law_draws len_law_draws fun cdv A outer s H E hr => ⟨_, (pss_cons (ps_set (i := 3) sc_law_draws.nd rfl (.inl rfl) (pv 0))
      (pss_cons (ps_if (pt_cmpR op_lt (pv 3) pe_int (nomark _)) (pss_one (ps_set (i := 3) sc_law_draws.nd rfl (.inl rfl) (pe_op op_sub pe_int (pv 3)))) pss_nil)
      (pss_cons (ps_set (i := 4) sc_law_draws.nd rfl (.inl rfl) (pe_lst pa_nil))
      (pss_cons (ps_if (pt_cmpR op_ge (pv 3) (pe_op op_pow pe_int pe_int) (nomark _)) (pss_cons (ps_for PassesOwn.never rfl (pi_range1 (by rfl) m_range (pa_cons (pv 2) pa_nil)) (pg_name (i := 5) sc_law_draws.nd rfl (.inl rfl)) (pss_cons (psApp K (ps_expr (pe_bm PySem.F.plainAttrs_list PySem.F.slot_list_append PySem.F.type_list_append mt_append (pv 4) (pa_cons (pe_op op_mod (pe_callTy kInt1 (by rfl) m_int (by decide +kernel) (pa_cons (pv 3) pa_nil)) (pv 1)) pa_nil))))
      (pss_one (ps_set (i := 3) sc_law_draws.nd rfl (.inl rfl) (pe_op op_fdiv (pv 3) (pv 1))))))
      (pss_one (ps_ret (pv 4)))) pss_nil)
      (pss_cons (ps_for PassesOwn.never rfl (pi_range1 (by rfl) m_range (pa_cons (pv 2) pa_nil)) (pg_name (i := 5) sc_law_draws.nd rfl (.inl rfl)) (pss_cons (ps_set (i := 6) sc_law_draws.nd rfl (.inl rfl) (pe_op op_mod (pe_callTy kInt1 (by rfl) m_int (by decide +kernel) (pa_cons (pe_op op_mul (pe_op op_add (pe_op op_add (pv 3) (pe_op op_mul pe_int (pv 5))) pe_int) pe_int) pa_nil)) pe_int))
      (pss_cons (ps_set (i := 6) sc_law_draws.nd rfl (.inl rfl) (pe_op op_mod (pe_callTy kInt1 (by rfl) m_int (by decide +kernel) (pa_cons (pe_op op_add (pe_op op_mul (pv 6) pe_int) (pe_op op_mul pe_int (pv 5))) pa_nil)) pe_int))
      (pss_one (psApp K (ps_expr (pe_bm PySem.F.plainAttrs_list PySem.F.slot_list_append PySem.F.type_list_append mt_append (pv 4) (pa_cons (pe_op op_mod (pe_callTy kInt1 (by rfl) m_int (by decide +kernel) (pa_cons (pe_op op_fdiv (pv 6) pe_int) pa_nil)) (pv 1)) pa_nil))))))))
      (pss_one (ps_ret (pv 4)))))))), ?_⟩, hmg, F.kp, F.binds fun _ _ _ _ _ _ us hl => match us, hl with | [_, _, _], _ => rfl, Wk.Fun.lk F⟩
  intro rs O Q h
  obtain ⟨cell, rfl, q⟩ := h
  show StW K _ O [iV cell, iV 1000003, iV 6, .non, .non, .non, .non] _
  refine s_seq (s_asg ?_)
  repeat' walk_at "e"
  refine s_cut (fun O1 ds1 => ∃ n : Int, 0 ≤ n ∧ O1 = O ∧ ds1 = [iV cell, iV 1000003, iV 6, iV n, .non, .non, .non]) ?_ ?_
  · repeat' walk_at "w"
    · exact ⟨0 - cell, by omega, rfl, rfl⟩
    · exact ⟨cell, by omega, rfl, rfl⟩
  · rintro O1 ds1 ⟨n, hn0, hO, rfl⟩
    subst hO
    refine s_seq (s_asg (w_lstO (w_nil ⟨sz_ok rfl, fun p => ?_⟩)))
    refine s_seq (s_if ?_)
    repeat' walk_at "e"
    · refine s_seq (s_for1 ?_)
      repeat' walk_at "e"
      refine ⟨by decide, by decide, fun j O2 ds2 => ∃ (us : List Int) (m : Int) (z : SD), 0 ≤ m ∧ us.length = j ∧ (∀ v ∈ us, 0 ≤ v ∧ v < 1000003) ∧ O2 = (p, .lst (us.map fun n => iV n)) :: O1 ∧ ds2 = [iV cell, iV 1000003, iV 6, iV m, .ad p, z, .non], ⟨[], n, .non, hn0, rfl, fun _ h => absurd h List.not_mem_nil, rfl, rfl⟩, fun j O2 ds2 hj hI B2 hB2 => ?_, fun O2 ds2 hI => ?_⟩
      · obtain ⟨us, m, z, hm0, hul, hu, rfl, rfl⟩ := hI
        repeat' walk_at "w"
        rename_i v hv0 hv1 hv
        refine hB2.nx _ _ ⟨us ++ [v], m / 1000003, _, by omega, by rw [List.length_append, hul]; rfl, fun x hx => ?_, by rw [List.map_append]; rfl, rfl⟩
        rcases List.mem_append.mp hx with hx | hx
        · exact hu x hx
        · rw [List.mem_singleton.mp hx]
          exact ⟨hv0, hv1⟩
      · obtain ⟨us, m, z, hm0, hul, hu, rfl, rfl⟩ := hI
        refine s_ret (w_frz (w_vA rfl ⟨p, _, _, O1, rfl, .refl _, Dats.ints us, ?_⟩))
        exact q us hul hu
    · with_reducible refine s_next ?_
      refine s_seq (s_for1 ?_)
      repeat' walk_at "e"
      refine ⟨by decide, by decide, fun j O2 ds2 => ∃ (us : List Int) (z z2 : SD), us.length = j ∧ (∀ v ∈ us, 0 ≤ v ∧ v < 1000003) ∧ O2 = (p, .lst (us.map fun n => iV n)) :: O1 ∧ ds2 = [iV cell, iV 1000003, iV 6, iV n, .ad p, z, z2], ⟨[], .non, .non, rfl, fun _ h => absurd h List.not_mem_nil, rfl, rfl⟩, fun j O2 ds2 hj hI B2 hB2 => ?_, fun O2 ds2 hI => ?_⟩
      · obtain ⟨us, z, z2, hul, hu, rfl, rfl⟩ := hI
        repeat' walk_at "w"
        rename_i v hv0 hv1 hv
        refine hB2.nx _ _ ⟨us ++ [v], _, _, by rw [List.length_append, hul]; rfl, fun x hx => ?_, by rw [List.map_append]; rfl, rfl⟩
        rcases List.mem_append.mp hx with hx | hx
        · exact hu x hx
        · rw [List.mem_singleton.mp hx]
          exact ⟨hv0, hv1⟩
      · obtain ⟨us, z, z2, hul, hu, rfl, rfl⟩ := hI
        refine s_ret (w_frz (w_vA rfl ⟨p, _, _, O1, rfl, .refl _, Dats.ints us, ?_⟩))
        exact q us hul hu
structure BoxOk (row : List Int) : Prop where
  pos : 0 < row.length
  len : row.length ≤ 1000
  all : ∀ v ∈ row, 0 ≤ v ∧ v < 1000003
abbrev Box (bx : Addr) (row : List Int) (k : Int) : Addr × OD := (bx, .dK [(.inr "row", .dat (lI row)), (.inr "at", iV k)])
def pre_law_box : Pre := fun rs O Q => ∃ ns : List Int, rs = [.scr ns] ∧ ns.length ≤ 63 ∧ ∀ (bx : Addr) (row : List Int), BoxOk row → Q (.ad bx) (Box bx row 0 :: O)
theorem len_law_box (rs : List SD) (O : Own) (Q : SD → Own → Prop) (h : pre_law_box rs O Q) : rs.length = 1 := by
  obtain ⟨ns, rfl, _⟩ := h
  rfl
abbrev s_law_box : Stmt := topS 34
theorem sc_law_box : FnScope ["script", "row", "cell"] ["script"] (defScope s_law_box) := ⟨rfl, rfl, rfl, by decide +kernel, rfl, by decide +kernel, by decide +kernel⟩
set_option maxHeartbeats 4000000 in
theorem ok_law_box  (D : Def K mg "_law_box" s_law_box) (C_law_draws : Callee P w K mg base "_law_draws" ["cell", "modulus", "count"] 1 pre_law_draws) (m_len : mg "len" = none) : Callee P w K mg base "_law_box" ["script"] 2 pre_law_box := by
  obtain ⟨f, fd, F, hmg⟩ := D
  obtain ⟨f_law_draws, fd_law_draws, G_law_draws, g_law_draws, kp_law_draws, b_law_draws, _⟩ := C_law_draws
  refine ⟨f, fd, fn_ok F sc_law_box len_law_box fun cdv A outer s H E hr => ⟨_, (pss_cons (ps_set (i := 1) sc_law_box.nd rfl (.inl rfl) (pe_lst pa_nil))
      (pss_cons (ps_for PassesOwn.never rfl (piL K (pv 0)) (pg_name (i := 2) sc_law_box.nd rfl (.inl rfl)) (pss_one (ps_set (i := 1) sc_law_box.nd rfl (.inl rfl) (pe_op op_cat (pv 1) (pe_call G_law_draws (hr.mono (by decide)) (by rfl) g_law_draws kp_law_draws b_law_draws .nil pass0 (pa_cons (pv 2) (pa_cons pe_int (pa_cons pe_int pa_nil))))))))
      (pss_cons (ps_if (pt_cmpR op_eq (pe_callB (kLen K) (by rfl) m_len PySem.boot_len (pa_cons (pv 1) pa_nil)) pe_int (nomark _)) (pss_one (ps_set (i := 1) sc_law_box.nd rfl (.inl rfl) (pe_lst (pa_cons pe_int (pa_cons pe_int (pa_cons pe_int (pa_cons pe_int (pa_cons pe_int (pa_cons pe_int (pa_cons pe_int pa_nil)))))))))) pss_nil)
      (pss_one (ps_ret (pe_disp (pps_cons pe_str (pv 1) (pps_cons pe_str pe_int pps_nil)) (by rfl) (by rfl) (fun z => by cases z) (by decide))))))), ?_⟩, hmg, F.kp, F.binds fun _ _ _ _ _ _ us hl => match us, hl with | [_], _ => rfl, Wk.Fun.lk F⟩
  intro rs O Q h
  obtain ⟨ns, rfl, hn, q⟩ := h
  show StW K _ O [.scr ns, .non, .non] _
  refine s_seq (s_asg ?_)
  repeat' walk_at "e"
  refine s_seq (s_forS (w_vS rfl ⟨ns, rfl, fun i O2 ds2 => ∃ (us : List Int) (z : SD), us.length = 6 * i ∧ (∀ v ∈ us, 0 ≤ v ∧ v < 1000003) ∧ O2 = O ∧ ds2 = [.scr ns, .dat (lI us), z], ⟨[], .non, rfl, fun _ h => absurd h List.not_mem_nil, rfl, rfl⟩, fun i d O2 ds2 hd hI B hB => ?_, fun O2 ds2 hI => ?_⟩))
  · obtain ⟨us, z, hul, hu, hO, rfl⟩ := hI
    have hi : i < ns.length := (List.getElem?_eq_some_iff.mp hd).1
    refine s_asg ?_
    repeat' walk_at "e"
    refine ⟨d, rfl, fun row hr hrow => ?_⟩
    refine g_cat .d .d (by rw [List.length_map, List.length_map]; omega) ?_
    rw [← List.map_append]
    refine hB.nx _ _ ⟨us ++ row, _, by rw [List.length_append, hul, hr]; omega, fun x hx => ?_, hO, rfl⟩
    rcases List.mem_append.mp hx with hx | hx
    · exact hu x hx
    · exact hrow x hx
  · obtain ⟨us, z, hul, hu, hO, rfl⟩ := hI
    subst hO
    refine s_cut (fun O1 ds1 => ∃ row : List Int, BoxOk row ∧ O1 = O2 ∧ ds1 = [.scr ns, .dat (lI row), z]) ?_ ?_
    · refine s_if ?_
      repeat' walk_at "e"
      · refine s_asg ?_
        repeat' walk_at "e"
        exact ⟨[11, 5, 2, 7, 31, 101, 997], ⟨by decide, by decide, by decide⟩, rfl, rfl⟩
      · rename_i hf
        rw [List.length_map] at hf
        with_reducible refine s_next ?_
        exact ⟨us, ⟨by omega, by omega, hu⟩, rfl, rfl⟩
    · rintro O1 ds1 ⟨row, hrow, hO, rfl⟩
      subst hO
      refine s_ret (w_dic2O (fun _ _ => rfl) (fun pn => ?_))
      repeat' walk_at "e"
      exact q pn row hrow
def pre_law_next : Pre := fun rs O Q => ∃ (bx : Addr) (row : List Int) (k m : Int) (O' : Own), rs = [.ad bx, iV m] ∧ O = Box bx row k :: O' ∧ BoxOk row ∧ 0 ≤ k ∧ k < 1000000000 ∧ 0 < m ∧ ∀ n : Int, 0 ≤ n → n < m → Q (iV n) (Box bx row (k + 1) :: O')
theorem len_law_next (rs : List SD) (O : Own) (Q : SD → Own → Prop) (h : pre_law_next rs O Q) : rs.length = 2 := by
  obtain ⟨ts, a, m, x, y, rfl, _⟩ := h
  rfl
local macro_rules | `(tactic| walk_at "e") => `(tactic| ((with_reducible show pre_law_next _ _ _); refine ⟨_, _, _, _, _, rfl, rfl, by assumption, by omega, by omega, by omega, ?_⟩; intro _ _ _))
abbrev s_law_next : Stmt := topS 35
theorem sc_law_next : FnScope ["box", "modulus", "at", "number"] ["box", "modulus"] (defScope s_law_next) := ⟨rfl, rfl, rfl, by decide +kernel, rfl, by decide +kernel, by decide +kernel⟩
set_option maxHeartbeats 4000000 in
theorem ok_law_next  (D : Def K mg "_law_next" s_law_next) (m_int : mg "int" = none) (m_len : mg "len" = none) : Callee P w K mg base "_law_next" ["box", "modulus"] 1 pre_law_next := by
  obtain ⟨f, fd, F, hmg⟩ := D
  refine ⟨f, fd, fn_ok F sc_law_next len_law_next fun cdv A outer s H E hr => ⟨_, (pss_cons (ps_set (i := 2) sc_law_next.nd rfl (.inl rfl) (pe_dget (Nat.lt_of_le_of_lt (Nat.add_le_add_left (by decide : 1 ≤ 64) _) hr.units) (pv 0) pe_str (fun _ _ => rfl)))
      (pss_cons (ps_asg (pe_op op_add (pv 2) pe_int) (pg_sub (pv 0) pe_str (set_dict (Nat.lt_of_le_of_lt (Nat.add_le_add_left (by decide : 1 ≤ 64) _) hr.units))))
      (pss_cons (ps_set (i := 3) sc_law_next.nd rfl (.inl rfl) (pe_ix (ixL K) (pe_dget (Nat.lt_of_le_of_lt (Nat.add_le_add_left (by decide : 1 ≤ 64) _) hr.units) (pv 0) pe_str (fun _ _ => rfl)) (pe_op op_mod (pv 2) (pe_callB (kLen K) (by rfl) m_len PySem.boot_len (pa_cons (pe_dget (Nat.lt_of_le_of_lt (Nat.add_le_add_left (by decide : 1 ≤ 64) _) hr.units) (pv 0) pe_str (fun _ _ => rfl)) pa_nil))) (fun _ _ => rfl)))
      (pss_one (ps_ret (pe_op op_mod (pe_callTy kInt1 (by rfl) m_int (by decide +kernel) (pa_cons (pe_op op_add (pv 3) (pe_op op_mul pe_int (pe_op op_fdiv (pv 2) (pe_callB (kLen K) (by rfl) m_len PySem.boot_len (pa_cons (pe_dget (Nat.lt_of_le_of_lt (Nat.add_le_add_left (by decide : 1 ≤ 64) _) hr.units) (pv 0) pe_str (fun _ _ => rfl)) pa_nil))))) pa_nil)) (pv 1))))))), ?_⟩, hmg, F.kp, F.binds fun _ _ _ _ _ _ us hl => match us, hl with | [_, _], _ => rfl, Wk.Fun.lk F⟩
  intro rs O Q h
  obtain ⟨bx, row, k, m, O', rfl, rfl, hr, h0, h1, hm, q⟩ := h
  have hp := hr.pos
  have hl := hr.len
  have hlm : (row.map PyData.int).length = row.length := List.length_map ..
  show StW K _ (Box bx row k :: O') [.ad bx, iV m, .non, .non] _
  refine s_seq (s_asg (w_dget (w_vA rfl ⟨bx, _, iV k, rfl, List.mem_cons_self, rfl, ?_⟩)))
  refine s_seq (s_setD ?_)
  repeat' walk_at "e"
  refine ⟨bx, _, iV k, O', _, rfl, .refl _, Nat.le_of_ble_eq_true rfl, rfl, .refl _, ?_⟩
  show StW K _ (Box bx row (k + 1) :: O') [.ad bx, iV m, iV k, .non] _
  refine s_seq (s_asg (w_op (w_dget (w_vA rfl ⟨bx, _, .dat (lI row), rfl, List.mem_cons_self, rfl, ?_⟩))))
  refine w_op (w_vD rfl (w_cb (w_cons (w_dget (w_vA rfl ⟨bx, _, .dat (lI row), rfl, List.mem_cons_self, rfl, ?_⟩)))))
  repeat' walk_at "e"
  refine s_ret (w_op (w_cb (w_cons (w_op ?_))))
  repeat' walk_at "e"
  refine w_dget (w_vA rfl ⟨bx, _, .dat (lI row), rfl, List.mem_cons_self, rfl, ?_⟩)
  repeat' walk_at "e"
  exact q _ (by assumption) (by assumption)
def pre_law_board : Pre := fun rs O Q => ∃ (bx : Addr) (row : List Int) (k most am : Int) (O' : Own), rs = [.ad bx, iV most, iV am] ∧ O = Box bx row k :: O' ∧ BoxOk row ∧ 0 ≤ k ∧ k < 900000000 ∧ 1 ≤ most ∧ most ≤ 8 ∧ 1 ≤ am ∧ am ≤ 1001 ∧ ∀ (n : Nat) (b : List (List Int)) (k2 : Int), Brd n b → (n : Int) ≤ most → (b.length : Int) ≤ most → (∀ r ∈ b, ∀ v ∈ r, v < am) → k ≤ k2 → k2 ≤ k + 100 → Q (.dat (tS b)) (Box bx row k2 :: O')
theorem len_law_board (rs : List SD) (O : Own) (Q : SD → Own → Prop) (h : pre_law_board rs O Q) : rs.length = 3 := by
  obtain ⟨st, ts, k, most, am, O', rfl, _⟩ := h
  rfl
abbrev s_law_board : Stmt := topS 36
theorem sc_law_board : FnScope ["box", "most", "amounts", "rows", "columns", "i", "j"] ["box", "most", "amounts"] (defScope s_law_board) := ⟨rfl, rfl, rfl, by decide +kernel, rfl, by decide +kernel, by decide +kernel⟩
set_option maxHeartbeats 4000000 in
theorem ok_law_board  (D : Def K mg "_law_board" s_law_board) (C_law_next : Callee P w K mg base "_law_next" ["box", "modulus"] 1 pre_law_next) (m_range : mg "range" = none) (m_tuple : mg "tuple" = none) : Callee P w K mg base "_law_board" ["box", "most", "amounts"] 2 pre_law_board := by
  obtain ⟨f, fd, F, hmg⟩ := D
  obtain ⟨f_law_next, fd_law_next, G_law_next, g_law_next, kp_law_next, b_law_next, _⟩ := C_law_next
  refine ⟨f, fd, fn_ok F sc_law_board len_law_board fun cdv A outer s H E hr => ⟨_, (pss_cons (ps_set (i := 3) sc_law_board.nd rfl (.inl rfl) (pe_op op_add pe_int (pe_call G_law_next (hr.mono (by decide)) (by rfl) g_law_next kp_law_next b_law_next .nil pass0 (pa_cons (pv 0) (pa_cons (pv 1) pa_nil)))))
      (pss_cons (ps_set (i := 4) sc_law_board.nd rfl (.inr rfl) (pe_op op_add pe_int (pe_call G_law_next (hr.mono (by decide)) (by rfl) g_law_next kp_law_next b_law_next .nil pass0 (pa_cons (pv 0) (pa_cons (pv 1) pa_nil)))))
      (pss_one (ps_ret (pe_callTy (kTupOf K) (by rfl) m_tuple (by decide +kernel) (pa_cons (pe_lc (own := [("i", 5)]) (g := gName 5) rfl sc_law_board.nd (pi_range1 (by rfl) m_range (pa_cons (pv 3) pa_nil)) (blkOk_by (own := [("i", 5)]) (N := ["box", "most", "amounts", "rows", "columns", "i", "j"]) (by first | (show blkC _ (defScope s_law_board) _ _ = true; decide +kernel) | kernel_rfl | rfl)) (fun _ _ _ _ _ => pg_name (i := 5) sc_law_board.nd rfl (by first | exact Or.inl rfl | exact Or.inr rfl)) (fun _ _ _ _ _ => pts_nil) (fun _ _ _ _ _ => (pe_callTy (kTupOf K) (by rfl) m_tuple (by decide +kernel) (pa_cons (pe_lc (own := [("j", 6)]) (g := gName 6) rfl sc_law_board.nd (pi_range1 (by rfl) m_range (pa_cons (pv 4) pa_nil)) (blkOk_by (own := [("j", 6)]) (N := ["box", "most", "amounts", "rows", "columns", "i", "j"]) (by first | (show blkC _ (defScope s_law_board) _ _ = true; decide +kernel) | kernel_rfl | rfl)) (fun _ _ _ _ _ => pg_name (i := 6) sc_law_board.nd rfl (by first | exact Or.inl rfl | exact Or.inr rfl)) (fun _ _ _ _ _ => pts_nil) (fun _ _ _ _ _ => (pe_call G_law_next (hr.mono (by decide)) (by rfl) g_law_next kp_law_next b_law_next .nil pass0 (pa_cons (pv 0) (pa_cons (pv 2) pa_nil))))) pa_nil)))) pa_nil)))))), ?_⟩, hmg, F.kp, F.binds fun _ _ _ _ _ _ us hl => match us, hl with | [_, _, _], _ => rfl, Wk.Fun.lk F⟩
  intro rs O Q h
  obtain ⟨bx, row, k, most, am, O', rfl, rfl, hr, h0, h1, hm0, hm1, ha0, ha1, q⟩ := h
  show StW K _ (Box bx row k :: O') [.ad bx, iV most, iV am, .non, .non, .non, .non] _
  refine s_seq (s_asg ?_)
  repeat' walk_at "e"
  rename_i r0 hr0 hr1
  refine s_seq (s_asg ?_)
  repeat' walk_at "e"
  rename_i c0 hc0 hc1
  refine s_ret ?_
  repeat' walk_at "e"
  refine w_frz (w_lc1 ?_)
  repeat' walk_at "e"
  refine ⟨by omega, by omega, fun i acc O2 => ∃ (b : List (List Int)) (k2 : Int), acc = b.map (fun r => SD.dat (tI r)) ∧ b.length = i ∧ (∀ r ∈ b, (r.length : Int) = 1 + c0 ∧ ∀ v ∈ r, 0 ≤ v ∧ v < am) ∧ k ≤ k2 ∧ k2 ≤ k + 2 + 8 * i ∧ O2 = Box bx row k2 :: O', ⟨[], k + 1 + 1, rfl, rfl, fun _ h => absurd h List.not_mem_nil, by omega, by omega, rfl⟩, fun i acc O2 hi hl hI => ?_, fun acc O2 Dl hI => ?_⟩
  · obtain ⟨b, k2, rfl, hbl, hbr, hk1, hk2, rfl⟩ := hI
    refine LcTurn1.to fun Dl0 => ?_
    repeat' walk_at "e"
    refine w_frz (w_lc1 ?_)
    repeat' walk_at "e"
    refine ⟨by omega, by omega, fun j acc O2 => ∃ (us : List Int) (k3 : Int), acc = us.map (fun n => iV n) ∧ us.length = j ∧ (∀ v ∈ us, 0 ≤ v ∧ v < am) ∧ k2 ≤ k3 ∧ k3 ≤ k2 + j ∧ O2 = Box bx row k3 :: (Dl0, .lst (b.map fun r => .dat (tI r))) :: O', ⟨[], k2, rfl, rfl, fun _ h => absurd h List.not_mem_nil, by omega, by omega, rfl⟩, fun j acc O2 hj hl hI => ?_, fun acc O2 Dl hI => ?_⟩
    · obtain ⟨us, k3, rfl, hu, hp, h2, h3, rfl⟩ := hI
      refine LcTurn1.to fun Dl => ?_
      repeat' walk_at "e"
      rename_i z hz0 hz1
      refine ⟨_, _, rfl, us ++ [z], k3 + 1, by rw [List.map_append]; rfl, by rw [List.length_append, hu]; rfl, fun x hx => ?_, by omega, by omega, rfl⟩
      rcases List.mem_append.mp hx with hx | hx
      · exact hp x hx
      · rw [List.mem_singleton.mp hx]
        omega
    · obtain ⟨us, k3, rfl, hu, hp, h2, h3, rfl⟩ := hI
      refine ⟨Dl, _, _, _, rfl, .refl _, Dats.ints us, ?_⟩
      repeat' walk_at "e"
      have e1 : (us.length : Int) = 1 + c0 := by rw [hu]; omega
      refine ⟨_, _, rfl, b ++ [us], k3, by rw [List.map_append]; rfl, by rw [List.length_append, hbl]; rfl, fun r hr => ?_, by omega, by omega, rfl⟩
      rcases List.mem_append.mp hr with hr | hr
      · exact hbr r hr
      · rw [List.mem_singleton.mp hr]
        exact ⟨e1, hp⟩
  · obtain ⟨b, k2, rfl, hbl, hbr, hk1, hk2, rfl⟩ := hI
    refine ⟨Dl, _, _, _, rfl, .refl _, mS_dats b, ?_⟩
    repeat' walk_at "e"
    refine q (1 + c0).toNat b _ ⟨by omega, by omega, fun r hr => ⟨by have := (hbr r hr).1; omega, fun v hv => by have := (hbr r hr).2 v hv; omega⟩⟩ (by omega) (by omega) (fun r hr v hv => ((hbr r hr).2 v hv).2) (by omega) (by omega)
def pre_law_part : Pre := fun rs O Q => ∃ (ns : List Int) (r : Int), rs = [.dat (tI ns), iV r] ∧ 1 ≤ r ∧ Q (iV (pt ns r)) O
theorem len_law_part (rs : List SD) (O : Own) (Q : SD → Own → Prop) (h : pre_law_part rs O Q) : rs.length = 2 := by
  obtain ⟨ns, r, rfl, _⟩ := h
  rfl
local macro_rules | `(tactic| walk_at "e") => `(tactic| ((with_reducible show pre_law_part _ _ _); refine ⟨_, _, rfl, by omega, ?_⟩))
abbrev s_law_part : Stmt := topS 37
theorem sc_law_part : FnScope ["shape", "number"] ["shape", "number"] (defScope s_law_part) := ⟨rfl, rfl, rfl, by decide +kernel, rfl, by decide +kernel, by decide +kernel⟩
set_option maxHeartbeats 4000000 in
theorem ok_law_part  (D : Def K mg "_law_part" s_law_part) (m_len : mg "len" = none) : Callee P w K mg base "_law_part" ["shape", "number"] 1 pre_law_part := by
  obtain ⟨f, fd, F, hmg⟩ := D
  refine ⟨f, fd, fn_ok F sc_law_part len_law_part fun cdv A outer s H E hr => ⟨_, (pss_cons (ps_if (pt_cmpR op_le (pv 1) (pe_callB (kLen K) (by rfl) m_len PySem.boot_len (pa_cons (pv 0) pa_nil)) (nomark _)) (pss_one (ps_ret (pe_ix (ixT K) (pv 0) (pe_op op_sub (pv 1) pe_int) (fun _ _ => rfl)))) pss_nil)
      (pss_one (ps_ret pe_int))), ?_⟩, hmg, F.kp, F.binds fun _ _ _ _ _ _ us hl => match us, hl with | [_, _], _ => rfl, Wk.Fun.lk F⟩
  intro rs O Q h
  obtain ⟨ns, r, rfl, h1, q⟩ := h
  show StW K _ O [.dat (tI ns), iV r] _
  repeat' walk_at "w"
  · exact q
  · rename_i hl
    have e : pt ns r = 0 := px_ge (by simp only [List.length_map] at hl; omega)
    rw [e] at q
    exact q
def pre_law_grow : Pre := fun rs O Q => ∃ (rho mu nu : List Int) (c : Int), rs = [.dat (tI rho), .dat (tI mu), .dat (tI nu), iV c] ∧ rho.length ≤ 10000 ∧ mu.length ≤ 10000 ∧ nu.length ≤ 10000 ∧ Sq rho mu nu c ∧ Q (.dat (tI (grow rho mu nu c))) O
theorem len_law_grow (rs : List SD) (O : Own) (Q : SD → Own → Prop) (h : pre_law_grow rs O Q) : rs.length = 4 := by
  obtain ⟨rho, mu, nu, c, rfl, _⟩ := h
  rfl
theorem filt_pos {ns : List Int} (h : ∀ v ∈ ns, 0 ≤ v) : (ns.filter fun v => decide (0 < v)) = trim ns := by
  unfold trim
  refine List.filter_congr fun v hv => ?_
  have := h v hv
  by_cases z : v = 0
  · rw [z]; rfl
  · rw [decide_eq_true (show 0 < v by omega), decide_eq_false z]; rfl
abbrev s_law_grow : Stmt := topS 38
theorem sc_law_grow : FnScope ["rho", "mu", "nu", "count", "parts", "r", "least", "item"] ["rho", "mu", "nu", "count"] (defScope s_law_grow) := ⟨rfl, rfl, rfl, by decide +kernel, rfl, by decide +kernel, by decide +kernel⟩
set_option maxHeartbeats 4000000 in
theorem ok_law_grow  (D : Def K mg "_law_grow" s_law_grow) (C_law_part : Callee P w K mg base "_law_part" ["shape", "number"] 1 pre_law_part) (m_len : mg "len" = none) (m_max : mg "max" = none) (m_min : mg "min" = none) (m_range : mg "range" = none) (m_tuple : mg "tuple" = none) : Callee P w K mg base "_law_grow" ["rho", "mu", "nu", "count"] 2 pre_law_grow := by
  obtain ⟨f, fd, F, hmg⟩ := D
  obtain ⟨f_law_part, fd_law_part, G_law_part, g_law_part, kp_law_part, b_law_part, _⟩ := C_law_part
  refine ⟨f, fd, fn_ok F sc_law_grow len_law_grow fun cdv A outer s H E hr => ⟨_, (pss_cons (ps_set (i := 4) sc_law_grow.nd rfl (.inl rfl) (pe_lst (pa_cons (pe_op op_add (pe_callB (kMax2 rfl) (by rfl) m_max (by decide +kernel) (pa_cons (pe_call G_law_part (hr.mono (by decide)) (by rfl) g_law_part kp_law_part b_law_part .nil pass0 (pa_cons (pv 1) (pa_cons pe_int pa_nil))) (pa_cons (pe_call G_law_part (hr.mono (by decide)) (by rfl) g_law_part kp_law_part b_law_part .nil pass0 (pa_cons (pv 2) (pa_cons pe_int pa_nil))) pa_nil))) (pv 3)) pa_nil)))
      (pss_cons (ps_for PassesOwn.never rfl (pi_range2 (by rfl) m_range (pa_cons pe_int (pa_cons (pe_op op_add (pe_callB (kMax2 rfl) (by rfl) m_max (by decide +kernel) (pa_cons (pe_callB (kLen K) (by rfl) m_len PySem.boot_len (pa_cons (pv 1) pa_nil)) (pa_cons (pe_callB (kLen K) (by rfl) m_len PySem.boot_len (pa_cons (pv 2) pa_nil)) pa_nil))) pe_int) pa_nil))) (pg_name (i := 5) sc_law_grow.nd rfl (.inl rfl)) (pss_cons (ps_set (i := 6) sc_law_grow.nd rfl (.inl rfl) (pe_callB (kMin2 rfl) (by rfl) m_min (by decide +kernel) (pa_cons (pe_call G_law_part (hr.mono (by decide)) (by rfl) g_law_part kp_law_part b_law_part .nil pass0 (pa_cons (pv 1) (pa_cons (pe_op op_sub (pv 5) pe_int) pa_nil))) (pa_cons (pe_call G_law_part (hr.mono (by decide)) (by rfl) g_law_part kp_law_part b_law_part .nil pass0 (pa_cons (pv 2) (pa_cons (pe_op op_sub (pv 5) pe_int) pa_nil))) pa_nil))))
      (pss_one (psApp K (ps_expr (pe_bm PySem.F.plainAttrs_list PySem.F.slot_list_append PySem.F.type_list_append mt_append (pv 4) (pa_cons (pe_op op_sub (pe_op op_add (pe_callB (kMax2 rfl) (by rfl) m_max (by decide +kernel) (pa_cons (pe_call G_law_part (hr.mono (by decide)) (by rfl) g_law_part kp_law_part b_law_part .nil pass0 (pa_cons (pv 1) (pa_cons (pv 5) pa_nil))) (pa_cons (pe_call G_law_part (hr.mono (by decide)) (by rfl) g_law_part kp_law_part b_law_part .nil pass0 (pa_cons (pv 2) (pa_cons (pv 5) pa_nil))) pa_nil))) (pv 6)) (pe_call G_law_part (hr.mono (by decide)) (by rfl) g_law_part kp_law_part b_law_part .nil pass0 (pa_cons (pv 0) (pa_cons (pe_op op_sub (pv 5) pe_int) pa_nil)))) pa_nil)))))))
      (pss_one (ps_ret (pe_callTy (kTupOf K) (by rfl) m_tuple (by decide +kernel) (pa_cons (pe_lc (own := [("item", 7)]) (g := gName 7) rfl sc_law_grow.nd (piL K (pv 4)) (blkOk_by (own := [("item", 7)]) (N := ["rho", "mu", "nu", "count", "parts", "r", "least", "item"]) (by first | (show blkC _ (defScope s_law_grow) _ _ = true; decide +kernel) | kernel_rfl | rfl)) (fun _ _ _ _ _ => pg_name (i := 7) sc_law_grow.nd rfl (by first | exact Or.inl rfl | exact Or.inr rfl)) (fun _ _ _ _ _ => (pts_one (pt_cmpR op_gt (pv 7) pe_int (nomark _)))) (fun _ _ _ _ _ => (pv 7))) pa_nil)))))), ?_⟩, hmg, F.kp, F.binds fun _ _ _ _ _ _ us hl => match us, hl with | [_, _, _, _], _ => rfl, Wk.Fun.lk F⟩
  intro rs O Q h
  obtain ⟨rho, mu, nu, c, rfl, h1, h2, h3, sq, q⟩ := h
  show StW K _ O [.dat (tI rho), .dat (tI mu), .dat (tI nu), iV c, .non, .non, .non, .non] _
  refine s_seq (s_asg (w_lstO ?_))
  repeat' walk_at "e"
  refine ⟨sz_ok rfl, fun p => ?_⟩
  refine s_seq (s_for2 ?_)
  repeat' walk_at "e"
  simp only [List.length_map]
  refine ⟨2, _, rfl, by omega, fun i O2 ds2 => ∃ (x y z : SD), O2 = (p, .lst ((ofN (i + 1) (gro rho mu nu c)).map fun n => iV n)) :: O ∧ ds2 = [.dat (tI rho), .dat (tI mu), .dat (tI nu), iV c, .ad p, x, y, z], ⟨_, _, _, rfl, rfl⟩, fun i O2 ds2 hi2 hI B hB => ?_, fun O2 ds2 hI => ?_⟩
  · obtain ⟨x, y, z, rfl, rfl⟩ := hI
    have hlen := ofN_len (i + 1) (gro rho mu nu c)
    have e1 := pt_3 mu i
    have e2 := pt_4 mu i
    have e3 := pt_3 nu i
    have e4 := pt_4 nu i
    have e5 := pt_4 rho i
    repeat' walk_at "w"
    refine hB.nx _ _ ⟨_, _, _, ?_, rfl⟩
    rw [e1, e2, e3, e4, e5, ofN_succ (i + 1), List.map_append]
    rfl
  · obtain ⟨x, y, z, rfl, rfl⟩ := hI
    rw [show (max (mu.length : Int) (nu.length : Int) + 2 - 2).toNat = max mu.length nu.length by omega]
    rw [← sq.eq (n := max mu.length nu.length) (Nat.le_refl _)] at q
    have hnn : ∀ v ∈ ofN (max mu.length nu.length + 1) (gro rho mu nu c), 0 ≤ v := fun v hv => by
      obtain ⟨i, _, rfl⟩ := List.mem_map.mp hv
      have := (sq.bounds i).1
      have := sq.m.nonneg i
      omega
    have hfl := filt_pos hnn
    have hll := ofN_len (max mu.length nu.length + 1) (gro rho mu nu c)
    unfold lrule at q
    generalize ofN (max mu.length nu.length + 1) (gro rho mu nu c) = ns at *
    refine s_frz (i := 4) rfl (.refl _) (Dats.ints _) ?_
    refine s_ret ?_
    repeat' walk_at "e"
    refine w_frz (w_lcL ?_)
    repeat' walk_at "e"
    refine ⟨by rw [List.length_map]; omega, fun j acc O2 => acc = ((ns.take j).filter fun v => decide (0 < v)).map (fun n => iV n) ∧ O2 = O, ⟨rfl, rfl⟩, fun j d acc O2 hd hl hJ Dl => ?_, fun acc O2 Dl hJ => ?_⟩
    · obtain ⟨rfl, rfl⟩ := hJ
      obtain ⟨v, hv, rfl⟩ := map_get hd
      repeat' walk_at "e"
      · rename_i hp
        refine ⟨_, .refl _, ?_, rfl⟩
        rw [take_next hv, List.filter_append, List.map_append, List.filter_cons, if_pos (decide_eq_true hp)]
        rfl
      · rename_i hp
        refine ⟨_, .refl _, ?_, rfl⟩
        rw [take_next hv, List.filter_append, List.map_append, List.filter_cons, if_neg (by rw [decide_eq_false hp]; decide)]
        simp
    · obtain ⟨rfl, rfl⟩ := hJ
      rw [List.length_map, List.take_length, hfl]
      refine ⟨Dl, _, _, _, rfl, .refl _, Dats.ints _, ?_⟩
      repeat' walk_at "e"
      exact q
def pre_law_shapes : Pre := fun rs O Q => ∃ (n : Nat) (b : List (List Int)), rs = [.dat (tS b)] ∧ Brd n b ∧ n ≤ 90 ∧ b.length ≤ 90 ∧ Q (.dat (.list ((corAll b n b.length).map fun r => lS r))) O
theorem len_law_shapes (rs : List SD) (O : Own) (Q : SD → Own → Prop) (h : pre_law_shapes rs O Q) : rs.length = 1 := by
  obtain ⟨n, b, rfl, _⟩ := h
  rfl
theorem lSs_dats (L : List (List (List Int))) : Dats (L.map fun r => SD.dat (lS r)) (L.map fun r => lS r) := by
  have e : (L.map fun r => SD.dat (lS r)) = (L.map fun r => lS r).map SD.dat := by
    rw [List.map_map]
    rfl
  rw [e]
  exact Dats.map _
abbrev corU (b : List (List Int)) (n k : Nat) : List (List (List Int)) := (List.range k).map fun i => corRow b n i
abbrev corH (b : List (List Int)) (i k : Nat) : List (List Int) := (List.range k).map fun j => cor b i j
theorem corU_s (b : List (List Int)) (n k : Nat) : corU b n (k + 1) = corU b n k ++ [corRow b n k] := range_map_succ _ _
theorem corH_s (b : List (List Int)) (i k : Nat) : corH b i (k + 1) = corH b i k ++ [cor b i k] := range_map_succ _ _
theorem corH_get {b : List (List Int)} {i k j : Nat} (h : j < k) : (corH b i k).getD j [] = cor b i j := by
  rw [List.getD_eq_getElem?_getD, List.getElem?_map, List.getElem?_range h]
  rfl
abbrev s_law_shapes : Stmt := topS 39
theorem sc_law_shapes : FnScope ["board", "j", "shapes", "row", "here", "above"] ["board"] (defScope s_law_shapes) := ⟨rfl, rfl, rfl, by decide +kernel, rfl, by decide +kernel, by decide +kernel⟩
set_option maxHeartbeats 4000000 in
theorem ok_law_shapes  (D : Def K mg "_law_shapes" s_law_shapes) (C_law_grow : Callee P w K mg base "_law_grow" ["rho", "mu", "nu", "count"] 2 pre_law_grow) (m_len : mg "len" = none) (m_range : mg "range" = none) : Callee P w K mg base "_law_shapes" ["board"] 3 pre_law_shapes := by
  obtain ⟨f, fd, F, hmg⟩ := D
  obtain ⟨f_law_grow, fd_law_grow, G_law_grow, g_law_grow, kp_law_grow, b_law_grow, _⟩ := C_law_grow
  refine ⟨f, fd, fn_ok F sc_law_shapes len_law_shapes fun cdv A outer s H E hr => ⟨_, (pss_cons (ps_set (i := 2) sc_law_shapes.nd rfl (.inl rfl) (pe_lst (pa_cons (pe_lc (own := [("j", 1)]) (g := gName 1) rfl sc_law_shapes.nd (pi_range1 (by rfl) m_range (pa_cons (pe_op op_add (pe_callB (kLen K) (by rfl) m_len PySem.boot_len (pa_cons (pe_ix (ixT K) (pv 0) pe_int (fun _ _ => rfl)) pa_nil)) pe_int) pa_nil)) (blkOk_by (own := [("j", 1)]) (N := ["board", "j", "shapes", "row", "here", "above"]) (by first | (show blkC _ (defScope s_law_shapes) _ _ = true; decide +kernel) | kernel_rfl | rfl)) (fun _ _ _ _ _ => pg_name (i := 1) sc_law_shapes.nd rfl (by first | exact Or.inl rfl | exact Or.inr rfl)) (fun _ _ _ _ _ => pts_nil) (fun _ _ _ _ _ => (pe_tup pa_nil))) pa_nil)))
      (pss_cons (ps_for PassesOwn.never rfl (piT K (pv 0)) (pg_name (i := 3) sc_law_shapes.nd rfl (.inl rfl)) (pss_cons (ps_set (i := 4) sc_law_shapes.nd rfl (.inl rfl) (pe_lst (pa_cons (pe_tup pa_nil) pa_nil)))
      (pss_cons (ps_set (i := 5) sc_law_shapes.nd rfl (.inl rfl) (pe_ix (ixL K) (pv 2) (pe_un un_neg pe_int) (fun _ _ => rfl)))
      (pss_cons (ps_for PassesOwn.never rfl (pi_range1 (by rfl) m_range (pa_cons (pe_callB (kLen K) (by rfl) m_len PySem.boot_len (pa_cons (pv 3) pa_nil)) pa_nil)) (pg_name (i := 1) sc_law_shapes.nd rfl (.inl rfl)) (pss_one (psApp K (ps_expr (pe_bm PySem.F.plainAttrs_list PySem.F.slot_list_append PySem.F.type_list_append mt_append (pv 4) (pa_cons (pe_call G_law_grow (hr.mono (by decide)) (by rfl) g_law_grow kp_law_grow b_law_grow .nil pass0 (pa_cons (pe_ix (ixL K) (pv 5) (pv 1) (fun _ _ => rfl)) (pa_cons (pe_ix (ixL K) (pv 5) (pe_op op_add (pv 1) pe_int) (fun _ _ => rfl)) (pa_cons (pe_ix (ixL K) (pv 4) (pv 1) (fun _ _ => rfl)) (pa_cons (pe_ix (ixT K) (pv 3) (pv 1) (fun _ _ => rfl)) pa_nil))))) pa_nil))))))
      (pss_one (psApp K (ps_expr (pe_bm PySem.F.plainAttrs_list PySem.F.slot_list_append PySem.F.type_list_append mt_append (pv 2) (pa_cons (pv 4) pa_nil)))))))))
      (pss_one (ps_ret (pv 2))))), ?_⟩, hmg, F.kp, F.binds fun _ _ _ _ _ _ us hl => match us, hl with | [_], _ => rfl, Wk.Fun.lk F⟩
  intro rs O Q h
  obtain ⟨n, b, rfl, hb, hn, hm, q⟩ := h
  show StW K _ O [.dat (tS b), .non, .non, .non, .non, .non] _
  have hb0 := hb.b0
  have hab := hb.am
  have hg0 : (b.getD (Int.toNat 0) []).length = n := by
    rw [show Int.toNat 0 = 0 from rfl, List.getD_eq_getElem?_getD, List.getElem?_eq_getElem hb0]
    exact (hb.row _ (List.getElem_mem hb0)).1
  have hlr : ((b.getD (Int.toNat 0) []).map PyData.int).length = n := by rw [List.length_map]; exact hg0
  have hlb : (b.map fun c => tI c).length = b.length := List.length_map ..
  refine s_seq (s_asg (w_lstO (w_cons (w_frz (w_lc1 ?_)))))
  repeat' walk_at "e"
  refine ⟨by omega, by omega, fun j acc O2 => acc = (corH b 0 j).map (fun c => SD.dat (tI c)) ∧ O2 = O, ⟨rfl, rfl⟩, fun j acc O2 hj hl hI Dl => ?_, fun acc O2 Dl hI => ?_⟩
  · obtain ⟨rfl, rfl⟩ := hI
    refine t_yes ⟨fun _ => ?_, fun z => nomatch z⟩
    repeat' walk_at "e"
    refine ⟨_, .refl _, ?_, rfl⟩
    rw [corH_s, List.map_append, cor_0]
    rfl
  obtain ⟨rfl, rfl⟩ := hI
  refine ⟨Dl, _, _, _, rfl, .refl _, mS_dats _, ?_⟩
  repeat' walk_at "e"
  refine ⟨sz_ok rfl, fun p => ?_⟩
  rw [hlr, show ((n : Int) + 1).toNat = n + 1 by omega]
  refine s_seq (s_forT ?_)
  repeat' walk_at "e"
  refine ⟨fun i O3 ds3 => ∃ (x1 x3 x4 x5 : SD), O3 = (p, .lst ((corU b n (i + 1)).map fun r => SD.dat (lS r))) :: O2 ∧ ds3 = [.dat (tS b), x1, .ad p, x3, x4, x5], ⟨_, _, _, _, rfl, rfl⟩, fun i d O3 ds3 hd hI B hB => ?_, fun O3 ds3 hI => ?_⟩
  · obtain ⟨x1, x3, x4, x5, rfl, rfl⟩ := hI
    obtain ⟨r, hr, rfl⟩ := map_get hd
    obtain ⟨hi, _⟩ := List.getElem?_eq_some_iff.mp hr
    have hrl : r.length = n := (hb.row r (List.mem_of_getElem? hr)).1
    have her : b.getD i [] = r := by rw [List.getD_eq_getElem?_getD, hr]; rfl
    refine s_seq (s_asg (w_lstO ?_))
    repeat' walk_at "e"
    refine ⟨sz_ok rfl, fun p2 => ?_⟩
    refine s_seq (s_asg ?_)
    repeat' walk_at "e"
    have hat : atI ((corU b n (i + 1)).map fun r => SD.dat (lS r)) (-1) = some (.dat (lS (corRow b n i))) := by
      rw [corU_s, List.map_append]
      exact at_snoc _ _
    refine o_ixO (List.mem_cons_of_mem _ List.mem_cons_self) hat ?_
    refine s_seq (s_for1 ?_)
    repeat' walk_at "e"
    have e0 : (corH b (i + 1) (0 + 1)).map (fun c => SD.dat (tI c)) = [SD.dat (PyData.tuple [])] := by
      show [SD.dat (tI (cor b (i + 1) 0))] = _
      rw [cor_s0]
      rfl
    rw [List.length_map, hrl]
    refine ⟨by omega, by omega, fun j O4 ds4 => ∃ (x1 : SD), O4 = (p2, .lst ((corH b (i + 1) (j + 1)).map fun c => SD.dat (tI c))) :: (p, .lst ((corU b n (i + 1)).map fun r => SD.dat (lS r))) :: O2 ∧ ds4 = [.dat (tS b), x1, .ad p, .dat (tI r), .ad p2, .dat (lS (corRow b n i))], ⟨x1, by rw [e0], rfl⟩, fun j O4 ds4 hj hJ B2 hB2 => ?_, fun O4 ds4 hJ => ?_⟩
    · obtain ⟨x1, rfl, rfl⟩ := hJ
      have hj : j < n := by omega
      have hcl := corRow_len b n i
      have hhl : (corH b (i + 1) (j + 1)).length = j + 1 := by rw [List.length_map, List.length_range]
      have ln : ∀ i2 j2, i2 ≤ 100 → (cor b i2 j2).length ≤ 10000 := fun i2 j2 h => Nat.le_trans (Nat.le_trans (corL hab i2 j2) h) (by decide)
      refine s_drop (w_bm ?_)
      repeat' walk_at "e"
      rw [Int.toNat_natCast, show ((j : Int) + 1).toNat = j + 1 by omega, corRow_get, corRow_get, if_pos (by omega), if_pos (by omega)]
      repeat' walk_at "e"
      refine o_ixO List.mem_cons_self (at_nth (x := SD.dat (tI (cor b (i + 1) j))) (by omega) (by rw [Int.toNat_natCast, List.getElem?_map, List.getElem?_map, List.getElem?_range (by omega)]; rfl)) ?_
      repeat' walk_at "e"
      have ham : r.getD ((j : Int)).toNat 0 = am b i j := by
        rw [Int.toNat_natCast]
        unfold am
        rw [her]
      rw [ham]
      refine ⟨_, _, _, _, rfl, ln _ _ (by omega), ln _ _ (by omega), ln _ _ (by omega), cor_sq hab i j, ?_⟩
      rw [← cor_ss]
      have hhl2 : ((corH b (i + 1) (j + 1)).map fun c => SD.dat (tI c)).length = j + 1 := by rw [List.length_map, hhl]
      repeat' walk_at "e"
      refine hB2.nx _ _ ⟨_, ?_, rfl⟩
      rw [corH_s b (i + 1) (j + 1), List.map_append]
      rfl
    · obtain ⟨x1, rfl, rfl⟩ := hJ
      rw [Int.toNat_natCast]
      refine s_frz (i := 4) rfl (.refl _) (mS_dats _) ?_
      refine s_drop (w_bm ?_)
      have hul : ((corU b n (i + 1)).map fun r => SD.dat (lS r)).length = i + 1 := by rw [List.length_map, List.length_map, List.length_range]
      repeat' walk_at "e"
      refine hB.nx _ _ ⟨_, _, _, _, ?_, rfl⟩
      rw [corU_s b n (i + 1), List.map_append]
      rfl
  · obtain ⟨x1, x3, x4, x5, rfl, rfl⟩ := hI
    rw [hlb]
    refine s_ret (w_frz ?_)
    repeat' walk_at "e"
    exact ⟨p, _, _, O2, rfl, .refl _, lSs_dats _, q⟩
def pre_law_state : Pre := fun rs O Q => ∃ (n : Nat) (b : List (List Int)) (ris cis : List Int), rs = [.dat (tS b), .dat (lI ris), .dat (lI cis)] ∧ Brd n b ∧ n ≤ 90 ∧ b.length ≤ 90 ∧ Q (.dat (stD b n ris cis)) O
theorem len_law_state (rs : List SD) (O : Own) (Q : SD → Own → Prop) (h : pre_law_state rs O Q) : rs.length = 3 := by
  obtain ⟨n, b, ris, cis, rfl, _⟩ := h
  rfl
abbrev s_law_state : Stmt := topS 40
theorem sc_law_state : FnScope ["board", "rows", "columns"] ["board", "rows", "columns"] (defScope s_law_state) := ⟨rfl, rfl, rfl, by decide +kernel, rfl, by decide +kernel, by decide +kernel⟩
set_option maxHeartbeats 4000000 in
theorem ok_law_state  (D : Def K mg "_law_state" s_law_state) (C_law_shapes : Callee P w K mg base "_law_shapes" ["board"] 3 pre_law_shapes) : Callee P w K mg base "_law_state" ["board", "rows", "columns"] 4 pre_law_state := by
  obtain ⟨f, fd, F, hmg⟩ := D
  obtain ⟨f_law_shapes, fd_law_shapes, G_law_shapes, g_law_shapes, kp_law_shapes, b_law_shapes, _⟩ := C_law_shapes
  refine ⟨f, fd, fn_ok F sc_law_state len_law_state fun cdv A outer s H E hr => ⟨_, (pss_one (ps_ret (pe_tup (pa_cons (pv 0) (pa_cons (pv 1) (pa_cons (pv 2) (pa_cons (pe_call G_law_shapes (hr.mono (by decide)) (by rfl) g_law_shapes kp_law_shapes b_law_shapes .nil pass0 (pa_cons (pv 0) pa_nil)) pa_nil))))))), ?_⟩, hmg, F.kp, F.binds fun _ _ _ _ _ _ us hl => match us, hl with | [_, _, _], _ => rfl, Wk.Fun.lk F⟩
  intro rs O Q h
  obtain ⟨n, b, ris, cis, rfl, hb, hn, hm, q⟩ := h
  show StW K _ O [.dat (tS b), .dat (lI ris), .dat (lI cis)] _
  refine s_ret (w_tup ?_)
  repeat' walk_at "e"
  refine ⟨n, b, rfl, hb, by omega, by omega, ?_⟩
  repeat' walk_at "e"
  exact q
local macro_rules | `(tactic| walk_at "mem") => `(tactic| first | assumption | exact List.mem_cons_self | exact List.mem_cons_of_mem _ List.mem_cons_self | exact List.mem_cons_of_mem _ (by assumption) | exact List.mem_cons_of_mem _ (List.mem_cons_of_mem _ List.mem_cons_self) | exact List.mem_cons_of_mem _ (List.mem_cons_of_mem _ (by assumption)))
local macro_rules | `(tactic| walk_at "e") => `(tactic| ((with_reducible show EvW _ (tFld _ _ _) _ _ _); refine w_fld (by assumption) (by assumption) (w_vA rfl ⟨_, _, _, _, _, _, rfl, by walk_at "mem", (by first | rfl | assumption), ?_⟩)))
def pre_Bench_size (C : Addr) : Pre := fun rs O Q => ∃ (a dx : Addr) (ns : List Str) (vs : List V) (ss : List SD) (n m : Nat) (b : List (List Int)), rs = [.ad a] ∧ (a, insO C dx ns vs ss) ∈ O ∧ (ns.zip ss).lookup (Str.ofString "_corners") = some (.dat (lLc (corAll b n m))) ∧ n ≤ 1000 ∧ m ≤ 1000 ∧ Q (.dat (.tuple [.int m, .int n])) O
theorem len_Bench_size {C : Addr} (rs : List SD) (O : Own) (Q : SD → Own → Prop) (h : pre_Bench_size C rs O Q) : rs.length = 1 := by
  obtain ⟨a, dx, ns, vs, ss, n, m, b, rfl, _⟩ := h
  rfl
abbrev s_Bench_size : Stmt := inClass (topS 21) 14
theorem sc_Bench_size : FnScope ["self"] ["self"] (defScope s_Bench_size) := ⟨rfl, rfl, rfl, by decide +kernel, rfl, by decide +kernel, by decide +kernel⟩
set_option maxHeartbeats 4000000 in
theorem ok_Bench_size  {C_Bench : Addr} (D : DefM K C_Bench "_size" "Bench._size" s_Bench_size) (m_len : mg "len" = none) (B_Bench : Cls K C_Bench) (na_Bench_corners : NoAttr K C_Bench "_corners") : CalleeM P w K mg base C_Bench "_size" ["self"] 1 (pre_Bench_size C_Bench) := by
  obtain ⟨f, fd, F, hmg⟩ := D
  refine ⟨f, fd, fn_ok F sc_Bench_size len_Bench_size fun cdv A outer s H E hr => ⟨_, (pss_one (ps_ret (pe_tup (pa_cons (pe_op op_sub (pe_callB (kLen K) (by rfl) m_len PySem.boot_len (pa_cons (peFld (K := K) (pv 0)) pa_nil)) pe_int) (pa_cons (pe_op op_sub (pe_callB (kLen K) (by rfl) m_len PySem.boot_len (pa_cons (pe_ix (ixL K) (peFld (K := K) (pv 0)) pe_int (fun _ _ => rfl)) pa_nil)) pe_int) pa_nil))))), ?_⟩, hmg, F.binds fun _ _ _ _ _ _ us hl => match us, hl with | [_], _ => rfl⟩
  intro rs O Q h
  obtain ⟨a, dx, ns, vs, ss, n, m, b, rfl, hm, hlk, hn, hmm, q⟩ := h
  show StW K _ O [.ad a] _
  have hl := corAll_len b n m
  refine s_ret ?_
  repeat' walk_at "e"
  refine o_ixL (at_nth (by decide) (corAll_get b n m 0 (by omega))) ?_
  repeat' walk_at "e"
  rw [List.length_map, List.length_map, hl, corRow_len, show ((m + 1 : Nat) : Int) - 1 = (m : Int) by omega, show ((n + 1 : Nat) : Int) - 1 = (n : Int) by omega]
  exact q
def pre_without_zeros : Pre := fun rs O Q => ∃ ns : List Int, rs = [.dat (lI ns)] ∧ ns.length ≤ 100000 ∧ Q (.dat (tI (trim ns))) O
theorem len_without_zeros (rs : List SD) (O : Own) (Q : SD → Own → Prop) (h : pre_without_zeros rs O Q) : rs.length = 1 := by
  obtain ⟨ns, rfl, _⟩ := h
  rfl
abbrev s_without_zeros : Stmt := topS 13
theorem sc_without_zeros : FnScope ["parts", "value"] ["parts"] (defScope s_without_zeros) := ⟨rfl, rfl, rfl, by decide +kernel, rfl, by decide +kernel, by decide +kernel⟩
set_option maxHeartbeats 4000000 in
theorem ok_without_zeros  (D : Def K mg "_without_zeros" s_without_zeros) (m_tuple : mg "tuple" = none) : Callee P w K mg base "_without_zeros" ["parts"] 1 pre_without_zeros := by
  obtain ⟨f, fd, F, hmg⟩ := D
  refine ⟨f, fd, fn_ok F sc_without_zeros len_without_zeros fun cdv A outer s H E hr => ⟨_, (pss_one (ps_ret (pe_callTy (kTupOf K) (by rfl) m_tuple (by decide +kernel) (pa_cons (pe_lc (own := [("value", 1)]) (g := gName 1) rfl sc_without_zeros.nd (piL K (pv 0)) (blkOk_by (own := [("value", 1)]) (N := ["parts", "value"]) (by first | (show blkC _ (defScope s_without_zeros) _ _ = true; decide +kernel) | kernel_rfl | rfl)) (fun _ _ _ _ _ => pg_name (i := 1) sc_without_zeros.nd rfl (by first | exact Or.inl rfl | exact Or.inr rfl)) (fun _ _ _ _ _ => (pts_one (pt_cmpR op_ne (pv 1) pe_int (nomark _)))) (fun _ _ _ _ _ => (pv 1))) pa_nil)))), ?_⟩, hmg, F.kp, F.binds fun _ _ _ _ _ _ us hl => match us, hl with | [_], _ => rfl, Wk.Fun.lk F⟩
  intro rs O Q h
  obtain ⟨ns, rfl, hn, q⟩ := h
  show StW K _ O [.dat (lI ns), .non] _
  refine s_ret (w_cb (w_cons (w_frz (w_lcL ?_))))
  repeat' walk_at "e"
  refine ⟨by rw [List.length_map]; omega, fun i acc O2 => acc = (trim (ns.take i)).map (fun n => iV n) ∧ O2 = O, ⟨rfl, rfl⟩, fun i d acc O2 hd hl hI Dl => ?_, fun acc O2 Dl hI => ?_⟩
  · obtain ⟨rfl, rfl⟩ := hI
    obtain ⟨v, hv, rfl⟩ := map_get hd
    repeat' walk_at "e"
    · rename_i hne
      refine ⟨_, .refl _, ?_, rfl⟩
      rw [take_next hv, trim_snoc, if_neg hne, List.map_append]
      rfl
    · rename_i he
      refine ⟨_, .refl _, ?_, rfl⟩
      rw [take_next hv, trim_snoc, if_pos he, List.append_nil]
  · obtain ⟨rfl, rfl⟩ := hI
    refine ⟨Dl, _, _, _, rfl, .refl _, Dats.ints _, ?_⟩
    rw [List.length_map, List.take_length]
    repeat' walk_at "e"
    exact q
def pre_part : Pre := fun rs O Q => ∃ (ns : List Int) (r : Int), rs = [.dat (tI ns), iV r] ∧ 1 ≤ r ∧ Q (iV (pt ns r)) O
theorem len_part (rs : List SD) (O : Own) (Q : SD → Own → Prop) (h : pre_part rs O Q) : rs.length = 2 := by
  obtain ⟨ns, r, rfl, _⟩ := h
  rfl
local macro_rules | `(tactic| walk_at "e") => `(tactic| ((with_reducible show pre_part _ _ _); refine ⟨_, _, rfl, by omega, ?_⟩))
abbrev s_part : Stmt := topS 9
theorem sc_part : FnScope ["shape", "number"] ["shape", "number"] (defScope s_part) := ⟨rfl, rfl, rfl, by decide +kernel, rfl, by decide +kernel, by decide +kernel⟩
set_option maxHeartbeats 4000000 in
theorem ok_part  (D : Def K mg "part" s_part) (m_len : mg "len" = none) : Callee P w K mg base "part" ["shape", "number"] 1 pre_part := by
  obtain ⟨f, fd, F, hmg⟩ := D
  refine ⟨f, fd, fn_ok F sc_part len_part fun cdv A outer s H E hr => ⟨_, (pss_one (ps_ret (pe_ifExp (pt_cmpR op_le (pv 1) (pe_callB (kLen K) (by rfl) m_len PySem.boot_len (pa_cons (pv 0) pa_nil)) (nomark _)) (pe_ix (ixT K) (pv 0) (pe_op op_sub (pv 1) pe_int) (fun _ _ => rfl)) pe_int))), ?_⟩, hmg, F.kp, F.binds fun _ _ _ _ _ _ us hl => match us, hl with | [_, _], _ => rfl, Wk.Fun.lk F⟩
  intro rs O Q h
  obtain ⟨ns, r, rfl, h1, q⟩ := h
  show StW K _ O [.dat (tI ns), iV r] _
  repeat' walk_at "w"
  · exact q
  · rename_i hl
    have e : pt ns r = 0 := px_ge (by simp only [List.length_map] at hl; omega)
    rw [e] at q
    exact q
def pre_greater : Pre := fun rs O Q => ∃ (mu nu : List Int) (r : Int), rs = [.dat (tI mu), .dat (tI nu), iV r] ∧ 1 ≤ r ∧ Q (iV (max (pt mu r) (pt nu r))) O
theorem len_greater (rs : List SD) (O : Own) (Q : SD → Own → Prop) (h : pre_greater rs O Q) : rs.length = 3 := by
  obtain ⟨mu, nu, r, rfl, _⟩ := h
  rfl
local macro_rules | `(tactic| walk_at "e") => `(tactic| ((with_reducible show pre_greater _ _ _); refine ⟨_, _, _, rfl, by omega, ?_⟩))
abbrev s_greater : Stmt := topS 11
theorem sc_greater : FnScope ["mu", "nu", "r"] ["mu", "nu", "r"] (defScope s_greater) := ⟨rfl, rfl, rfl, by decide +kernel, rfl, by decide +kernel, by decide +kernel⟩
set_option maxHeartbeats 4000000 in
theorem ok_greater  (D : Def K mg "_greater" s_greater) (C_part : Callee P w K mg base "part" ["shape", "number"] 1 pre_part) (m_max : mg "max" = none) : Callee P w K mg base "_greater" ["mu", "nu", "r"] 2 pre_greater := by
  obtain ⟨f, fd, F, hmg⟩ := D
  obtain ⟨f_part, fd_part, G_part, g_part, kp_part, b_part, _⟩ := C_part
  refine ⟨f, fd, fn_ok F sc_greater len_greater fun cdv A outer s H E hr => ⟨_, (pss_one (ps_ret (pe_callB (kMax2 rfl) (by rfl) m_max (by decide +kernel) (pa_cons (pe_call G_part (hr.mono (by decide)) (by rfl) g_part kp_part b_part .nil pass0 (pa_cons (pv 0) (pa_cons (pv 2) pa_nil))) (pa_cons (pe_call G_part (hr.mono (by decide)) (by rfl) g_part kp_part b_part .nil pass0 (pa_cons (pv 1) (pa_cons (pv 2) pa_nil))) pa_nil))))), ?_⟩, hmg, F.kp, F.binds fun _ _ _ _ _ _ us hl => match us, hl with | [_, _, _], _ => rfl, Wk.Fun.lk F⟩
  intro rs O Q h
  obtain ⟨mu, nu, r, rfl, h1, q⟩ := h
  show StW K _ O [.dat (tI mu), .dat (tI nu), iV r] _
  repeat' walk_at "w"
  exact q
def pre_across : Pre := fun rs O Q => ∃ (mu nu : List Int) (r : Int), rs = [.dat (tI mu), .dat (tI nu), iV r] ∧ 1 ≤ r ∧ Q (iV (max (pt mu (r + 1)) (pt nu (r + 1)) + min (pt mu r) (pt nu r))) O
theorem len_across (rs : List SD) (O : Own) (Q : SD → Own → Prop) (h : pre_across rs O Q) : rs.length = 3 := by
  obtain ⟨mu, nu, r, rfl, _⟩ := h
  rfl
local macro_rules | `(tactic| walk_at "e") => `(tactic| ((with_reducible show pre_across _ _ _); refine ⟨_, _, _, rfl, by omega, ?_⟩))
abbrev s_across : Stmt := topS 12
theorem sc_across : FnScope ["mu", "nu", "r"] ["mu", "nu", "r"] (defScope s_across) := ⟨rfl, rfl, rfl, by decide +kernel, rfl, by decide +kernel, by decide +kernel⟩
set_option maxHeartbeats 4000000 in
theorem ok_across  (D : Def K mg "_across" s_across) (C_part : Callee P w K mg base "part" ["shape", "number"] 1 pre_part) (C_greater : Callee P w K mg base "_greater" ["mu", "nu", "r"] 2 pre_greater) (m_min : mg "min" = none) : Callee P w K mg base "_across" ["mu", "nu", "r"] 3 pre_across := by
  obtain ⟨f, fd, F, hmg⟩ := D
  obtain ⟨f_part, fd_part, G_part, g_part, kp_part, b_part, _⟩ := C_part
  obtain ⟨f_greater, fd_greater, G_greater, g_greater, kp_greater, b_greater, _⟩ := C_greater
  refine ⟨f, fd, fn_ok F sc_across len_across fun cdv A outer s H E hr => ⟨_, (pss_one (ps_ret (pe_op op_add (pe_call G_greater (hr.mono (by decide)) (by rfl) g_greater kp_greater b_greater .nil pass0 (pa_cons (pv 0) (pa_cons (pv 1) (pa_cons (pe_op op_add (pv 2) pe_int) pa_nil)))) (pe_callB (kMin2 rfl) (by rfl) m_min (by decide +kernel) (pa_cons (pe_call G_part (hr.mono (by decide)) (by rfl) g_part kp_part b_part .nil pass0 (pa_cons (pv 0) (pa_cons (pv 2) pa_nil))) (pa_cons (pe_call G_part (hr.mono (by decide)) (by rfl) g_part kp_part b_part .nil pass0 (pa_cons (pv 1) (pa_cons (pv 2) pa_nil))) pa_nil)))))), ?_⟩, hmg, F.kp, F.binds fun _ _ _ _ _ _ us hl => match us, hl with | [_, _, _], _ => rfl, Wk.Fun.lk F⟩
  intro rs O Q h
  obtain ⟨mu, nu, r, rfl, h1, q⟩ := h
  show StW K _ O [.dat (tI mu), .dat (tI nu), iV r] _
  repeat' walk_at "w"
  exact q
def pre_local_rule : Pre := fun rs O Q => ∃ (rho mu nu : List Int) (c : Int), rs = [.dat (tI rho), .dat (tI mu), .dat (tI nu), iV c] ∧ rho.length ≤ 10000 ∧ mu.length ≤ 10000 ∧ nu.length ≤ 10000 ∧ Q (.dat (tI (grow rho mu nu c))) O
theorem len_local_rule (rs : List SD) (O : Own) (Q : SD → Own → Prop) (h : pre_local_rule rs O Q) : rs.length = 4 := by
  obtain ⟨rho, mu, nu, c, rfl, _⟩ := h
  rfl
local macro_rules | `(tactic| walk_at "e") => `(tactic| ((with_reducible show pre_local_rule _ _ _); refine ⟨_, _, _, _, rfl, by omega, by omega, by omega, ?_⟩))
abbrev s_local_rule : Stmt := topS 10
theorem sc_local_rule : FnScope ["rho", "mu", "nu", "count", "parts", "r"] ["rho", "mu", "nu", "count"] (defScope s_local_rule) := ⟨rfl, rfl, rfl, by decide +kernel, rfl, by decide +kernel, by decide +kernel⟩
set_option maxHeartbeats 4000000 in
theorem ok_local_rule  (D : Def K mg "local_rule" s_local_rule) (C_without_zeros : Callee P w K mg base "_without_zeros" ["parts"] 1 pre_without_zeros) (C_part : Callee P w K mg base "part" ["shape", "number"] 1 pre_part) (C_greater : Callee P w K mg base "_greater" ["mu", "nu", "r"] 2 pre_greater) (C_across : Callee P w K mg base "_across" ["mu", "nu", "r"] 3 pre_across) (m_len : mg "len" = none) (m_max : mg "max" = none) (m_range : mg "range" = none) : Callee P w K mg base "local_rule" ["rho", "mu", "nu", "count"] 4 pre_local_rule := by
  obtain ⟨f, fd, F, hmg⟩ := D
  obtain ⟨f_without_zeros, fd_without_zeros, G_without_zeros, g_without_zeros, kp_without_zeros, b_without_zeros, _⟩ := C_without_zeros
  obtain ⟨f_part, fd_part, G_part, g_part, kp_part, b_part, _⟩ := C_part
  obtain ⟨f_greater, fd_greater, G_greater, g_greater, kp_greater, b_greater, _⟩ := C_greater
  obtain ⟨f_across, fd_across, G_across, g_across, kp_across, b_across, _⟩ := C_across
  refine ⟨f, fd, fn_ok F sc_local_rule len_local_rule fun cdv A outer s H E hr => ⟨_, (pss_cons (ps_set (i := 4) sc_local_rule.nd rfl (.inl rfl) (pe_lst (pa_cons (pe_op op_add (pe_call G_greater (hr.mono (by decide)) (by rfl) g_greater kp_greater b_greater .nil pass0 (pa_cons (pv 1) (pa_cons (pv 2) (pa_cons pe_int pa_nil)))) (pv 3)) pa_nil)))
      (pss_cons (ps_for PassesOwn.never rfl (pi_range2 (by rfl) m_range (pa_cons pe_int (pa_cons (pe_op op_add (pe_callB (kMax2 rfl) (by rfl) m_max (by decide +kernel) (pa_cons (pe_callB (kLen K) (by rfl) m_len PySem.boot_len (pa_cons (pv 1) pa_nil)) (pa_cons (pe_callB (kLen K) (by rfl) m_len PySem.boot_len (pa_cons (pv 2) pa_nil)) pa_nil))) pe_int) pa_nil))) (pg_name (i := 5) sc_local_rule.nd rfl (.inl rfl)) (pss_one (psApp K (ps_expr (pe_bm PySem.F.plainAttrs_list PySem.F.slot_list_append PySem.F.type_list_append mt_append (pv 4) (pa_cons (pe_op op_sub (pe_call G_across (hr.mono (by decide)) (by rfl) g_across kp_across b_across .nil pass0 (pa_cons (pv 1) (pa_cons (pv 2) (pa_cons (pv 5) pa_nil)))) (pe_call G_part (hr.mono (by decide)) (by rfl) g_part kp_part b_part .nil pass0 (pa_cons (pv 0) (pa_cons (pv 5) pa_nil)))) pa_nil))))))
      (pss_one (ps_ret (pe_call G_without_zeros (hr.mono (by decide)) (by rfl) g_without_zeros kp_without_zeros b_without_zeros .nil pass0 (pa_cons (pv 4) pa_nil)))))), ?_⟩, hmg, F.kp, F.binds fun _ _ _ _ _ _ us hl => match us, hl with | [_, _, _, _], _ => rfl, Wk.Fun.lk F⟩
  intro rs O Q h
  obtain ⟨rho, mu, nu, c, rfl, h1, h2, h3, q⟩ := h
  show StW K _ O [.dat (tI rho), .dat (tI mu), .dat (tI nu), iV c, .non, .non] _
  refine s_seq (s_asg (w_lstO ?_))
  repeat' walk_at "e"
  refine ⟨sz_ok rfl, fun p => ?_⟩
  refine s_seq (s_for2 ?_)
  repeat' walk_at "e"
  simp only [List.length_map]
  refine ⟨1, _, rfl, by omega, fun i O2 ds2 => ∃ (x : SD), O2 = (p, .lst ((ofN (i + 1) (gro rho mu nu c)).map fun n => iV n)) :: O ∧ ds2 = [.dat (tI rho), .dat (tI mu), .dat (tI nu), iV c, .ad p, x], ⟨_, rfl, rfl⟩, fun i O2 ds2 hi2 hI B hB => ?_, fun O2 ds2 hI => ?_⟩
  · obtain ⟨x, rfl, rfl⟩ := hI
    have hlen := ofN_len (i + 1) (gro rho mu nu c)
    have e1 := pt_1 mu i
    have e2 := pt_2 mu i
    have e3 := pt_1 nu i
    have e4 := pt_2 nu i
    have e5 := pt_1 rho i
    repeat' walk_at "w"
    refine hB.nx _ _ ⟨_, ?_, rfl⟩
    rw [e1, e2, e3, e4, e5, ofN_succ (i + 1), List.map_append]
    rfl
  · obtain ⟨x, rfl, rfl⟩ := hI
    rw [show (max (mu.length : Int) (nu.length : Int) + 1 - 1).toNat = max mu.length nu.length by omega]
    refine s_frz (i := 4) rfl (.refl _) (Dats.ints _) ?_
    repeat' walk_at "w"
    refine ⟨_, rfl, by rw [ofN_len]; omega, q⟩
def pre_row_below : Pre := fun rs O Q => ∃ (z : SD) (cs : List Int) (above : List (List Int)) (n : Nat), rs = [z, .dat (tI cs)] ∧ Lst O z (above.map fun c => tI c) ∧ RowOk n above ∧ cs.length = n ∧ n ≤ 100 ∧ (∀ v ∈ cs, 0 ≤ v) ∧ ∀ p, Q (.ad p) ((p, .lst ((rowBelow above cs).map fun c => .dat (tI c))) :: O)
theorem len_row_below (rs : List SD) (O : Own) (Q : SD → Own → Prop) (h : pre_row_below rs O Q) : rs.length = 2 := by
  obtain ⟨z, cs, above, n, rfl, _⟩ := h
  rfl
abbrev s_row_below : Stmt := topS 17
theorem sc_row_below : FnScope ["above", "amounts", "row", "j", "amount"] ["above", "amounts"] (defScope s_row_below) := ⟨rfl, rfl, rfl, by decide +kernel, rfl, by decide +kernel, by decide +kernel⟩
set_option maxHeartbeats 4000000 in
theorem ok_row_below  (D : Def K mg "_row_below" s_row_below) (C_local_rule : Callee P w K mg base "local_rule" ["rho", "mu", "nu", "count"] 4 pre_local_rule) (m_enumerate : mg "enumerate" = none) : Callee P w K mg base "_row_below" ["above", "amounts"] 5 pre_row_below := by
  obtain ⟨f, fd, F, hmg⟩ := D
  obtain ⟨f_local_rule, fd_local_rule, G_local_rule, g_local_rule, kp_local_rule, b_local_rule, _⟩ := C_local_rule
  refine ⟨f, fd, fn_ok F sc_row_below len_row_below fun cdv A outer s H E hr => ⟨_, (pss_cons (ps_set (i := 2) sc_row_below.nd rfl (.inl rfl) (pe_lst (pa_cons (pe_tup pa_nil) pa_nil)))
      (pss_cons (ps_for PassesOwn.never rfl (pi_enumT K (by rfl) m_enumerate (pa_cons (pv 1) pa_nil)) (pgTup K rfl (pgs_cons (pg_name (i := 3) sc_row_below.nd rfl (.inl rfl)) (pgs_cons (pg_name (i := 4) sc_row_below.nd rfl (.inl rfl)) pgs_nil))) (pss_one (psApp K (ps_expr (pe_bm PySem.F.plainAttrs_list PySem.F.slot_list_append PySem.F.type_list_append mt_append (pv 2) (pa_cons (pe_call G_local_rule (hr.mono (by decide)) (by rfl) g_local_rule kp_local_rule b_local_rule .nil pass0 (pa_cons (pe_ix (ixL K) (pv 0) (pv 3) (fun _ _ => rfl)) (pa_cons (pe_ix (ixL K) (pv 0) (pe_op op_add (pv 3) pe_int) (fun _ _ => rfl)) (pa_cons (pe_ix (ixL K) (pv 2) (pv 3) (fun _ _ => rfl)) (pa_cons (pv 4) pa_nil))))) pa_nil))))))
      (pss_one (ps_ret (pv 2))))), ?_⟩, hmg, F.kp, F.binds fun _ _ _ _ _ _ us hl => match us, hl with | [_, _], _ => rfl, Wk.Fun.lk F⟩
  intro rs O Q h
  obtain ⟨z, cs, above, n, rfl, hz, ha, hl, hn, hc, q⟩ := h
  show StW K _ O [z, .dat (tI cs), .non, .non, .non] _
  have hal := ha.len
  refine s_seq (s_asg (w_lstO ?_))
  repeat' walk_at "e"
  refine ⟨sz_ok rfl, fun p => ?_⟩
  refine s_seq (s_forET ?_)
  repeat' walk_at "e"
  refine ⟨fun i O2 ds2 => ∃ x y : SD, O2 = (p, .lst ((rowB above (cs.take i) [[]]).map fun c => .dat (tI c))) :: O ∧ ds2 = [z, .dat (tI cs), .ad p, x, y], ⟨_, _, rfl, rfl⟩, fun i d O2 ds2 hd hI B hB => ?_, fun O2 ds2 hI => ?_⟩
  · obtain ⟨x, y, rfl, rfl⟩ := hI
    obtain ⟨v, hv, rfl⟩ := map_get hd
    obtain ⟨hi, _⟩ := List.getElem?_eq_some_iff.mp hv
    obtain ⟨hb, hbl⟩ := rowB_ok ha (cs.take i) [[]] (fun c h => hc c (List.mem_of_mem_take h)) (by rw [List.length_take]; simp only [List.length_cons, List.length_nil]; omega) (Below.start ha)
    have hbl2 : (rowB above (cs.take i) [[]]).length = i + 1 := by rw [hbl, List.length_take]; simp only [List.length_cons, List.length_nil]; omega
    have es := rowB_snoc above v (cs.take i) [[]]
    rw [← take_next hv, hbl2] at es
    rw [show i + 1 - 1 = ((i : Int)).toNat by omega] at es
    rw [show above.getD (i + 1) [] = above.getD ((i : Int) + 1).toNat [] by rw [show ((i : Int) + 1).toNat = i + 1 by omega]] at es
    have l0 := (ha.sh ((i : Int)).toNat).2
    have l1 := (ha.sh ((i : Int) + 1).toNat).2
    have l2 := (hb.sh ((i : Int)).toNat).2
    have hz2 : Lst ((p, OD.lst ((rowB above (cs.take i) [[]]).map fun c => .dat (tI c))) :: O) z (above.map fun c => tI c) := hz.weak fun q hq => List.mem_cons_of_mem _ hq
    have hr2 : Lst ((p, OD.lst ((rowB above (cs.take i) [[]]).map fun c => .dat (tI c))) :: O) (.ad p) ((rowB above (cs.take i) [[]]).map fun c => tI c) := .o List.mem_cons_self (mS_dats _)
    repeat' walk_at "w"
    refine hB.nx _ _ ⟨_, _, by rw [es, List.map_append]; rfl, rfl⟩
  · obtain ⟨x, y, rfl, rfl⟩ := hI
    rw [List.length_map, List.take_length]
    repeat' walk_at "w"
    exact q p
abbrev lL (b : List (List (List Int))) : PyData := .list (b.map fun r => lS r)
def pre_shapes_of : Pre := fun rs O Q => ∃ (n : Nat) (b : List (List Int)), rs = [.dat (tS b)] ∧ Brd n b ∧ n ≤ 90 ∧ b.length ≤ 90 ∧ Q (.dat (lL (corAll b n b.length))) O
theorem len_shapes_of (rs : List SD) (O : Own) (Q : SD → Own → Prop) (h : pre_shapes_of rs O Q) : rs.length = 1 := by
  obtain ⟨n, b, rfl, _⟩ := h
  rfl
theorem last_atD {n : Nat} (bs : List (List Int)) : atI ((R0 n :: cornersB (R0 n) bs).map fun r => SD.dat (lS r)) (-1) = some (.dat (lS (lastB (R0 n) bs))) := by
  rcases List.eq_nil_or_concat bs with rfl | ⟨cs, r, rfl⟩
  · exact at_snoc [] _
  · rw [List.concat_eq_append, lastB_snoc, cornersB_snoc, ← List.cons_append, List.map_append]
    exact at_snoc _ _
theorem lL_dats (b : List (List (List Int))) : Dats (b.map fun r => SD.dat (lS r)) (b.map fun r => lS r) := by
  have e : (b.map fun r => SD.dat (lS r)) = (b.map fun r => lS r).map SD.dat := by
    rw [List.map_map]
    rfl
  rw [e]
  exact Dats.map _
abbrev s_shapes_of : Stmt := topS 16
theorem sc_shapes_of : FnScope ["board", "columns", "corners", "amounts"] ["board"] (defScope s_shapes_of) := ⟨rfl, rfl, rfl, by decide +kernel, rfl, by decide +kernel, by decide +kernel⟩
set_option maxHeartbeats 4000000 in
theorem ok_shapes_of  (D : Def K mg "shapes_of" s_shapes_of) (C_row_below : Callee P w K mg base "_row_below" ["above", "amounts"] 5 pre_row_below) (m_len : mg "len" = none) : Callee P w K mg base "shapes_of" ["board"] 6 pre_shapes_of := by
  obtain ⟨f, fd, F, hmg⟩ := D
  obtain ⟨f_row_below, fd_row_below, G_row_below, g_row_below, kp_row_below, b_row_below, _⟩ := C_row_below
  refine ⟨f, fd, fn_ok F sc_shapes_of len_shapes_of fun cdv A outer s H E hr => ⟨_, (pss_cons (ps_set (i := 1) sc_shapes_of.nd rfl (.inl rfl) (pe_ifExp (pt_cmpR op_gt (pe_callB (kLen K) (by rfl) m_len PySem.boot_len (pa_cons (pv 0) pa_nil)) pe_int (nomark _)) (pe_callB (kLen K) (by rfl) m_len PySem.boot_len (pa_cons (pe_ix (ixT K) (pv 0) pe_int (fun _ _ => rfl)) pa_nil)) pe_int))
      (pss_cons (ps_set (i := 2) sc_shapes_of.nd rfl (.inl rfl) (pe_lst (pa_cons (pe_op op_rep (pe_lst (pa_cons (pe_tup pa_nil) pa_nil)) (pe_op op_add (pv 1) pe_int)) pa_nil)))
      (pss_cons (ps_for PassesOwn.never rfl (piT K (pv 0)) (pg_name (i := 3) sc_shapes_of.nd rfl (.inl rfl)) (pss_one (psApp K (ps_expr (pe_bm PySem.F.plainAttrs_list PySem.F.slot_list_append PySem.F.type_list_append mt_append (pv 2) (pa_cons (pe_call G_row_below (hr.mono (by decide)) (by rfl) g_row_below kp_row_below b_row_below .nil pass0 (pa_cons (pe_ix (ixL K) (pv 2) (pe_un un_neg pe_int) (fun _ _ => rfl)) (pa_cons (pv 3) pa_nil))) pa_nil))))))
      (pss_one (ps_ret (pv 2)))))), ?_⟩, hmg, F.kp, F.binds fun _ _ _ _ _ _ us hl => match us, hl with | [_], _ => rfl, Wk.Fun.lk F⟩
  intro rs O Q h
  obtain ⟨n, b, rfl, hb, hn, hbl, q⟩ := h
  rw [← hb.all] at q
  have hb0 := hb.b0
  have hr0 : (b.getD (Int.toNat 0) []).length = n := by
    have e : b.getD (Int.toNat 0) [] = b[0] := getD_at hb0 _
    rw [e]
    exact (hb.row _ (List.getElem_mem hb0)).1
  show StW K _ O [.dat (tS b), .non, .non, .non] _
  refine s_seq (s_asg ?_)
  repeat' walk_at "e"
  · refine s_seq (s_asg (w_lstO (w_cons ?_)))
    repeat' walk_at "e"
    rw [List.length_map, hr0]
    refine g_rep .d (by omega) (by omega) (by decide) ?_
    rw [show ((n : Int) + 1).toNat = n + 1 by omega, rep_flat]
    repeat' walk_at "e"
    refine ⟨sz_ok rfl, fun p => ?_⟩
    refine s_seq (s_forT ?_)
    repeat' walk_at "e"
    refine ⟨fun i O2 ds2 => ∃ x : SD, O2 = (p, .lst ((R0 n :: cornersB (R0 n) (b.take i)).map fun r => .dat (lS r))) :: O ∧ ds2 = [.dat (tS b), iV n, .ad p, x], ⟨_, rfl, rfl⟩, fun i d O2 ds2 hd hI B hB => ?_, fun O2 ds2 hI => ?_⟩
    · obtain ⟨x, rfl, rfl⟩ := hI
      obtain ⟨r, hr, rfl⟩ := map_get hd
      obtain ⟨hi, _⟩ := List.getElem?_eq_some_iff.mp hr
      have hrow := hb.rows r (List.mem_of_getElem? hr)
      have hlen := cornersB_len (R0 n) (b.take i)
      rw [List.length_take] at hlen
      have hok := lastB_ok (row0_ok n) fun r hh => hb.rows r (List.mem_of_mem_take (i := i) hh)
      refine s_drop (w_bm (w_vA rfl ⟨ty_own List.mem_cons_self, w_cons (w_frz (w_call ?_))⟩))
      repeat' walk_at "e"
      refine o_ixO List.mem_cons_self (last_atD _) ?_
      repeat' walk_at "e"
      refine ⟨_, r, _, n, rfl, .d, hok, hrow.1, by omega, hrow.2, fun p2 => ⟨_, _, _, _, rfl, .refl _, mS_dats _, ?_⟩⟩
      have hl2 : ((R0 n :: cornersB (R0 n) (b.take i)).map fun r => SD.dat (lS r)).length ≤ 100 := by rw [List.length_map, List.length_cons]; omega
      repeat' walk_at "e"
      refine hB.nx _ _ ⟨_, ?_, rfl⟩
      rw [take_next hr, cornersB_snoc, ← List.cons_append, List.map_append]
      rfl
    · obtain ⟨x, rfl, rfl⟩ := hI
      rw [List.length_map, List.take_length]
      refine s_ret (w_frz ?_)
      repeat' walk_at "e"
      exact ⟨_, _, _, _, rfl, .refl _, lL_dats _, q⟩
  · rename_i hf
    rw [List.length_map] at hf
    exact absurd (by omega) hf
def pre_Bench_init (C : Addr) : Pre := fun rs O Q => ∃ (a dx : Addr) (n : Nat) (b : List (List Int)) (O' : Own), rs = [.ad a, .dat (tS b)] ∧ O = (a, insO C dx [] [] []) :: O' ∧ Brd n b ∧ n ≤ 50 ∧ b.length ≤ 50 ∧ ∀ vs pd pu, Q (.dat .none) (BnI C a dx vs b n ((b.length : Int) * n) pd pu :: StL pd [] :: StL pu [] :: O')
theorem len_Bench_init {C : Addr} (rs : List SD) (O : Own) (Q : SD → Own → Prop) (h : pre_Bench_init C rs O Q) : rs.length = 2 := by
  obtain ⟨a, dx, n, b, O', rfl, _⟩ := h
  rfl
abbrev s_Bench_init : Stmt := inClass (topS 21) 0
theorem sc_Bench_init : FnScope ["self", "board", "rows", "columns"] ["self", "board"] (defScope s_Bench_init) := ⟨rfl, rfl, rfl, by decide +kernel, rfl, by decide +kernel, by decide +kernel⟩
set_option maxHeartbeats 4000000 in
theorem ok_Bench_init  {C_Bench : Addr} (D : DefI K mg "Bench" C_Bench "Bench.__init__" s_Bench_init) (C_Bench_size : CalleeM P w K mg base C_Bench "_size" ["self"] 1 (pre_Bench_size C_Bench)) (C_shapes_of : Callee P w K mg base "shapes_of" ["board"] 6 pre_shapes_of) (B_Bench : Cls K C_Bench) (na_Bench_board : NoAttr K C_Bench "_board") (na_Bench_corners : NoAttr K C_Bench "_corners") (na_Bench_done : NoAttr K C_Bench "_done") (na_Bench_grown : NoAttr K C_Bench "_grown") (na_Bench_undone : NoAttr K C_Bench "_undone") : CalleeI P w K mg base "Bench" C_Bench ["self", "board"] 7 (pre_Bench_init C_Bench) := by
  obtain ⟨f, fd, F, hmk, hmg⟩ := D
  obtain ⟨f_Bench_size, fd_Bench_size, G_Bench_size, m_Bench_size, b_Bench_size⟩ := C_Bench_size
  obtain ⟨f_shapes_of, fd_shapes_of, G_shapes_of, g_shapes_of, kp_shapes_of, b_shapes_of, _⟩ := C_shapes_of
  refine ⟨f, fd, fn_ok F sc_Bench_init len_Bench_init fun cdv A outer s H E hr => ⟨_, (pss_cons (psFld (K := K) (pv 0) (pv 1))
      (pss_cons (psFld (K := K) (pv 0) (pe_call G_shapes_of (hr.mono (by decide)) (by rfl) g_shapes_of kp_shapes_of b_shapes_of .nil pass0 (pa_cons (pv 1) pa_nil)))
      (pss_cons (ps_asg (peMeth0 (K := K) B_Bench m_Bench_size G_Bench_size (hr.mono (by decide)) b_Bench_size (pv 0)) (pgTup K rfl (pgs_cons (pg_name (i := 2) sc_Bench_init.nd rfl (.inl rfl)) (pgs_cons (pg_name (i := 3) sc_Bench_init.nd rfl (.inl rfl)) pgs_nil))))
      (pss_cons (psFld (K := K) (pv 0) (pe_op op_mul (pv 2) (pv 3)))
      (pss_cons (psFld (K := K) (pv 0) (pe_lst pa_nil))
      (pss_one (psFld (K := K) (pv 0) (pe_lst pa_nil)))))))), ?_⟩, hmk, hmg, F.binds fun _ _ _ _ _ _ us hl => match us, hl with | [_, _], _ => rfl⟩
  intro rs O Q h
  obtain ⟨a, dx, n, b, O', rfl, rfl, hb, hn, hbl, q⟩ := h
  show StW K _ _ [.ad a, .dat (tS b), .non, .non] _
  refine s_seq (s_fldN (by assumption) (by assumption) ?_)
  repeat' walk_at "e"
  refine ⟨a, dx, [], [], [], O', rfl, .refl _, by simp, by decide, rfl, fun vs => ?_⟩
  refine s_seq (s_fldN (by assumption) (by assumption) ?_)
  repeat' walk_at "e"
  refine ⟨n, b, rfl, hb, by omega, by omega, ?_⟩
  repeat' walk_at "e"
  refine ⟨a, dx, _, _, _, O', rfl, .refl _, by decide, by decide, rfl, fun vs => ?_⟩
  refine s_seq (s_unp2 (w_meth ?_))
  repeat' walk_at "e"
  refine ⟨a, dx, _, _, _, rfl, List.mem_cons_self, by decide, w_nil ?_⟩
  refine ⟨a, dx, _, _, _, n, b.length, b, rfl, List.mem_cons_self, rfl, by omega, by omega, ?_⟩
  refine ⟨_, _, rfl, ?_⟩
  refine s_seq (s_fldN (by assumption) (by assumption) ?_)
  repeat' walk_at "e"
  refine ⟨a, dx, _, _, _, O', rfl, .refl _, by decide, by decide, rfl, fun vs => ?_⟩
  refine s_seq (s_fldN (by assumption) (by assumption) (w_lstO ?_))
  repeat' walk_at "e"
  refine ⟨sz_ok rfl, fun pd => ?_⟩
  repeat' walk_at "e"
  refine ⟨a, dx, _, _, _, _, rfl, .swap .., by decide, by decide, rfl, fun vs => ?_⟩
  refine s_fldN (by assumption) (by assumption) (w_lstO ?_)
  repeat' walk_at "e"
  refine ⟨sz_ok rfl, fun pu => ?_⟩
  repeat' walk_at "e"
  refine ⟨a, dx, _, _, _, _, rfl, .trans (.swap ..) (.cons _ (.swap ..)), by decide, by decide, rfl, fun vs => ?_⟩
  exact q vs pd pu
def pre_Bench_board (C : Addr) : Pre := fun rs O Q => ∃ (a dx : Addr) (vs : List V) (bd co g pd pu : SD), rs = [.ad a] ∧ (a, insO C dx nsB vs [bd, co, g, pd, pu]) ∈ O ∧ Q bd O
theorem len_Bench_board {C : Addr} (rs : List SD) (O : Own) (Q : SD → Own → Prop) (h : pre_Bench_board C rs O Q) : rs.length = 1 := by
  obtain ⟨a, dx, vs, bd, co, g, pd, pu, rfl, _⟩ := h
  rfl
abbrev s_Bench_board : Stmt := inClass (topS 21) 8
theorem sc_Bench_board : FnScope ["self"] ["self"] (defScope s_Bench_board) := ⟨rfl, rfl, rfl, by decide +kernel, rfl, by decide +kernel, by decide +kernel⟩
set_option maxHeartbeats 4000000 in
theorem ok_Bench_board  {C_Bench : Addr} (D : DefM K C_Bench "board" "Bench.board" s_Bench_board) (B_Bench : Cls K C_Bench) (na_Bench_board : NoAttr K C_Bench "_board") : CalleeM P w K mg base C_Bench "board" ["self"] 1 (pre_Bench_board C_Bench) := by
  obtain ⟨f, fd, F, hmg⟩ := D
  refine ⟨f, fd, fn_ok F sc_Bench_board len_Bench_board fun cdv A outer s H E hr => ⟨_, (pss_one (ps_ret (peFld (K := K) (pv 0)))), ?_⟩, hmg, F.binds fun _ _ _ _ _ _ us hl => match us, hl with | [_], _ => rfl⟩
  intro rs O Q h
  obtain ⟨a, dx, vs, bd, co, g, pd, pu, rfl, hm, q⟩ := h
  show StW K _ O [.ad a] _
  refine s_ret ?_
  repeat' walk_at "e"
  exact q
def pre_Bench_grown (C : Addr) : Pre := fun rs O Q => ∃ (a dx : Addr) (vs : List V) (bd co g pd pu : SD), rs = [.ad a] ∧ (a, insO C dx nsB vs [bd, co, g, pd, pu]) ∈ O ∧ Q g O
theorem len_Bench_grown {C : Addr} (rs : List SD) (O : Own) (Q : SD → Own → Prop) (h : pre_Bench_grown C rs O Q) : rs.length = 1 := by
  obtain ⟨a, dx, vs, bd, co, g, pd, pu, rfl, _⟩ := h
  rfl
abbrev s_Bench_grown : Stmt := inClass (topS 21) 11
theorem sc_Bench_grown : FnScope ["self"] ["self"] (defScope s_Bench_grown) := ⟨rfl, rfl, rfl, by decide +kernel, rfl, by decide +kernel, by decide +kernel⟩
set_option maxHeartbeats 4000000 in
theorem ok_Bench_grown  {C_Bench : Addr} (D : DefM K C_Bench "grown" "Bench.grown" s_Bench_grown) (B_Bench : Cls K C_Bench) (na_Bench_grown : NoAttr K C_Bench "_grown") : CalleeM P w K mg base C_Bench "grown" ["self"] 1 (pre_Bench_grown C_Bench) := by
  obtain ⟨f, fd, F, hmg⟩ := D
  refine ⟨f, fd, fn_ok F sc_Bench_grown len_Bench_grown fun cdv A outer s H E hr => ⟨_, (pss_one (ps_ret (peFld (K := K) (pv 0)))), ?_⟩, hmg, F.binds fun _ _ _ _ _ _ us hl => match us, hl with | [_], _ => rfl⟩
  intro rs O Q h
  obtain ⟨a, dx, vs, bd, co, g, pd, pu, rfl, hm, q⟩ := h
  show StW K _ O [.ad a] _
  refine s_ret ?_
  repeat' walk_at "e"
  exact q
def pre_Bench_shape (C CE : Addr) : PreX := fun rs O Q Qx => ∃ (a dx : Addr) (vs : List V) (bd g pd pu : SD) (n m : Nat) (b : List (List Int)) (r c : Int), rs = [.ad a, iV r, iV c] ∧ (a, insO C dx nsB vs [bd, .dat (lLc (corAll b n m)), g, pd, pu]) ∈ O ∧ n ≤ 50 ∧ m ≤ 50 ∧ -1000 ≤ r ∧ r ≤ 1000 ∧ -1000 ≤ c ∧ c ≤ 1000 ∧ (¬ (0 ≤ r ∧ r ≤ m ∧ 0 ≤ c ∧ c ≤ n) → Qx CE none O) ∧ (0 ≤ r → r ≤ m → 0 ≤ c → c ≤ n → Q (.dat (tI (cor b r.toNat c.toNat))) O)
theorem len_Bench_shape {C CE : Addr} (rs : List SD) (O : Own) (Q : SD → Own → Prop) (Qx : Addr → Option (Str × PyData) → Own → Prop) (h : pre_Bench_shape C CE rs O Q Qx) : rs.length = 3 := by
  obtain ⟨a, dx, vs, bd, g, pd, pu, n, m, b, r, c, rfl, _⟩ := h
  rfl
abbrev s_Bench_shape : Stmt := inClass (topS 21) 9
theorem sc_Bench_shape : FnScope ["self", "row", "column", "rows", "columns"] ["self", "row", "column"] (defScope s_Bench_shape) := ⟨rfl, rfl, rfl, by decide +kernel, rfl, by decide +kernel, by decide +kernel⟩
set_option maxHeartbeats 4000000 in
theorem ok_Bench_shape  {C_Bench : Addr} {C_NoSuchCorner : Addr} (D : DefM K C_Bench "shape" "Bench.shape" s_Bench_shape) (C_Bench_size : CalleeM P w K mg base C_Bench "_size" ["self"] 1 (pre_Bench_size C_Bench)) (B_Bench : Cls K C_Bench) (na_Bench_corners : NoAttr K C_Bench "_corners") (N_NoSuchCorner : ExN K mg "NoSuchCorner" C_NoSuchCorner) : CalleeMX P w K mg base C_Bench "shape" ["self", "row", "column"] 2 ((pre_Bench_shape C_Bench) C_NoSuchCorner) := by
  obtain ⟨f, fd, F, hmg⟩ := D
  obtain ⟨f_Bench_size, fd_Bench_size, G_Bench_size, m_Bench_size, b_Bench_size⟩ := C_Bench_size
  refine ⟨f, fd, fnx_ok F sc_Bench_shape len_Bench_shape fun cdv A outer s H E hr => ⟨_, (pss_cons (ps_asg (peMeth0 (K := K) B_Bench m_Bench_size G_Bench_size (hr.mono (by decide)) b_Bench_size (pv 0)) (pgTup K rfl (pgs_cons (pg_name (i := 3) sc_Bench_shape.nd rfl (.inl rfl)) (pgs_cons (pg_name (i := 4) sc_Bench_shape.nd rfl (.inl rfl)) pgs_nil))))
      (pss_cons (ps_if (PW.pt (pw_or (pt_cmpR op_lt (pv 1) pe_int (nomark _)) (pw_or (pt_cmpR op_gt (pv 1) (pv 3) (nomark _)) (pw_or (pt_cmpR op_lt (pv 2) pe_int (nomark _)) (pw_or1 (pt_cmpR op_gt (pv 2) (pv 4) (nomark _))))))) (pss_one (psRz1 (K := K) N_NoSuchCorner rfl (by exact takes_of rfl rfl rfl rfl : Takes _ (wE E)) rfl (psJf (.cons pe_str (.cons (pe_fmt (pv 1)) (.cons pe_str (.cons (pe_fmt (pv 2)) (.cons pe_str .nil)))))))) pss_nil)
      (pss_one (ps_ret (pe_ix (ixL K) (pe_ix (ixL K) (peFld (K := K) (pv 0)) (pv 1) (fun _ _ => rfl)) (pv 2) (fun _ _ => rfl)))))), ?_⟩, hmg, F.binds fun _ _ _ _ _ _ us hl => match us, hl with | [_, _, _], _ => rfl⟩
  intro rs O Q Qx h
  obtain ⟨a, dx, vs, bd, g, pd, pu, n, m, b, r, c, rfl, hm, hn, hmm, hr1, hr2, hc1, hc2, qx, q⟩ := h
  show StW K _ O [.ad a, iV r, iV c, .non, .non] _
  refine s_seq (s_unp2 (w_meth ?_))
  repeat' walk_at "e"
  refine ⟨a, dx, _, _, _, rfl, hm, by decide, w_nil ?_⟩
  refine ⟨a, dx, _, _, _, n, m, b, rfl, hm, rfl, by omega, by omega, ?_⟩
  refine ⟨_, _, rfl, ?_⟩
  refine s_seq (s_if ?_)
  repeat' walk_at "e"
  · repeat' walk_at "w"
    exact fun _ => qx fun z => by omega
  · repeat' walk_at "w"
    exact fun _ => qx fun z => by omega
  · repeat' walk_at "w"
    exact fun _ => qx fun z => by omega
  · repeat' walk_at "w"
    exact fun _ => qx fun z => by omega
  refine s_next ?_
  refine s_ret ?_
  repeat' walk_at "e"
  refine o_ixL (at_nth (by omega) (corAll_get b n m _ (by omega))) ?_
  have hrl : (corRow b n r.toNat).length = n + 1 := corRow_len b n _
  repeat' walk_at "e"
  rw [corRow_get, if_pos (by omega)]
  exact q (by omega) (by omega) (by omega) (by omega)
def pre_Bench_most (C CE : Addr) : PreX := fun rs O Q Qx => ∃ (a dx : Addr) (vs : List V) (bd g pd pu : SD) (n m : Nat) (b : List (List Int)) (k r c : Int), rs = [.ad a, iV k, iV r, iV c] ∧ (a, insO C dx nsB vs [bd, .dat (lLc (corAll b n m)), g, pd, pu]) ∈ O ∧ n ≤ 50 ∧ m ≤ 50 ∧ 0 ≤ k ∧ k ≤ 1000 ∧ -1000 ≤ r ∧ r ≤ 1000 ∧ -1000 ≤ c ∧ c ≤ 1000 ∧ (¬ (0 ≤ r ∧ r ≤ m ∧ 0 ≤ c ∧ c ≤ n) → Qx CE none O) ∧ (0 ≤ r → r ≤ m → 0 ≤ c → c ≤ n → Q (iV (cut (cor b r.toNat c.toNat) none (some k)).sum) O)
theorem len_Bench_most {C CE : Addr} (rs : List SD) (O : Own) (Q : SD → Own → Prop) (Qx : Addr → Option (Str × PyData) → Own → Prop) (h : pre_Bench_most C CE rs O Q Qx) : rs.length = 4 := by
  obtain ⟨a, dx, vs, bd, g, pd, pu, n, m, b, k, r, c, rfl, _⟩ := h
  rfl
abbrev s_Bench_most : Stmt := inClass (topS 21) 10
theorem sc_Bench_most : FnScope ["self", "count", "row", "column"] ["self", "count", "row", "column"] (defScope s_Bench_most) := ⟨rfl, rfl, rfl, by decide +kernel, rfl, by decide +kernel, by decide +kernel⟩
set_option maxHeartbeats 4000000 in
theorem ok_Bench_most  {C_Bench : Addr} {C_NoSuchCorner : Addr} (D : DefM K C_Bench "most" "Bench.most" s_Bench_most) (C_Bench_shape : CalleeMX P w K mg base C_Bench "shape" ["self", "row", "column"] 2 ((pre_Bench_shape C_Bench) C_NoSuchCorner)) (m_max : mg "max" = none) (m_sum : mg "sum" = none) (B_Bench : Cls K C_Bench) : CalleeMX P w K mg base C_Bench "most" ["self", "count", "row", "column"] 3 ((pre_Bench_most C_Bench) C_NoSuchCorner) := by
  obtain ⟨f, fd, F, hmg⟩ := D
  obtain ⟨f_Bench_shape, fd_Bench_shape, G_Bench_shape, m_Bench_shape, b_Bench_shape⟩ := C_Bench_shape
  refine ⟨f, fd, fnx_ok F sc_Bench_most len_Bench_most fun cdv A outer s H E hr => ⟨_, (pss_one (ps_ret (pe_callB (kSumT K rfl) (by rfl) m_sum (by decide +kernel) (pa_cons (pe_slice (slT K) (by exact (peMethS (K := K) B_Bench m_Bench_shape G_Bench_shape (hr.mono (by decide)) b_Bench_shape (fun σ => passAt (by exact takes_of rfl rfl rfl rfl : Takes _ (wE E)) σ) (pv 0) (pa_cons (pv 2) (pa_cons (pv 3) pa_nil)))) po_none (po_some (pe_callB (kMax2 rfl) (by rfl) m_max (by decide +kernel) (pa_cons (pv 1) (pa_cons pe_int pa_nil))))) pa_nil)))), ?_⟩, hmg, F.binds fun _ _ _ _ _ _ us hl => match us, hl with | [_, _, _, _], _ => rfl⟩
  intro rs O Q Qx h
  obtain ⟨a, dx, vs, bd, g, pd, pu, n, m, b, k, r, c, rfl, hm, hn, hmm, hk1, hk2, hr1, hr2, hc1, hc2, qx, q⟩ := h
  show StW K _ O [.ad a, iV k, iV r, iV c] _
  refine sx_ret (fun Hk hx => hx) (x_cb1 (x_sl (x_meth ?_)))
  repeat' walk_at "e"
  refine ⟨a, dx, _, _, _, rfl, hm, by decide, ?_⟩
  repeat' walk_at "e"
  refine ⟨a, dx, vs, bd, g, pd, pu, n, m, b, r, c, rfl, hm, hn, hmm, hr1, hr2, hc1, hc2, fun z => qx z, fun h1 h2 h3 h4 => ?_⟩
  repeat' walk_at "e"
  rw [show max k 0 = k by omega, show cut ((cor b r.toNat c.toNat).map PyData.int) none (some k) = (cut (cor b r.toNat c.toNat) none (some k)).map PyData.int by rw [cut_hi _ hk1, cut_hi _ hk1, List.map_take]]
  exact g_sumT (q h1 h2 h3 h4)
def pre_law_right (C : Addr) : Pre := fun rs O Q => ∃ (a dx : Addr) (vs : List V) (g : Int) (pd pu : SD) (s : Ste), rs = [.ad a, .dat (steD s), iV g] ∧ (a, insO C dx nsB vs [.dat (tS s.b), .dat (lLc (corAll s.b s.n s.b.length)), iV g, pd, pu]) ∈ O ∧ Brd s.n s.b ∧ s.n ≤ 8 ∧ s.b.length ≤ 8 ∧ Q (bV true) O
theorem len_law_right {C : Addr} (rs : List SD) (O : Own) (Q : SD → Own → Prop) (h : pre_law_right C rs O Q) : rs.length = 3 := by
  obtain ⟨a, dx, vs, g, pd, pu, s, rfl, _⟩ := h
  rfl
abbrev s_law_right : Stmt := topS 45
theorem sc_law_right : FnScope ["bench", "state", "grown", "i", "j", "shape"] ["bench", "state", "grown"] (defScope s_law_right) := ⟨rfl, rfl, rfl, by decide +kernel, rfl, by decide +kernel, by decide +kernel⟩
set_option maxHeartbeats 4000000 in
theorem ok_law_right  {C_Bench : Addr} {C_NoSuchCorner : Addr} (D : Def K mg "_law_right" s_law_right) (C_Bench_board : CalleeM P w K mg base C_Bench "board" ["self"] 1 (pre_Bench_board C_Bench)) (C_Bench_grown : CalleeM P w K mg base C_Bench "grown" ["self"] 1 (pre_Bench_grown C_Bench)) (C_Bench_shape : CalleeMX P w K mg base C_Bench "shape" ["self", "row", "column"] 2 ((pre_Bench_shape C_Bench) C_NoSuchCorner)) (C_Bench_most : CalleeMX P w K mg base C_Bench "most" ["self", "count", "row", "column"] 3 ((pre_Bench_most C_Bench) C_NoSuchCorner)) (m_len : mg "len" = none) (m_range : mg "range" = none) (m_sum : mg "sum" = none) (B_Bench : Cls K C_Bench) : Callee P w K mg base "_law_right" ["bench", "state", "grown"] 4 (pre_law_right C_Bench) := by
  obtain ⟨f, fd, F, hmg⟩ := D
  obtain ⟨f_Bench_board, fd_Bench_board, G_Bench_board, m_Bench_board, b_Bench_board⟩ := C_Bench_board
  obtain ⟨f_Bench_grown, fd_Bench_grown, G_Bench_grown, m_Bench_grown, b_Bench_grown⟩ := C_Bench_grown
  obtain ⟨f_Bench_shape, fd_Bench_shape, G_Bench_shape, m_Bench_shape, b_Bench_shape⟩ := C_Bench_shape
  obtain ⟨f_Bench_most, fd_Bench_most, G_Bench_most, m_Bench_most, b_Bench_most⟩ := C_Bench_most
  refine ⟨f, fd, fn_ok F sc_law_right len_law_right fun cdv A outer s H E hr => ⟨_, (pss_cons (ps_if (PW.pt (pw_or (pt_cmpR (kNeD K hr.units) (peMeth0 (K := K) B_Bench m_Bench_board G_Bench_board (hr.mono (by decide)) b_Bench_board (pv 0)) (pe_ix (ixT K) (pv 1) pe_int (fun _ _ => rfl)) (nomark _)) (pw_or1 (pt_cmpR op_ne (peMeth0 (K := K) B_Bench m_Bench_grown G_Bench_grown (hr.mono (by decide)) b_Bench_grown (pv 0)) (pv 2) (nomark _))))) (pss_one (ps_ret pe_bl)) pss_nil)
      (pss_cons (ps_for PassesOwn.never rfl (pi_range1 (by rfl) m_range (pa_cons (pe_op op_add (pe_callB (kLen K) (by rfl) m_len PySem.boot_len (pa_cons (pe_ix (ixT K) (pv 1) pe_int (fun _ _ => rfl)) pa_nil)) pe_int) pa_nil)) (pg_name (i := 3) sc_law_right.nd rfl (.inl rfl)) (pss_one (ps_for PassesOwn.never rfl (pi_range1 (by rfl) m_range (pa_cons (pe_op op_add (pe_callB (kLen K) (by rfl) m_len PySem.boot_len (pa_cons (pe_ix (ixT K) (pe_ix (ixT K) (pv 1) pe_int (fun _ _ => rfl)) pe_int (fun _ _ => rfl)) pa_nil)) pe_int) pa_nil)) (pg_name (i := 4) sc_law_right.nd rfl (.inl rfl)) (pss_cons (ps_set (i := 5) sc_law_right.nd rfl (.inl rfl) (pe_ix (ixL K) (pe_ix (ixL K) (pe_ix (ixT K) (pv 1) pe_int (fun _ _ => rfl)) (pv 3) (fun _ _ => rfl)) (pv 4) (fun _ _ => rfl)))
      (pss_cons (ps_if (PW.pt (pw_or (pt_cmpR (kNeD K hr.units) (by exact (peMethS (K := K) B_Bench m_Bench_shape G_Bench_shape (hr.mono (by decide)) b_Bench_shape (fun σ => passAt (takes0) σ) (pv 0) (pa_cons (pv 3) (pa_cons (pv 4) pa_nil)))) (pv 5) (nomark _)) (pw_or (pt_cmpR op_ne (by exact (peMethS (K := K) B_Bench m_Bench_most G_Bench_most (hr.mono (by decide)) b_Bench_most (fun σ => passAt (takes0) σ) (pv 0) (pa_cons pe_int (pa_cons (pv 3) (pa_cons (pv 4) pa_nil))))) (pe_callB (kSumT K rfl) (by rfl) m_sum (by decide +kernel) (pa_cons (pe_slice (slT K) (pv 5) po_none (po_some pe_int)) pa_nil)) (nomark _)) (pw_or1 (pt_cmpR op_ne (by exact (peMethS (K := K) B_Bench m_Bench_most G_Bench_most (hr.mono (by decide)) b_Bench_most (fun σ => passAt (takes0) σ) (pv 0) (pa_cons pe_int (pa_cons (pv 3) (pa_cons (pv 4) pa_nil))))) (pe_callB (kSumT K rfl) (by rfl) m_sum (by decide +kernel) (pa_cons (pv 5) pa_nil)) (nomark _)))))) (pss_one (ps_ret pe_bl)) pss_nil)
      (pss_one (ps_if (PW.pt (pw_or (pt_cmpR op_ne (by exact (peMethS (K := K) B_Bench m_Bench_most G_Bench_most (hr.mono (by decide)) b_Bench_most (fun σ => passAt (takes0) σ) (pv 0) (pa_cons pe_int (pa_cons (pv 3) (pa_cons (pv 4) pa_nil))))) (pe_callB (kSumT K rfl) (by rfl) m_sum (by decide +kernel) (pa_cons (pe_slice (slT K) (pv 5) po_none (po_some pe_int)) pa_nil)) (nomark _)) (pw_or1 (pt_cmpR op_ne (by exact (peMethS (K := K) B_Bench m_Bench_most G_Bench_most (hr.mono (by decide)) b_Bench_most (fun σ => passAt (takes0) σ) (pv 0) (pa_cons pe_int (pa_cons (pv 3) (pa_cons (pv 4) pa_nil))))) (pe_callB (kSumT K rfl) (by rfl) m_sum (by decide +kernel) (pa_cons (pe_slice (slT K) (pv 5) po_none (po_some pe_int)) pa_nil)) (nomark _))))) (pss_one (ps_ret pe_bl)) pss_nil)))))))
      (pss_one (ps_ret pe_bl)))), ?_⟩, hmg, F.kp, F.binds fun _ _ _ _ _ _ us hl => match us, hl with | [_, _, _], _ => rfl, Wk.Fun.lk F⟩
  intro rs O Q h
  obtain ⟨a, dx, vs, g, pd, pu, s, rfl, hm, hb, hn, hbl, q⟩ := h
  obtain ⟨b, n, ris, cis⟩ := s
  show StW K _ O [.ad a, .dat (stD b n ris cis), iV g, .non, .non, .non] _
  replace hb : Brd n b := hb
  replace hm : (a, insO C_Bench dx nsB vs [.dat (tS b), .dat (lLc (corAll b n b.length)), iV g, pd, pu]) ∈ O := hm
  replace hn : n ≤ 8 := hn
  replace hbl : b.length ≤ 8 := hbl
  have hb0 : 0 < b.length := hb.b0
  have hlb : (b.map fun c => tI c).length = b.length := List.length_map _
  refine s_seq (s_if ?_)
  repeat' walk_at "e"
  refine w_meth ?_
  repeat' walk_at "e"
  refine ⟨a, dx, _, _, _, rfl, hm, by decide, w_nil ?_⟩
  refine ⟨a, dx, vs, _, _, _, _, _, rfl, hm, ?_⟩
  repeat' walk_at "e"
  · walk_at "no"
  refine w_meth ?_
  repeat' walk_at "e"
  refine ⟨a, dx, _, _, _, rfl, hm, by decide, w_nil ?_⟩
  refine ⟨a, dx, vs, _, _, _, _, _, rfl, hm, ?_⟩
  repeat' walk_at "e"
  · rename_i z
    exact absurd rfl z
  refine s_next ?_
  refine s_seq (s_for1 ?_)
  repeat' walk_at "e"
  rw [hlb]
  refine ⟨by omega, by omega, fun i O2 ds2 => ∃ y3 y4 y5 : SD, O = O2 ∧ ds2 = [.ad a, .dat (stD b n ris cis), iV g, y3, y4, y5], ⟨_, _, _, rfl, rfl⟩, fun i O2 ds2 hi hI B hB => ?_, fun O2 ds2 hI => ?_⟩
  · obtain ⟨y3, y4, y5, rfl, rfl⟩ := hI
    have hr0 : (b.getD (0 : Int).toNat []).length = n := (brd_row hb hb0).1
    refine s_for1 ?_
    repeat' walk_at "e"
    rw [List.length_map]
    erw [hr0]
    refine ⟨by omega, by omega, fun j O2 ds2 => ∃ y4 y5 : SD, O = O2 ∧ ds2 = [.ad a, .dat (stD b n ris cis), iV g, iV i, y4, y5], ⟨_, _, rfl, rfl⟩, fun j O2 ds2 hj hI B2 hB2 => ?_, fun O2 ds2 hI => ?_⟩
    · obtain ⟨y4, y5, rfl, rfl⟩ := hI
      have hca : (corRow b n ((i : Int)).toNat).length = n + 1 := corRow_len b n _
      refine s_seq (s_asg ?_)
      repeat' walk_at "e"
      refine o_ixL (at_nth (by omega) (corAll_get b n b.length _ (by omega))) ?_
      repeat' walk_at "e"
      rw [corRow_get, Int.toNat_natCast, Int.toNat_natCast, if_pos (by omega)]
      have hcl : (cor b i j).length ≤ 24 := by
        have := cor_len hb.am i j
        omega
      have e24 : cut (cor b i j) none (some 24) = cor b i j := by rw [cut_hi _ (by decide)]; exact List.take_of_length_le hcl
      refine s_seq (s_if ?_)
      repeat' walk_at "e"
      refine w_methN ?_
      repeat' walk_at "e"
      refine ⟨a, dx, _, _, _, rfl, hm, by decide, ?_⟩
      repeat' walk_at "e"
      refine ⟨a, dx, vs, _, _, _, _, n, b.length, b, i, j, rfl, hm, by omega, by omega, by omega, by omega, by omega, by omega, fun z => z (by omega), fun _ _ _ _ => ?_⟩
      rw [Int.toNat_natCast, Int.toNat_natCast]
      repeat' walk_at "e"
      · walk_at "no"
      refine w_methN ?_
      repeat' walk_at "e"
      refine ⟨a, dx, _, _, _, rfl, hm, by decide, ?_⟩
      repeat' walk_at "e"
      refine ⟨a, dx, vs, _, _, _, _, n, b.length, b, 1, i, j, rfl, hm, by omega, by omega, by decide, by decide, by omega, by omega, by omega, by omega, fun z => z (by omega), fun _ _ _ _ => ?_⟩
      rw [Int.toNat_natCast, Int.toNat_natCast]
      repeat' walk_at "e"
      rw [cut_map]
      refine g_sumT ?_
      repeat' walk_at "e"
      · rename_i z
        exact absurd rfl z
      refine w_methN ?_
      repeat' walk_at "e"
      refine ⟨a, dx, _, _, _, rfl, hm, by decide, ?_⟩
      repeat' walk_at "e"
      refine ⟨a, dx, vs, _, _, _, _, n, b.length, b, 24, i, j, rfl, hm, by omega, by omega, by decide, by decide, by omega, by omega, by omega, by omega, fun z => z (by omega), fun _ _ _ _ => ?_⟩
      rw [Int.toNat_natCast, Int.toNat_natCast, e24]
      repeat' walk_at "e"
      · rename_i z
        exact absurd rfl z
      refine s_next ?_
      refine s_if ?_
      repeat' walk_at "e"
      refine w_methN ?_
      repeat' walk_at "e"
      refine ⟨a, dx, _, _, _, rfl, hm, by decide, ?_⟩
      repeat' walk_at "e"
      refine ⟨a, dx, vs, _, _, _, _, n, b.length, b, 2, i, j, rfl, hm, by omega, by omega, by decide, by decide, by omega, by omega, by omega, by omega, fun z => z (by omega), fun _ _ _ _ => ?_⟩
      rw [Int.toNat_natCast, Int.toNat_natCast]
      repeat' walk_at "e"
      rw [cut_map]
      refine g_sumT ?_
      repeat' walk_at "e"
      · rename_i z
        exact absurd rfl z
      refine w_methN ?_
      repeat' walk_at "e"
      refine ⟨a, dx, _, _, _, rfl, hm, by decide, ?_⟩
      repeat' walk_at "e"
      refine ⟨a, dx, vs, _, _, _, _, n, b.length, b, 3, i, j, rfl, hm, by omega, by omega, by decide, by decide, by omega, by omega, by omega, by omega, fun z => z (by omega), fun _ _ _ _ => ?_⟩
      rw [Int.toNat_natCast, Int.toNat_natCast]
      repeat' walk_at "e"
      rw [cut_map]
      refine g_sumT ?_
      repeat' walk_at "e"
      · rename_i z
        exact absurd rfl z
      refine s_next ?_
      exact hB2.nx _ _ ⟨_, _, rfl, rfl⟩
    · obtain ⟨y4, y5, rfl, rfl⟩ := hI
      exact hB.nx _ _ ⟨_, _, _, rfl, rfl⟩
  obtain ⟨y3, y4, y5, rfl, rfl⟩ := hI
  refine s_ret ?_
  repeat' walk_at "e"
  exact q
def pre_Bench_changes (C : Addr) : Pre := fun rs O Q => ∃ (a dx : Addr) (vs : List V) (bd co g pu : SD) (p : Addr) (ss : List SD), rs = [.ad a] ∧ (a, insO C dx nsB vs [bd, co, g, .ad p, pu]) ∈ O ∧ (p, OD.lst ss) ∈ O ∧ Q (iV ss.length) O
theorem len_Bench_changes {C : Addr} (rs : List SD) (O : Own) (Q : SD → Own → Prop) (h : pre_Bench_changes C rs O Q) : rs.length = 1 := by
  obtain ⟨a, dx, vs, bd, co, g, pu, p, ss, rfl, _⟩ := h
  rfl
abbrev s_Bench_changes : Stmt := inClass (topS 21) 12
theorem sc_Bench_changes : FnScope ["self"] ["self"] (defScope s_Bench_changes) := ⟨rfl, rfl, rfl, by decide +kernel, rfl, by decide +kernel, by decide +kernel⟩
set_option maxHeartbeats 4000000 in
theorem ok_Bench_changes  {C_Bench : Addr} (D : DefM K C_Bench "changes" "Bench.changes" s_Bench_changes) (m_len : mg "len" = none) (B_Bench : Cls K C_Bench) (na_Bench_done : NoAttr K C_Bench "_done") : CalleeM P w K mg base C_Bench "changes" ["self"] 1 (pre_Bench_changes C_Bench) := by
  obtain ⟨f, fd, F, hmg⟩ := D
  refine ⟨f, fd, fn_ok F sc_Bench_changes len_Bench_changes fun cdv A outer s H E hr => ⟨_, (pss_one (ps_ret (pe_callB (kLen K) (by rfl) m_len PySem.boot_len (pa_cons (peFld (K := K) (pv 0)) pa_nil)))), ?_⟩, hmg, F.binds fun _ _ _ _ _ _ us hl => match us, hl with | [_], _ => rfl⟩
  intro rs O Q h
  obtain ⟨a, dx, vs, bd, co, g, pu, p, ss, rfl, hm, hp, q⟩ := h
  show StW K _ O [.ad a] _
  refine s_ret ?_
  repeat' walk_at "e"
  refine g_lenO hp ?_
  exact q
def pre_Bench_undone (C : Addr) : Pre := fun rs O Q => ∃ (a dx : Addr) (vs : List V) (bd co g pu : SD) (p : Addr) (ss : List SD), rs = [.ad a] ∧ (a, insO C dx nsB vs [bd, co, g, pu, .ad p]) ∈ O ∧ (p, OD.lst ss) ∈ O ∧ Q (iV ss.length) O
theorem len_Bench_undone {C : Addr} (rs : List SD) (O : Own) (Q : SD → Own → Prop) (h : pre_Bench_undone C rs O Q) : rs.length = 1 := by
  obtain ⟨a, dx, vs, bd, co, g, pu, p, ss, rfl, _⟩ := h
  rfl
abbrev s_Bench_undone : Stmt := inClass (topS 21) 13
theorem sc_Bench_undone : FnScope ["self"] ["self"] (defScope s_Bench_undone) := ⟨rfl, rfl, rfl, by decide +kernel, rfl, by decide +kernel, by decide +kernel⟩
set_option maxHeartbeats 4000000 in
theorem ok_Bench_undone  {C_Bench : Addr} (D : DefM K C_Bench "undone" "Bench.undone" s_Bench_undone) (m_len : mg "len" = none) (B_Bench : Cls K C_Bench) (na_Bench_undone : NoAttr K C_Bench "_undone") : CalleeM P w K mg base C_Bench "undone" ["self"] 1 (pre_Bench_undone C_Bench) := by
  obtain ⟨f, fd, F, hmg⟩ := D
  refine ⟨f, fd, fn_ok F sc_Bench_undone len_Bench_undone fun cdv A outer s H E hr => ⟨_, (pss_one (ps_ret (pe_callB (kLen K) (by rfl) m_len PySem.boot_len (pa_cons (peFld (K := K) (pv 0)) pa_nil)))), ?_⟩, hmg, F.binds fun _ _ _ _ _ _ us hl => match us, hl with | [_], _ => rfl⟩
  intro rs O Q h
  obtain ⟨a, dx, vs, bd, co, g, pu, p, ss, rfl, hm, hp, q⟩ := h
  show StW K _ O [.ad a] _
  refine s_ret ?_
  repeat' walk_at "e"
  refine g_lenO hp ?_
  exact q
def pre_Bench_square (C : Addr) : Pre := fun rs O Q => ∃ (a dx : Addr) (vs : List V) (g pd pu : SD) (n : Nat) (b : List (List Int)) (r c : Nat), rs = [.ad a, iV r, iV c] ∧ (a, insO C dx nsB vs [.dat (tS b), .dat (lLc (corAll b n b.length)), g, pd, pu]) ∈ O ∧ Brd n b ∧ n ≤ 50 ∧ b.length ≤ 50 ∧ r ≤ b.length ∧ c ≤ n ∧ Q (.dat (sqD b r c)) O
theorem len_Bench_square {C : Addr} (rs : List SD) (O : Own) (Q : SD → Own → Prop) (h : pre_Bench_square C rs O Q) : rs.length = 3 := by
  obtain ⟨a, dx, vs, g, pd, pu, n, b, r, c, rfl, _⟩ := h
  rfl
abbrev s_Bench_square : Stmt := inClass (topS 21) 18
theorem sc_Bench_square : FnScope ["self", "row", "column", "above", "amount"] ["self", "row", "column"] (defScope s_Bench_square) := ⟨rfl, rfl, rfl, by decide +kernel, rfl, by decide +kernel, by decide +kernel⟩
set_option maxHeartbeats 4000000 in
theorem ok_Bench_square  {C_Bench : Addr} (D : DefM K C_Bench "_square" "Bench._square" s_Bench_square) (B_Bench : Cls K C_Bench) (na_Bench_board : NoAttr K C_Bench "_board") (na_Bench_corners : NoAttr K C_Bench "_corners") : CalleeM P w K mg base C_Bench "_square" ["self", "row", "column"] 1 (pre_Bench_square C_Bench) := by
  obtain ⟨f, fd, F, hmg⟩ := D
  refine ⟨f, fd, fn_ok F sc_Bench_square len_Bench_square fun cdv A outer s H E hr => ⟨_, (pss_cons (ps_if (PW.pt (pw_or (pt_cmpR op_eq (pv 1) pe_int (nomark _)) (pw_or1 (pt_cmpR op_eq (pv 2) pe_int (nomark _))))) (pss_one (ps_ret pe_non)) pss_nil)
      (pss_cons (ps_set (i := 3) sc_Bench_square.nd rfl (.inl rfl) (pe_ix (ixL K) (peFld (K := K) (pv 0)) (pe_op op_sub (pv 1) pe_int) (fun _ _ => rfl)))
      (pss_cons (ps_set (i := 4) sc_Bench_square.nd rfl (.inl rfl) (pe_ix (ixT K) (pe_ix (ixT K) (peFld (K := K) (pv 0)) (pe_op op_sub (pv 1) pe_int) (fun _ _ => rfl)) (pe_op op_sub (pv 2) pe_int) (fun _ _ => rfl)))
      (pss_one (ps_ret (pe_tup (pa_cons (pv 4) (pa_cons (pe_ix (ixL K) (pv 3) (pe_op op_sub (pv 2) pe_int) (fun _ _ => rfl)) (pa_cons (pe_ix (ixL K) (pv 3) (pv 2) (fun _ _ => rfl)) (pa_cons (pe_ix (ixL K) (pe_ix (ixL K) (peFld (K := K) (pv 0)) (pv 1) (fun _ _ => rfl)) (pe_op op_sub (pv 2) pe_int) (fun _ _ => rfl)) pa_nil)))))))))), ?_⟩, hmg, F.binds fun _ _ _ _ _ _ us hl => match us, hl with | [_, _, _], _ => rfl⟩
  intro rs O Q h
  obtain ⟨a, dx, vs, g, pd, pu, n, b, r, c, rfl, hm, hb, hn, hbl, hr, hc, q⟩ := h
  show StW K _ O [.ad a, iV r, iV c, .non, .non] _
  unfold sqD at q
  refine s_seq (s_if ?_)
  repeat' walk_at "e"
  · rename_i hd
    refine s_ret ?_
    repeat' walk_at "e"
    rw [if_pos (by omega)] at q
    exact q
  · rename_i hd hd2
    refine s_ret ?_
    repeat' walk_at "e"
    rw [if_pos (by omega)] at q
    exact q
  rename_i hd hd2
  rw [if_neg (by omega)] at q
  obtain ⟨r, rfl⟩ : ∃ k, r = k + 1 := ⟨r - 1, by omega⟩
  obtain ⟨c, rfl⟩ : ∃ k, c = k + 1 := ⟨c - 1, by omega⟩
  simp only [Nat.add_sub_cancel] at q
  refine s_next ?_
  refine s_seq (s_asg ?_)
  repeat' walk_at "e"
  have hbr : (b.getD (((r + 1 : Nat) : Int) - 1).toNat []).length = n := by
    rw [show (((r + 1 : Nat) : Int) - 1).toNat = r by omega, getD_at (show r < b.length by omega)]
    exact (hb.row _ (List.getElem_mem _)).1
  have hca : (corRow b n (((r + 1 : Nat) : Int) - 1).toNat).length = n + 1 := corRow_len b n _
  have hcb : (corRow b n (((r + 1 : Nat) : Int)).toNat).length = n + 1 := corRow_len b n _
  refine o_ixL (at_nth (by omega) (corAll_get b n b.length _ (by omega))) ?_
  refine s_seq (s_asg ?_)
  repeat' walk_at "e"
  refine s_ret (w_tup ?_)
  repeat' walk_at "e"
  refine o_ixL (at_nth (by omega) (corAll_get b n b.length _ (by omega))) ?_
  repeat' walk_at "e"
  rw [corRow_get, corRow_get, corRow_get, if_pos (by omega), if_pos (by omega), if_pos (by omega), show (((r + 1 : Nat) : Int) - 1).toNat = r by omega, show (((c + 1 : Nat) : Int) - 1).toNat = c by omega, Int.toNat_natCast, Int.toNat_natCast]
  exact q
def pre_Bench_row_below (C : Addr) : Pre := fun rs O Q => ∃ (a dx : Addr) (vs : List V) (g pd pu : SD) (n : Nat) (b : List (List Int)) (n2 i : Nat) (b2 : List (List Int)) (r : Nat) (cw : List Int), rs = [.ad a, .dat (lS (corRow b2 n2 i)), .dat (tI (b2.getD i [])), iV r, .dat (tI cw)] ∧ (a, insO C dx nsB vs [.dat (tS b), .dat (lLc (corAll b n b.length)), g, pd, pu]) ∈ O ∧ Brd n b ∧ n ≤ 50 ∧ b.length ≤ 50 ∧ Brd n2 b2 ∧ n2 ≤ 50 ∧ b2.length ≤ 50 ∧ i < b2.length ∧ r ≤ b.length ∧ cw.length = n2 ∧ (∀ v ∈ cw, 0 ≤ v ∧ v ≤ n) ∧ Q (.dat (.tuple [lS (corRow b2 n2 (i + 1)), .int (cntR b b2 i r cw n2 : Nat)])) O
theorem len_Bench_row_below {C : Addr} (rs : List SD) (O : Own) (Q : SD → Own → Prop) (h : pre_Bench_row_below C rs O Q) : rs.length = 5 := by
  obtain ⟨a, dx, vs, g, pd, pu, n, b, n2, i, b2, r, cw, rfl, _⟩ := h
  rfl
theorem corL' {b : List (List Int)} (h : Am b) : ∀ i j, (cor b i j).length ≤ i := fun i j => Nat.le_trans (cor_len h i j) (Nat.min_le_left _ _)
theorem corH2 {b : List (List Int)} {i k j : Nat} (h : j < k) : ((List.range k).map fun j => cor b i j).getD j [] = cor b i j := by
  rw [List.getD_eq_getElem?_getD, List.getElem?_map, List.getElem?_range h]
  rfl
abbrev s_Bench_row_below : Stmt := inClass (topS 21) 17
theorem sc_Bench_row_below : FnScope ["self", "above", "amounts", "old_row", "old_columns", "row", "grown", "j", "amount", "square"] ["self", "above", "amounts", "old_row", "old_columns"] (defScope s_Bench_row_below) := ⟨rfl, rfl, rfl, by decide +kernel, rfl, by decide +kernel, by decide +kernel⟩
set_option maxHeartbeats 4000000 in
theorem ok_Bench_row_below  {C_Bench : Addr} (D : DefM K C_Bench "_row_below" "Bench._row_below" s_Bench_row_below) (C_local_rule : Callee P w K mg base "local_rule" ["rho", "mu", "nu", "count"] 4 pre_local_rule) (C_Bench_square : CalleeM P w K mg base C_Bench "_square" ["self", "row", "column"] 1 (pre_Bench_square C_Bench)) (m_enumerate : mg "enumerate" = none) (B_Bench : Cls K C_Bench) (na_Bench_corners : NoAttr K C_Bench "_corners") : CalleeM P w K mg base C_Bench "_row_below" ["self", "above", "amounts", "old_row", "old_columns"] 5 (pre_Bench_row_below C_Bench) := by
  obtain ⟨f, fd, F, hmg⟩ := D
  obtain ⟨f_local_rule, fd_local_rule, G_local_rule, g_local_rule, kp_local_rule, b_local_rule, _⟩ := C_local_rule
  obtain ⟨f_Bench_square, fd_Bench_square, G_Bench_square, m_Bench_square, b_Bench_square⟩ := C_Bench_square
  refine ⟨f, fd, fn_ok F sc_Bench_row_below len_Bench_row_below fun cdv A outer s H E hr => ⟨_, (pss_cons (ps_set (i := 5) sc_Bench_row_below.nd rfl (.inl rfl) (pe_lst (pa_cons (pe_tup pa_nil) pa_nil)))
      (pss_cons (ps_set (i := 6) sc_Bench_row_below.nd rfl (.inl rfl) pe_int)
      (pss_cons (ps_for PassesOwn.never rfl (pi_enumT K (by rfl) m_enumerate (pa_cons (pv 2) pa_nil)) (pgTup K rfl (pgs_cons (pg_name (i := 7) sc_Bench_row_below.nd rfl (.inl rfl)) (pgs_cons (pg_name (i := 8) sc_Bench_row_below.nd rfl (.inl rfl)) pgs_nil))) (pss_cons (ps_set (i := 9) sc_Bench_row_below.nd rfl (.inl rfl) (pe_tup (pa_cons (pv 8) (pa_cons (pe_ix (ixL K) (pv 1) (pv 7) (fun _ _ => rfl)) (pa_cons (pe_ix (ixL K) (pv 1) (pe_op op_add (pv 7) pe_int) (fun _ _ => rfl)) (pa_cons (pe_ix (ixL K) (pv 5) (pv 7) (fun _ _ => rfl)) pa_nil))))))
      (pss_one (ps_if (pt_cmpR (kEqD K hr.units) (pv 9) (peMeth (K := K) B_Bench m_Bench_square G_Bench_square (hr.mono (by decide)) b_Bench_square (pv 0) (pa_cons (pv 3) (pa_cons (pe_ix (ixT K) (pv 4) (pv 7) (fun _ _ => rfl)) pa_nil))) (nomark _)) (pss_one (psApp K (ps_expr (pe_bm PySem.F.plainAttrs_list PySem.F.slot_list_append PySem.F.type_list_append mt_append (pv 5) (pa_cons (pe_ix (ixL K) (pe_ix (ixL K) (peFld (K := K) (pv 0)) (pv 3) (fun _ _ => rfl)) (pe_ix (ixT K) (pv 4) (pv 7) (fun _ _ => rfl)) (fun _ _ => rfl)) pa_nil))))) (pss_cons (psApp K (ps_expr (pe_bm PySem.F.plainAttrs_list PySem.F.slot_list_append PySem.F.type_list_append mt_append (pv 5) (pa_cons (pe_call G_local_rule (hr.mono (by decide)) (by rfl) g_local_rule kp_local_rule b_local_rule .nil pass0 (pa_cons (pe_ix (ixL K) (pv 1) (pv 7) (fun _ _ => rfl)) (pa_cons (pe_ix (ixL K) (pv 1) (pe_op op_add (pv 7) pe_int) (fun _ _ => rfl)) (pa_cons (pe_ix (ixL K) (pv 5) (pv 7) (fun _ _ => rfl)) (pa_cons (pv 8) pa_nil))))) pa_nil))))
      (pss_one (ps_aug (i := 6) sc_Bench_row_below.nd rfl (.inl rfl) pe_int ip_add)))))))
      (pss_one (ps_ret (pe_tup (pa_cons (pv 5) (pa_cons (pv 6) pa_nil)))))))), ?_⟩, hmg, F.binds fun _ _ _ _ _ _ us hl => match us, hl with | [_, _, _, _, _], _ => rfl⟩
  intro rs O Q h
  obtain ⟨a, dx, vs, g, pd, pu, n, b, n2, i, b2, r, cw, rfl, hm, hb, hn, hbl, hb2, hn2, hbl2, hi, hr, hcl, hcw, q⟩ := h
  show StW K _ O [.ad a, .dat (lS (corRow b2 n2 i)), .dat (tI (b2.getD i [])), iV r, .dat (tI cw), .non, .non, .non, .non, .non] _
  have hrl : (b2.getD i []).length = n2 := by
    rw [getD_at hi]
    exact (hb2.row _ (List.getElem_mem _)).1
  refine s_seq (s_asg (w_lstO ?_))
  repeat' walk_at "e"
  refine ⟨sz_ok rfl, fun p => ?_⟩
  refine s_seq (s_asg ?_)
  repeat' walk_at "e"
  refine s_seq (s_forET ?_)
  repeat' walk_at "e"
  have hab2 := hb2.am
  have ln : ∀ i2 j2, i2 ≤ 100 → (cor b2 i2 j2).length ≤ 10000 := fun i2 j2 h => Nat.le_trans (Nat.le_trans (corL' hab2 i2 j2) h) (by decide)
  refine ⟨fun j O2 ds2 => ∃ x7 x8 x9 : SD, O2 = (p, .lst (((List.range (j + 1)).map fun t => cor b2 (i + 1) t).map fun c => .dat (tI c))) :: O ∧ ds2 = [.ad a, .dat (lS (corRow b2 n2 i)), .dat (tI (b2.getD i [])), iV r, .dat (tI cw), .ad p, iV (cntR b b2 i r cw j : Nat), x7, x8, x9], ⟨_, _, _, ?_, rfl⟩, fun j d O2 ds2 hd hI B hB => ?_, fun O2 ds2 hI => ?_⟩
  · rw [show (List.range (0 + 1)).map (fun t => cor b2 (i + 1) t) = [cor b2 (i + 1) 0] from rfl, cor_s0]
    rfl
  · obtain ⟨x7, x8, x9, rfl, rfl⟩ := hI
    obtain ⟨v, hv, rfl⟩ := map_get hd
    have hj : j < n2 := by
      have := (List.getElem?_eq_some_iff.mp hv).1
      omega
    have ham : am b2 i j = v := by
      unfold am
      rw [List.getD_eq_getElem?_getD, hv]
      rfl
    have hcnt := cntR_s b b2 i r cw j
    have hcl2 := cntR_le b b2 i r cw j
    obtain ⟨c, hc1, hc2⟩ : ∃ c : Nat, cw.getD j 0 = (c : Int) ∧ c ≤ n := by
      have hl : j < cw.length := by omega
      have := hcw _ (List.getElem_mem hl)
      refine ⟨cw[j].toNat, ?_, by omega⟩
      rw [List.getD_eq_getElem?_getD, List.getElem?_eq_getElem hl]
      show cw[j] = _
      omega
    rw [hc1, Int.toNat_natCast] at hcnt
    have hra : (corRow b2 n2 i).length = n2 + 1 := corRow_len b2 n2 i
    have hrp : (((List.range (j + 1)).map fun t => cor b2 (i + 1) t).map fun c => SD.dat (tI c)).length ≤ 1000 := by rw [List.length_map, List.length_map, List.length_range]; omega
    have hrow : ∀ (x : SD), x = SD.dat (tI (cor b2 (i + 1) j)) → (((List.range (j + 1)).map fun t => cor b2 (i + 1) t).map fun c => SD.dat (tI c))[((j : Int)).toNat]? = some x := fun x hx => by
      rw [Int.toNat_natCast, List.getElem?_map, List.getElem?_map, List.getElem?_range (by omega), hx]
      rfl
    refine s_seq (s_asg ?_)
    repeat' walk_at "e"
    refine o_ixO List.mem_cons_self (at_nth (by omega) (hrow _ rfl)) ?_
    repeat' walk_at "e"
    have esq : PyData.tuple [PyData.int v, tI ((corRow b2 n2 i).getD ((j : Int)).toNat []), tI ((corRow b2 n2 i).getD ((j : Int) + 1).toNat []), tI (cor b2 (i + 1) j)] = sqN b2 i j := by
      rw [corRow_get, corRow_get, if_pos (by omega), if_pos (by omega), Int.toNat_natCast, show ((j : Int) + 1).toNat = j + 1 by omega, ← ham]
    rw [esq]
    have hm2 : (a, insO C_Bench dx nsB vs [.dat (tS b), .dat (lLc (corAll b n b.length)), g, pd, pu]) ∈ (p, OD.lst (((List.range (j + 1)).map fun t => cor b2 (i + 1) t).map fun c => .dat (tI c))) :: O := List.mem_cons_of_mem _ hm
    refine s_if ?_
    repeat' walk_at "e"
    refine w_meth ?_
    repeat' walk_at "e"
    refine ⟨a, dx, _, _, _, rfl, hm2, by decide, ?_⟩
    repeat' walk_at "e"
    have hcj : cw.getD ((j : Int)).toNat 0 = (c : Int) := by rw [Int.toNat_natCast]; exact hc1
    rw [hcj]
    refine ⟨a, dx, _, _, _, _, n, b, r, c, rfl, hm2, hb, hn, hbl, hr, hc2, ?_⟩
    have hrs : (List.range (j + 2)).map (fun t => cor b2 (i + 1) t) = (List.range (j + 1)).map (fun t => cor b2 (i + 1) t) ++ [cor b2 (i + 1) (j + 1)] := range_map_succ _ _
    refine o_eqP (by walk_at "pl") (by unfold sqD; split <;> walk_at "pl") fun bb hbb => ?_
    refine ⟨_, rfl, fun hd => ?_, fun hd => ?_⟩
    · have hsame := hbb.mp hd
      rw [if_pos hsame] at hcnt
      have hcc := sq_same hsame
      have hrb : (corRow b n ((r : Int)).toNat).length = n + 1 := corRow_len b n _
      refine s_drop (w_bm ?_)
      repeat' walk_at "e"
      refine o_ixL (at_nth (by omega) (corAll_get b n b.length _ (by omega))) ?_
      repeat' walk_at "e"
      rw [hcj, corRow_get, Int.toNat_natCast, Int.toNat_natCast, if_pos (by omega), ← hcc]
      repeat' walk_at "e"
      exact hB.nx _ _ ⟨_, _, _, by rw [hrs, List.map_append]; rfl, by rw [hcnt]; rfl⟩
    · have hne : ¬ sqN b2 i j = sqD b r c := fun z => by
        rw [hbb.mpr z] at hd
        cases hd
      rw [if_neg hne] at hcnt
      have l0 : ((corRow b2 n2 i).getD ((j : Int)).toNat []).length ≤ 10000 := by
        rw [corRow_get, if_pos (by omega)]
        exact ln _ _ (by omega)
      have l1 : ((corRow b2 n2 i).getD ((j : Int) + 1).toNat []).length ≤ 10000 := by
        rw [corRow_get, if_pos (by omega)]
        exact ln _ _ (by omega)
      have l2 : (cor b2 (i + 1) j).length ≤ 10000 := ln _ _ (by omega)
      have eg : grow ((corRow b2 n2 i).getD ((j : Int)).toNat []) ((corRow b2 n2 i).getD ((j : Int) + 1).toNat []) (cor b2 (i + 1) j) v = cor b2 (i + 1) (j + 1) := by
        rw [corRow_get, corRow_get, if_pos (by omega), if_pos (by omega), Int.toNat_natCast, show ((j : Int) + 1).toNat = j + 1 by omega, cor_ss, ham]
      refine s_seq (s_drop (w_bm ?_))
      repeat' walk_at "e"
      refine o_ixO List.mem_cons_self (at_nth (by omega) (hrow _ rfl)) ?_
      repeat' walk_at "e"
      rw [eg]
      refine s_aug ⟨_, rfl, ?_⟩
      repeat' walk_at "e"
      exact hB.nx _ _ ⟨_, _, _, by rw [hrs, List.map_append]; rfl, by rw [hcnt]; rfl⟩
  · obtain ⟨x7, x8, x9, rfl, rfl⟩ := hI
    rw [List.length_map, hrl]
    have hrw : (List.range (n2 + 1)).map (fun t => cor b2 (i + 1) t) = corRow b2 n2 (i + 1) := rfl
    rw [hrw]
    refine s_frz (i := 5) rfl (.refl _) (mS_dats _) ?_
    refine s_ret (w_tup ?_)
    repeat' walk_at "e"
    exact q
def pre_Bench_become (C : Addr) : Pre := fun rs O Q => ∃ (a dx : Addr) (vs : List V) (g : Int) (pd pu : Addr) (n : Nat) (b : List (List Int)) (n2 : Nat) (b2 : List (List Int)) (w : List Int × List Int) (O' : Own), rs = [.ad a, .dat (tS b2), .dat (wayD w)] ∧ O = BnI C a dx vs b n g pd pu :: O' ∧ Brd n b ∧ n ≤ 50 ∧ b.length ≤ 50 ∧ Brd n2 b2 ∧ n2 ≤ 50 ∧ b2.length ≤ 50 ∧ WayOk n b.length n2 b2.length w ∧ ∀ vs2, Q (.dat .none) (BnI C a dx vs2 b2 n2 (cntB b b2 n2 w b2.length : Nat) pd pu :: O')
theorem len_Bench_become {C : Addr} (rs : List SD) (O : Own) (Q : SD → Own → Prop) (h : pre_Bench_become C rs O Q) : rs.length = 3 := by
  obtain ⟨a, dx, vs, g, pd, pu, n, b, n2, b2, w, O', rfl, _⟩ := h
  rfl
abbrev s_Bench_become : Stmt := inClass (topS 21) 16
theorem sc_Bench_become : FnScope ["self", "board", "way", "rows", "columns", "corners", "grown", "i", "amounts", "row", "more"] ["self", "board", "way"] (defScope s_Bench_become) := ⟨rfl, rfl, rfl, by decide +kernel, rfl, by decide +kernel, by decide +kernel⟩
set_option maxHeartbeats 4000000 in
theorem ok_Bench_become  {C_Bench : Addr} (D : DefM K C_Bench "_become" "Bench._become" s_Bench_become) (C_Bench_row_below : CalleeM P w K mg base C_Bench "_row_below" ["self", "above", "amounts", "old_row", "old_columns"] 5 (pre_Bench_row_below C_Bench)) (m_enumerate : mg "enumerate" = none) (m_len : mg "len" = none) (B_Bench : Cls K C_Bench) (na_Bench_board : NoAttr K C_Bench "_board") (na_Bench_corners : NoAttr K C_Bench "_corners") (na_Bench_grown : NoAttr K C_Bench "_grown") : CalleeM P w K mg base C_Bench "_become" ["self", "board", "way"] 6 (pre_Bench_become C_Bench) := by
  obtain ⟨f, fd, F, hmg⟩ := D
  obtain ⟨f_Bench_row_below, fd_Bench_row_below, G_Bench_row_below, m_Bench_row_below, b_Bench_row_below⟩ := C_Bench_row_below
  refine ⟨f, fd, fn_ok F sc_Bench_become len_Bench_become fun cdv A outer s H E hr => ⟨_, (pss_cons (ps_asg (pv 2) (pgTup K rfl (pgs_cons (pg_name (i := 3) sc_Bench_become.nd rfl (.inl rfl)) (pgs_cons (pg_name (i := 4) sc_Bench_become.nd rfl (.inl rfl)) pgs_nil))))
      (pss_cons (ps_set (i := 5) sc_Bench_become.nd rfl (.inl rfl) (pe_lst (pa_cons (pe_op op_rep (pe_lst (pa_cons (pe_tup pa_nil) pa_nil)) (pe_op op_add (pe_callB (kLen K) (by rfl) m_len PySem.boot_len (pa_cons (pv 4) pa_nil)) pe_int)) pa_nil)))
      (pss_cons (ps_set (i := 6) sc_Bench_become.nd rfl (.inl rfl) pe_int)
      (pss_cons (ps_for PassesOwn.never rfl (pi_enumT K (by rfl) m_enumerate (pa_cons (pv 1) pa_nil)) (pgTup K rfl (pgs_cons (pg_name (i := 7) sc_Bench_become.nd rfl (.inl rfl)) (pgs_cons (pg_name (i := 8) sc_Bench_become.nd rfl (.inl rfl)) pgs_nil))) (pss_cons (ps_asg (peMeth (K := K) B_Bench m_Bench_row_below G_Bench_row_below (hr.mono (by decide)) b_Bench_row_below (pv 0) (pa_cons (pe_ix (ixL K) (pv 5) (pv 7) (fun _ _ => rfl)) (pa_cons (pv 8) (pa_cons (pe_ix (ixT K) (pv 3) (pv 7) (fun _ _ => rfl)) (pa_cons (pv 4) pa_nil))))) (pgTup K rfl (pgs_cons (pg_name (i := 9) sc_Bench_become.nd rfl (.inl rfl)) (pgs_cons (pg_name (i := 10) sc_Bench_become.nd rfl (.inl rfl)) pgs_nil))))
      (pss_cons (psApp K (ps_expr (pe_bm PySem.F.plainAttrs_list PySem.F.slot_list_append PySem.F.type_list_append mt_append (pv 5) (pa_cons (pv 9) pa_nil))))
      (pss_one (ps_aug (i := 6) sc_Bench_become.nd rfl (.inl rfl) (pv 10) ip_add)))))
      (pss_cons (psFld (K := K) (pv 0) (pv 1))
      (pss_cons (psFld (K := K) (pv 0) (pv 5))
      (pss_one (psFld (K := K) (pv 0) (pv 6))))))))), ?_⟩, hmg, F.binds fun _ _ _ _ _ _ us hl => match us, hl with | [_, _, _], _ => rfl⟩
  intro rs O Q h
  obtain ⟨a, dx, vs, g, pd, pu, n, b, n2, b2, w, O', rfl, rfl, hb, hn, hbl, hb2, hn2, hbl2, hw, q⟩ := h
  show StW K _ _ [.ad a, .dat (tS b2), .dat (wayD w), .non, .non, .non, .non, .non, .non, .non, .non] _
  have hw2 := hw.l2
  refine s_seq (s_unp2 (w_vD rfl ⟨_, _, rfl, ?_⟩))
  refine s_seq (s_asg (w_lstO (w_cons ?_)))
  repeat' walk_at "e"
  rw [List.length_map, hw2]
  refine g_rep .d (by omega) (by omega) (by decide) ?_
  rw [show ((n2 : Int) + 1).toNat = n2 + 1 by omega, rep_flat]
  repeat' walk_at "e"
  refine ⟨sz_ok rfl, fun pc => ?_⟩
  refine s_seq (s_asg ?_)
  repeat' walk_at "e"
  refine s_seq (s_forET ?_)
  repeat' walk_at "e"
  refine ⟨fun i O2 ds2 => ∃ x7 x8 x9 x10 : SD, O2 = (pc, .lst ((corAll b2 n2 i).map fun r => .dat (lS r))) :: BnI C_Bench a dx vs b n g pd pu :: O' ∧ ds2 = [.ad a, .dat (tS b2), .dat (wayD w), .dat (tI w.1), .dat (tI w.2), .ad pc, iV (cntB b b2 n2 w i : Nat), x7, x8, x9, x10], ⟨_, _, _, _, ?_, rfl⟩, fun i d O2 ds2 hd hI B hB => ?_, fun O2 ds2 hI => ?_⟩
  · have e : (corAll b2 n2 0).map (fun r => SD.dat (lS r)) = [SD.dat (lS (corRow b2 n2 0))] := rfl
    rw [e, corRow_0]
  · obtain ⟨x7, x8, x9, x10, rfl, rfl⟩ := hI
    obtain ⟨v, hv, rfl⟩ := map_get hd
    have hi : i < b2.length := (List.getElem?_eq_some_iff.mp hv).1
    have ev : v = b2.getD i [] := by rw [List.getD_eq_getElem?_getD, hv]; rfl
    subst ev
    obtain ⟨r, hr1, hr2⟩ := hw.r hi
    have hwl := hw.l1
    have hcl := cntB_le b b2 n2 w i
    have hcs := cntB_s b b2 n2 w i
    rw [hr1, Int.toNat_natCast] at hcs
    have hcr := cntR_le b b2 i r w.2 n2
    have hci : i * n2 ≤ 2500 := Nat.mul_le_mul (show i ≤ 50 by omega) hn2
    have hal : ((corAll b2 n2 i).map fun r => SD.dat (lS r)).length ≤ 1000 := by rw [List.length_map, corAll_len]; omega
    refine s_seq (s_unp2 (w_meth ?_))
    repeat' walk_at "e"
    refine ⟨a, dx, _, _, _, rfl, List.mem_cons_of_mem _ List.mem_cons_self, by decide, ?_⟩
    repeat' walk_at "e"
    refine o_ixO List.mem_cons_self (at_nth (x := SD.dat (lS (corRow b2 n2 i))) (by omega) (by rw [Int.toNat_natCast, List.getElem?_map, corAll, List.getElem?_map, List.getElem?_range (by omega)]; rfl)) ?_
    repeat' walk_at "e"
    rw [Int.toNat_natCast, hr1]
    refine ⟨a, dx, vs, _, _, _, n, b, n2, i, b2, r, w.2, rfl, List.mem_cons_of_mem _ List.mem_cons_self, hb, hn, hbl, hb2, hn2, hbl2, hi, hr2, hw2, hw.a2, ?_⟩
    refine ⟨_, _, rfl, ?_⟩
    refine s_seq (s_drop (w_bm ?_))
    repeat' walk_at "e"
    refine s_aug ⟨_, rfl, ?_⟩
    repeat' walk_at "e"
    refine hB.nx _ _ ⟨_, _, _, _, ?_, by rw [hcs]; rfl⟩
    rw [corAll, corAll, range_map_succ _ (i + 1), List.map_append]
    rfl
  · obtain ⟨x7, x8, x9, x10, rfl, rfl⟩ := hI
    rw [List.length_map]
    refine s_frz (i := 5) rfl (.refl _) (lL_dats _) ?_
    refine s_seq (s_fldS (by assumption) (by assumption) ?_)
    repeat' walk_at "e"
    refine ⟨a, dx, nsB, _, _, 0, O', rfl, .refl _, by decide, by decide, rfl, rfl, fun vs2 => ?_⟩
    refine s_seq (s_fldS (by assumption) (by assumption) ?_)
    repeat' walk_at "e"
    refine ⟨a, dx, nsB, _, _, 1, O', rfl, .refl _, by decide, by decide, rfl, rfl, fun vs3 => ?_⟩
    refine s_fldS (by assumption) (by assumption) ?_
    repeat' walk_at "e"
    refine ⟨a, dx, nsB, _, _, 2, O', rfl, .refl _, by decide, by decide, rfl, rfl, fun vs4 => ?_⟩
    exact q vs4
def pre_Bench_undo (C : Addr) : Pre := fun rs O Q => ∃ (a dx : Addr) (vs : List V) (g : Int) (pd pu : Addr) (n : Nat) (b : List (List Int)) (dn un : List Stp) (O' : Own), rs = [.ad a] ∧ O = BnI C a dx vs b n g pd pu :: StL pd dn :: StL pu un :: O' ∧ Brd n b ∧ n ≤ 50 ∧ b.length ≤ 50 ∧ dn.length ≤ 1000 ∧ un.length ≤ 1000 ∧ (dn = [] → Q (bV false) O) ∧
  (∀ (l : List Stp) (s : Stp), dn = l ++ [s] → ∃ n0 : Nat, Brd n0 s.b0 ∧ n0 ≤ 50 ∧ s.b0.length ≤ 50 ∧ WayOk n b.length n0 s.b0.length s.back ∧ ∀ vs2, Q (bV true) (BnI C a dx vs2 s.b0 n0 (cntB b s.b0 n0 s.back s.b0.length : Nat) pd pu :: StL pd (l) :: StL pu (un ++ [s]) :: O'))
theorem len_Bench_undo {C : Addr} (rs : List SD) (O : Own) (Q : SD → Own → Prop) (h : pre_Bench_undo C rs O Q) : rs.length = 1 := by
  obtain ⟨a, dx, vs, g, pd, pu, n, b, dn, un, O', rfl, _⟩ := h
  rfl
abbrev s_Bench_undo : Stmt := inClass (topS 21) 6
theorem sc_Bench_undo : FnScope ["self", "step"] ["self"] (defScope s_Bench_undo) := ⟨rfl, rfl, rfl, by decide +kernel, rfl, by decide +kernel, by decide +kernel⟩
set_option maxHeartbeats 4000000 in
theorem ok_Bench_undo  {C_Bench : Addr} (D : DefM K C_Bench "undo" "Bench.undo" s_Bench_undo) (C_Bench_become : CalleeM P w K mg base C_Bench "_become" ["self", "board", "way"] 6 (pre_Bench_become C_Bench)) (m_len : mg "len" = none) (B_Bench : Cls K C_Bench) (na_Bench_done : NoAttr K C_Bench "_done") (na_Bench_undone : NoAttr K C_Bench "_undone") : CalleeM P w K mg base C_Bench "undo" ["self"] 7 (pre_Bench_undo C_Bench) := by
  obtain ⟨f, fd, F, hmg⟩ := D
  obtain ⟨f_Bench_become, fd_Bench_become, G_Bench_become, m_Bench_become, b_Bench_become⟩ := C_Bench_become
  refine ⟨f, fd, fn_ok F sc_Bench_undo len_Bench_undo fun cdv A outer s H E hr => ⟨_, (pss_cons (ps_if (pt_cmpR op_eq (pe_callB (kLen K) (by rfl) m_len PySem.boot_len (pa_cons (peFld (K := K) (pv 0)) pa_nil)) pe_int (nomark _)) (pss_one (ps_ret pe_bl)) pss_nil)
      (pss_cons (ps_set (i := 1) sc_Bench_undo.nd rfl (.inl rfl) (peBm0 K PySem.F.plainAttrs_list PySem.F.slot_list_pop PySem.F.type_list_pop mt_pop (peFld (K := K) (pv 0))))
      (pss_cons (psApp K (ps_expr (pe_bm PySem.F.plainAttrs_list PySem.F.slot_list_append PySem.F.type_list_append mt_append (peFld (K := K) (pv 0)) (pa_cons (pv 1) pa_nil))))
      (pss_cons (ps_expr (peMeth (K := K) B_Bench m_Bench_become G_Bench_become (hr.mono (by decide)) b_Bench_become (pv 0) (pa_cons (pe_ix (ixT K) (pv 1) pe_int (fun _ _ => rfl)) (pa_cons (pe_ix (ixT K) (pv 1) pe_int (fun _ _ => rfl)) pa_nil))))
      (pss_one (ps_ret pe_bl)))))), ?_⟩, hmg, F.binds fun _ _ _ _ _ _ us hl => match us, hl with | [_], _ => rfl⟩
  intro rs O Q h
  obtain ⟨a, dx, vs, g, pd, pu, n, b, dn, un, O', rfl, rfl, hb, hn, hbl, hdn, hun, q0, q⟩ := h
  show StW K _ _ [.ad a, .non] _
  have hdl : (dn.map fun s => SD.dat (stepD s)).length = dn.length := List.length_map _
  have hul : (un.map fun s => SD.dat (stepD s)).length = un.length := List.length_map _
  refine s_seq (s_if ?_)
  repeat' walk_at "e"
  · rename_i hd
    rw [hdl] at hd
    refine s_ret ?_
    repeat' walk_at "e"
    exact q0 (List.length_eq_zero_iff.mp (by omega))
  rename_i hd
  rw [hdl] at hd
  clear q0
  obtain ⟨l, s, rfl⟩ : ∃ l s, dn = l ++ [s] := by
    rcases List.eq_nil_or_concat dn with e | ⟨l, s, e⟩
    · rw [e] at hd
      exact absurd rfl hd
    · exact ⟨l, s, by rw [e, List.concat_eq_append]⟩
  obtain ⟨n0, h1, h2, h3, h4, q⟩ := q l s rfl
  refine s_next ?_
  have eS : ∀ p : Addr, StL p (l ++ [s]) = (p, .lst ((l.map fun s => SD.dat (stepD s)) ++ [SD.dat (stepD s)])) := fun p => by
    unfold StL
    rw [List.map_append]
    rfl
  have eA : (un.map fun s => SD.dat (stepD s)) ++ [SD.dat (stepD s)] = (un ++ [s]).map fun s => SD.dat (stepD s) := by
    rw [List.map_append]
    rfl
  rw [eS]
  refine s_seq (s_asg (w_pop ?_))
  repeat' walk_at "e"
  refine ⟨pd, _, _, _, rfl, .swap .., ?_⟩
  refine s_cv (Cv.perm (.swap ..)) ?_
  refine s_seq (s_drop (w_bm ?_))
  repeat' walk_at "e"
  rw [eA]
  refine s_seq (s_drop (w_meth ?_))
  repeat' walk_at "e"
  refine ⟨a, dx, _, _, _, rfl, List.mem_cons_self, by decide, ?_⟩
  repeat' walk_at "e"
  refine ⟨a, dx, _, g, pd, pu, n, b, n0, s.b0, s.back, _, rfl, rfl, hb, hn, hbl, h1, h2, h3, h4, fun vs2 => ?_⟩
  refine s_ret ?_
  repeat' walk_at "e"
  exact q vs2
def pre_law_square : Pre := fun rs O Q => ∃ (n : Nat) (b : List (List Int)) (ris cis : List Int) (r c : Nat), rs = [.dat (stD b n ris cis), iV r, iV c] ∧ Brd n b ∧ r < b.length ∧ c < n ∧ Q (.dat (sqN b r c)) O
theorem len_law_square (rs : List SD) (O : Own) (Q : SD → Own → Prop) (h : pre_law_square rs O Q) : rs.length = 3 := by
  obtain ⟨n, b, ris, cis, r, c, rfl, _⟩ := h
  rfl
abbrev s_law_square : Stmt := topS 41
theorem sc_law_square : FnScope ["state", "row", "column", "shapes"] ["state", "row", "column"] (defScope s_law_square) := ⟨rfl, rfl, rfl, by decide +kernel, rfl, by decide +kernel, by decide +kernel⟩
set_option maxHeartbeats 4000000 in
theorem ok_law_square  (D : Def K mg "_law_square" s_law_square) : Callee P w K mg base "_law_square" ["state", "row", "column"] 1 pre_law_square := by
  obtain ⟨f, fd, F, hmg⟩ := D
  refine ⟨f, fd, fn_ok F sc_law_square len_law_square fun cdv A outer s H E hr => ⟨_, (pss_cons (ps_set (i := 3) sc_law_square.nd rfl (.inl rfl) (pe_ix (ixT K) (pv 0) pe_int (fun _ _ => rfl)))
      (pss_one (ps_ret (pe_tup (pa_cons (pe_ix (ixT K) (pe_ix (ixT K) (pe_ix (ixT K) (pv 0) pe_int (fun _ _ => rfl)) (pv 1) (fun _ _ => rfl)) (pv 2) (fun _ _ => rfl)) (pa_cons (pe_ix (ixL K) (pe_ix (ixL K) (pv 3) (pv 1) (fun _ _ => rfl)) (pv 2) (fun _ _ => rfl)) (pa_cons (pe_ix (ixL K) (pe_ix (ixL K) (pv 3) (pv 1) (fun _ _ => rfl)) (pe_op op_add (pv 2) pe_int) (fun _ _ => rfl)) (pa_cons (pe_ix (ixL K) (pe_ix (ixL K) (pv 3) (pe_op op_add (pv 1) pe_int) (fun _ _ => rfl)) (pv 2) (fun _ _ => rfl)) pa_nil)))))))), ?_⟩, hmg, F.kp, F.binds fun _ _ _ _ _ _ us hl => match us, hl with | [_, _, _], _ => rfl, Wk.Fun.lk F⟩
  intro rs O Q h
  obtain ⟨n, b, ris, cis, r, c, rfl, hb, hr, hc, q⟩ := h
  show StW K _ O [.dat (stD b n ris cis), iV r, iV c, .non] _
  refine s_seq (s_asg ?_)
  repeat' walk_at "e"
  have hbr : (b.getD ((r : Int)).toNat []).length = n := by rw [Int.toNat_natCast]; exact (brd_row hb hr).1
  have hca : (corRow b n ((r : Int)).toNat).length = n + 1 := corRow_len b n _
  have hcb : (corRow b n ((r : Int) + 1).toNat).length = n + 1 := corRow_len b n _
  refine s_ret (w_tup ?_)
  repeat' walk_at "e"
  refine o_ixL (at_nth (by omega) (corAll_get b n b.length _ (by omega))) ?_
  repeat' walk_at "e"
  refine o_ixL (at_nth (by omega) (corAll_get b n b.length _ (by omega))) ?_
  repeat' walk_at "e"
  refine o_ixL (at_nth (by omega) (corAll_get b n b.length _ (by omega))) ?_
  repeat' walk_at "e"
  rw [corRow_get, corRow_get, corRow_get, if_pos (by omega), if_pos (by omega), if_pos (by omega), show ((r : Int) + 1).toNat = r + 1 by omega, show ((c : Int) + 1).toNat = c + 1 by omega, Int.toNat_natCast, Int.toNat_natCast]
  exact q
def pre_law_grown : Pre := fun rs O Q => ∃ (s t : Ste) (f g : Int), rs = [.dat (steD s), .dat (steD t)] ∧ IdOk f s ∧ IdOk g t ∧ Q (iV (cntB s.b t.b t.n (wy s t) t.b.length : Nat)) O
theorem len_law_grown (rs : List SD) (O : Own) (Q : SD → Own → Prop) (h : pre_law_grown rs O Q) : rs.length = 2 := by
  obtain ⟨s, t, f, g, rfl, _⟩ := h
  rfl
abbrev s_law_grown : Stmt := topS 42
theorem sc_law_grown : FnScope ["before", "after", "count", "i", "j", "kept", "old"] ["before", "after"] (defScope s_law_grown) := ⟨rfl, rfl, rfl, by decide +kernel, rfl, by decide +kernel, by decide +kernel⟩
set_option maxHeartbeats 4000000 in
theorem ok_law_grown  (D : Def K mg "_law_grown" s_law_grown) (C_law_square : Callee P w K mg base "_law_square" ["state", "row", "column"] 1 pre_law_square) (m_int : mg "int" = none) (m_len : mg "len" = none) (m_range : mg "range" = none) : Callee P w K mg base "_law_grown" ["before", "after"] 2 pre_law_grown := by
  obtain ⟨f, fd, F, hmg⟩ := D
  obtain ⟨f_law_square, fd_law_square, G_law_square, g_law_square, kp_law_square, b_law_square, _⟩ := C_law_square
  refine ⟨f, fd, fn_ok F sc_law_grown len_law_grown fun cdv A outer s H E hr => ⟨_, (pss_cons (ps_set (i := 2) sc_law_grown.nd rfl (.inl rfl) pe_int)
      (pss_cons (ps_for PassesOwn.never rfl (pi_range1 (by rfl) m_range (pa_cons (pe_callB (kLen K) (by rfl) m_len PySem.boot_len (pa_cons (pe_ix (ixT K) (pv 1) pe_int (fun _ _ => rfl)) pa_nil)) pa_nil)) (pg_name (i := 3) sc_law_grown.nd rfl (.inl rfl)) (pss_one (ps_for PassesOwn.never rfl (pi_range1 (by rfl) m_range (pa_cons (pe_callB (kLen K) (by rfl) m_len PySem.boot_len (pa_cons (pe_ix (ixT K) (pv 1) pe_int (fun _ _ => rfl)) pa_nil)) pa_nil)) (pg_name (i := 4) sc_law_grown.nd rfl (.inl rfl)) (pss_cons (ps_set (i := 5) sc_law_grown.nd rfl (.inl rfl) (pe_and (pe_cmpR (kIn K) (pe_ix (ixL K) (pe_ix (ixT K) (pv 1) pe_int (fun _ _ => rfl)) (pv 3) (fun _ _ => rfl)) (pe_ix (ixT K) (pv 0) pe_int (fun _ _ => rfl)) (by with_unfolding_all rfl)) (pe_one (pe_cmpR (kIn K) (pe_ix (ixL K) (pe_ix (ixT K) (pv 1) pe_int (fun _ _ => rfl)) (pv 4) (fun _ _ => rfl)) (pe_ix (ixT K) (pv 0) pe_int (fun _ _ => rfl)) (by with_unfolding_all rfl)))))
      (pss_cons (ps_if (pt_val (pv 5)) (pss_cons (ps_set (i := 6) sc_law_grown.nd rfl (.inl rfl) (pe_call G_law_square (hr.mono (by decide)) (by rfl) g_law_square kp_law_square b_law_square .nil pass0 (pa_cons (pv 0) (pa_cons (peIdx K (pe_bm PySem.F.plainAttrs_list PySem.F.slot_list_index PySem.F.type_list_index mt_index (pe_ix (ixT K) (pv 0) pe_int (fun _ _ => rfl)) (pa_cons (pe_ix (ixL K) (pe_ix (ixT K) (pv 1) pe_int (fun _ _ => rfl)) (pv 3) (fun _ _ => rfl)) pa_nil))) (pa_cons (peIdx K (pe_bm PySem.F.plainAttrs_list PySem.F.slot_list_index PySem.F.type_list_index mt_index (pe_ix (ixT K) (pv 0) pe_int (fun _ _ => rfl)) (pa_cons (pe_ix (ixL K) (pe_ix (ixT K) (pv 1) pe_int (fun _ _ => rfl)) (pv 4) (fun _ _ => rfl)) pa_nil))) pa_nil)))))
      (pss_one (ps_set (i := 5) sc_law_grown.nd rfl (.inl rfl) (pe_cmpR (kEqD K hr.units) (pv 6) (pe_call G_law_square (hr.mono (by decide)) (by rfl) g_law_square kp_law_square b_law_square .nil pass0 (pa_cons (pv 1) (pa_cons (pv 3) (pa_cons (pv 4) pa_nil)))) (nomark _))))) pss_nil)
      (pss_one (ps_set (i := 2) sc_law_grown.nd rfl (.inl rfl) (pe_op op_add (pv 2) (pe_callTy kInt1 (by rfl) m_int (by decide +kernel) (pa_cons (pe_not (pv 5)) pa_nil))))))))))
      (pss_one (ps_ret (pv 2))))), ?_⟩, hmg, F.kp, F.binds fun _ _ _ _ _ _ us hl => match us, hl with | [_, _], _ => rfl, Wk.Fun.lk F⟩
  intro rs O Q h
  obtain ⟨s, t, f, g, rfl, hs, ht, q⟩ := h
  show StW K _ O [.dat (steD s), .dat (steD t), .non, .non, .non, .non, .non] _
  refine s_seq (s_asg ?_)
  repeat' walk_at "e"
  have htr := ht.rl
  have htc := ht.cl
  have ht8 := ht.n8
  have htm := ht.m8
  refine s_seq (s_for1 ?_)
  repeat' walk_at "e"
  have hlr : (t.rs.map PyData.int).length = t.b.length := by rw [List.length_map, htr]
  have hlc : (t.cs.map PyData.int).length = t.n := by rw [List.length_map, htc]
  rw [hlr]
  refine ⟨by omega, by omega, fun i O2 ds2 => ∃ y4 y5 y6 y7 : SD, O = O2 ∧ ds2 = [.dat (steD s), .dat (steD t), iV (cntB s.b t.b t.n (wy s t) i : Nat), y4, y5, y6, y7], ⟨_, _, _, _, rfl, rfl⟩, fun i O2 ds2 hi hI B hB => ?_, fun O2 ds2 hI => ?_⟩
  · obtain ⟨y4, y5, y6, y7, rfl, rfl⟩ := hI
    refine s_for1 ?_
    repeat' walk_at "e"
    rw [hlc]
    have hi : i < t.b.length := by omega
    have hx : i < t.rs.length := by omega
    have hwr : (wayOf s.rs t.rs).getD i 0 = if t.rs[i] ∈ s.rs then ((s.rs.idxOf t.rs[i] : Nat) : Int) + 1 else 0 := by
      unfold wayOf
      rw [List.getD_eq_getElem?_getD, List.getElem?_map, List.getElem?_eq_getElem hx]
      rfl
    refine ⟨by omega, by omega, fun j O2 ds2 => ∃ y5 y6 y7 : SD, O = O2 ∧ ds2 = [.dat (steD s), .dat (steD t), iV ((cntB s.b t.b t.n (wy s t) i + cntR s.b t.b i ((wy s t).1.getD i 0).toNat (wy s t).2 j : Nat) : Int), iV i, y5, y6, y7], ⟨_, _, _, rfl, rfl⟩, fun j O2 ds2 hj hI B2 hB2 => ?_, fun O2 ds2 hI => ?_⟩
    · obtain ⟨y5, y6, y7, rfl, rfl⟩ := hI
      have hj : j < t.n := by omega
      have hy : j < t.cs.length := by omega
      have hwc : (wayOf s.cs t.cs).getD j 0 = if t.cs[j] ∈ s.cs then ((s.cs.idxOf t.cs[j] : Nat) : Int) + 1 else 0 := by
        unfold wayOf
        rw [List.getD_eq_getElem?_getD, List.getElem?_map, List.getElem?_eq_getElem hy]
        rfl
      have hcnt := cntR_s s.b t.b i ((wy s t).1.getD i 0).toNat (wy s t).2 j
      have er : t.rs.getD ((i : Int)).toNat 0 = t.rs[i] := by rw [Int.toNat_natCast, List.getD_eq_getElem?_getD, List.getElem?_eq_getElem hx]; rfl
      have ec : t.cs.getD ((j : Int)).toNat 0 = t.cs[j] := by rw [Int.toNat_natCast, List.getD_eq_getElem?_getD, List.getElem?_eq_getElem hy]; rfl
      refine s_cut (fun O1 ds1 => ∃ bb : Bool, (bb = true ↔ t.rs[i] ∈ s.rs ∧ t.cs[j] ∈ s.cs) ∧ O = O1 ∧ ds1 = [.dat (steD s), .dat (steD t), iV ((cntB s.b t.b t.n (wy s t) i + cntR s.b t.b i ((wy s t).1.getD i 0).toNat (wy s t).2 j : Nat) : Int), iV i, iV j, bV bb, y7]) ?_ ?_
      · refine s_asg ?_
        repeat' walk_at "e"
        rw [er]
        refine o_inI fun b1 hb1 => ?_
        repeat' walk_at "e"
        · rename_i h1
          rw [ec]
          refine o_inI fun b2 hb2 => ?_
          exact ⟨b2, by rw [hb2]; exact ⟨fun z => ⟨hb1.mp h1, z⟩, fun z => z.2⟩, rfl, rfl⟩
        · rename_i h1
          refine ⟨false, ⟨fun z => (nomatch z), fun z => ?_⟩, rfl, rfl⟩
          rw [hb1.mpr z.1] at h1
          cases h1
      rintro O1 ds1 ⟨bb, hbb, rfl, rfl⟩
      refine s_cut (fun O1 ds1 => ∃ (kk : Bool) (y7 : SD), (kk = true ↔ sqN t.b i j = sqD s.b ((wy s t).1.getD i 0).toNat ((wy s t).2.getD j 0).toNat) ∧ O = O1 ∧ ds1 = [.dat (steD s), .dat (steD t), iV ((cntB s.b t.b t.n (wy s t) i + cntR s.b t.b i ((wy s t).1.getD i 0).toNat (wy s t).2 j : Nat) : Int), iV i, iV j, bV kk, y7]) ?_ ?_
      · refine s_if ?_
        repeat' walk_at "e"
        · rename_i hk
          obtain ⟨h1, h2⟩ := hbb.mp hk
          have l1 : s.rs.idxOf t.rs[i] < s.rs.length := List.idxOf_lt_length_iff.mpr h1
          have l2 : s.cs.idxOf t.cs[j] < s.cs.length := List.idxOf_lt_length_iff.mpr h2
          rw [hs.rl] at l1
          rw [hs.cl] at l2
          have e1 : ((wy s t).1.getD i 0).toNat = s.rs.idxOf t.rs[i] + 1 := by
            show ((wayOf s.rs t.rs).getD i 0).toNat = _
            rw [hwr, if_pos h1]
            omega
          have e2 : ((wy s t).2.getD j 0).toNat = s.cs.idxOf t.cs[j] + 1 := by
            show ((wayOf s.cs t.cs).getD j 0).toNat = _
            rw [hwc, if_pos h2]
            omega
          have e3 : sqD s.b (s.rs.idxOf t.rs[i] + 1) (s.cs.idxOf t.cs[j] + 1) = sqN s.b (s.rs.idxOf t.rs[i]) (s.cs.idxOf t.cs[j]) := by
            unfold sqD
            rw [if_neg (by omega)]
            simp only [Nat.add_sub_cancel]
          refine s_seq (s_asg ?_)
          repeat' walk_at "e"
          refine ⟨ty_lstD, ?_⟩
          repeat' walk_at "e"
          rw [er]
          refine m_idxI h1 ?_
          repeat' walk_at "e"
          refine ⟨ty_lstD, ?_⟩
          repeat' walk_at "e"
          rw [ec]
          refine m_idxI h2 ?_
          repeat' walk_at "e"
          refine ⟨s.n, s.b, s.rs, s.cs, _, _, rfl, hs.brd, l1, l2, ?_⟩
          refine s_asg ?_
          repeat' walk_at "e"
          refine ⟨t.n, t.b, t.rs, t.cs, i, j, rfl, ht.brd, hi, hj, ?_⟩
          refine o_eqP (by walk_at "pl") (by walk_at "pl") fun kk hkk => ?_
          exact ⟨kk, _, by rw [hkk, e1, e2, e3]; exact eq_comm, rfl, rfl⟩
        · rename_i hk
          refine s_next ?_
          refine ⟨false, _, ⟨fun z => (nomatch z), fun z => ?_⟩, rfl, by rw [hk]⟩
          have e3 : sqD s.b ((wy s t).1.getD i 0).toNat ((wy s t).2.getD j 0).toNat = .none := by
            unfold sqD
            rw [if_pos]
            by_cases h1 : t.rs[i] ∈ s.rs
            · have h2 : ¬ t.cs[j] ∈ s.cs := fun z => by rw [hbb.mpr ⟨h1, z⟩] at hk; cases hk
              right
              show ((wayOf s.cs t.cs).getD j 0).toNat = 0
              rw [hwc, if_neg h2]
              rfl
            · left
              show ((wayOf s.rs t.rs).getD i 0).toNat = 0
              rw [hwr, if_neg h1]
              rfl
          rw [e3] at z
          cases z
      rintro O1 ds1 ⟨kk, y8, hkk, rfl, rfl⟩
      refine s_asg ?_
      repeat' walk_at "e"
      have e5 : (((cntB s.b t.b t.n (wy s t) i + cntR s.b t.b i ((wy s t).1.getD i 0).toNat (wy s t).2 j : Nat) : Int) + (if (!kk) = true then 1 else 0)) = ((cntB s.b t.b t.n (wy s t) i + cntR s.b t.b i ((wy s t).1.getD i 0).toNat (wy s t).2 (j + 1) : Nat) : Int) := by
        rw [hcnt]
        cases kk with
        | true =>
          rw [if_pos (hkk.mp rfl)]
          rfl
        | false =>
          rw [if_neg fun z => nomatch hkk.mpr z]
          show _ + (1 : Int) = _
          omega
      rw [e5]
      exact hB2.nx _ _ ⟨_, _, _, rfl, rfl⟩
    · obtain ⟨y5, y6, y7, rfl, rfl⟩ := hI
      rw [Int.toNat_natCast, ← cntB_s]
      exact hB.nx _ _ ⟨_, _, _, _, rfl, rfl⟩
  obtain ⟨y4, y5, y6, y7, rfl, rfl⟩ := hI
  refine s_ret ?_
  repeat' walk_at "e"
  rw [Int.toNat_natCast]
  exact q
def pre_Bench_redo (C : Addr) : Pre := fun rs O Q => ∃ (a dx : Addr) (vs : List V) (g : Int) (pd pu : Addr) (n : Nat) (b : List (List Int)) (dn un : List Stp) (O' : Own), rs = [.ad a] ∧ O = BnI C a dx vs b n g pd pu :: StL pd dn :: StL pu un :: O' ∧ Brd n b ∧ n ≤ 50 ∧ b.length ≤ 50 ∧ dn.length ≤ 1000 ∧ un.length ≤ 1000 ∧ (un = [] → Q (bV false) O) ∧
  (∀ (l : List Stp) (s : Stp), un = l ++ [s] → ∃ n0 : Nat, Brd n0 s.b1 ∧ n0 ≤ 50 ∧ s.b1.length ≤ 50 ∧ WayOk n b.length n0 s.b1.length s.forth ∧ ∀ vs2, Q (bV true) (BnI C a dx vs2 s.b1 n0 (cntB b s.b1 n0 s.forth s.b1.length : Nat) pd pu :: StL pd (dn ++ [s]) :: StL pu (l) :: O'))
theorem len_Bench_redo {C : Addr} (rs : List SD) (O : Own) (Q : SD → Own → Prop) (h : pre_Bench_redo C rs O Q) : rs.length = 1 := by
  obtain ⟨a, dx, vs, g, pd, pu, n, b, dn, un, O', rfl, _⟩ := h
  rfl
abbrev s_Bench_redo : Stmt := inClass (topS 21) 7
theorem sc_Bench_redo : FnScope ["self", "step"] ["self"] (defScope s_Bench_redo) := ⟨rfl, rfl, rfl, by decide +kernel, rfl, by decide +kernel, by decide +kernel⟩
set_option maxHeartbeats 4000000 in
theorem ok_Bench_redo  {C_Bench : Addr} (D : DefM K C_Bench "redo" "Bench.redo" s_Bench_redo) (C_Bench_become : CalleeM P w K mg base C_Bench "_become" ["self", "board", "way"] 6 (pre_Bench_become C_Bench)) (m_len : mg "len" = none) (B_Bench : Cls K C_Bench) (na_Bench_done : NoAttr K C_Bench "_done") (na_Bench_undone : NoAttr K C_Bench "_undone") : CalleeM P w K mg base C_Bench "redo" ["self"] 7 (pre_Bench_redo C_Bench) := by
  obtain ⟨f, fd, F, hmg⟩ := D
  obtain ⟨f_Bench_become, fd_Bench_become, G_Bench_become, m_Bench_become, b_Bench_become⟩ := C_Bench_become
  refine ⟨f, fd, fn_ok F sc_Bench_redo len_Bench_redo fun cdv A outer s H E hr => ⟨_, (pss_cons (ps_if (pt_cmpR op_eq (pe_callB (kLen K) (by rfl) m_len PySem.boot_len (pa_cons (peFld (K := K) (pv 0)) pa_nil)) pe_int (nomark _)) (pss_one (ps_ret pe_bl)) pss_nil)
      (pss_cons (ps_set (i := 1) sc_Bench_redo.nd rfl (.inl rfl) (peBm0 K PySem.F.plainAttrs_list PySem.F.slot_list_pop PySem.F.type_list_pop mt_pop (peFld (K := K) (pv 0))))
      (pss_cons (psApp K (ps_expr (pe_bm PySem.F.plainAttrs_list PySem.F.slot_list_append PySem.F.type_list_append mt_append (peFld (K := K) (pv 0)) (pa_cons (pv 1) pa_nil))))
      (pss_cons (ps_expr (peMeth (K := K) B_Bench m_Bench_become G_Bench_become (hr.mono (by decide)) b_Bench_become (pv 0) (pa_cons (pe_ix (ixT K) (pv 1) pe_int (fun _ _ => rfl)) (pa_cons (pe_ix (ixT K) (pv 1) pe_int (fun _ _ => rfl)) pa_nil))))
      (pss_one (ps_ret pe_bl)))))), ?_⟩, hmg, F.binds fun _ _ _ _ _ _ us hl => match us, hl with | [_], _ => rfl⟩
  intro rs O Q h
  obtain ⟨a, dx, vs, g, pd, pu, n, b, dn, un, O', rfl, rfl, hb, hn, hbl, hdn, hun, q0, q⟩ := h
  show StW K _ _ [.ad a, .non] _
  have hdl : (dn.map fun s => SD.dat (stepD s)).length = dn.length := List.length_map _
  have hul : (un.map fun s => SD.dat (stepD s)).length = un.length := List.length_map _
  refine s_seq (s_if ?_)
  repeat' walk_at "e"
  · rename_i hd
    rw [hul] at hd
    refine s_ret ?_
    repeat' walk_at "e"
    exact q0 (List.length_eq_zero_iff.mp (by omega))
  rename_i hd
  rw [hul] at hd
  clear q0
  obtain ⟨l, s, rfl⟩ : ∃ l s, un = l ++ [s] := by
    rcases List.eq_nil_or_concat un with e | ⟨l, s, e⟩
    · rw [e] at hd
      exact absurd rfl hd
    · exact ⟨l, s, by rw [e, List.concat_eq_append]⟩
  obtain ⟨n0, h1, h2, h3, h4, q⟩ := q l s rfl
  refine s_next ?_
  have eS : ∀ p : Addr, StL p (l ++ [s]) = (p, .lst ((l.map fun s => SD.dat (stepD s)) ++ [SD.dat (stepD s)])) := fun p => by
    unfold StL
    rw [List.map_append]
    rfl
  have eA : (dn.map fun s => SD.dat (stepD s)) ++ [SD.dat (stepD s)] = (dn ++ [s]).map fun s => SD.dat (stepD s) := by
    rw [List.map_append]
    rfl
  rw [eS]
  refine s_seq (s_asg (w_pop ?_))
  repeat' walk_at "e"
  refine ⟨pu, _, _, _, rfl, List.perm_middle (l₁ := [_, _]), ?_⟩
  refine s_cv (Cv.perm ((List.perm_middle (l₁ := [_, _])).symm)) ?_
  show StW K _ (BnI C_Bench a dx vs b n g pd pu :: StL pd dn :: (pu, OD.lst (l.map fun s => SD.dat (stepD s))) :: O') _ _
  refine s_seq (s_drop (w_bm ?_))
  repeat' walk_at "e"
  rw [eA]
  refine s_seq (s_drop (w_meth ?_))
  repeat' walk_at "e"
  refine ⟨a, dx, _, _, _, rfl, List.mem_cons_self, by decide, ?_⟩
  repeat' walk_at "e"
  refine ⟨a, dx, _, g, pd, pu, n, b, n0, s.b1, s.forth, _, rfl, rfl, hb, hn, hbl, h1, h2, h3, h4, fun vs2 => ?_⟩
  refine s_ret ?_
  repeat' walk_at "e"
  exact q vs2
theorem cut_at1 {α : Type} (xs : List α) (q : Nat) : cut xs none (some (1 + (q : Int) - 1)) = xs.take q := by rw [cut_hi _ (by omega), show (1 + (q : Int) - 1).toNat = q by omega]
theorem cut_at2 {α : Type} (xs : List α) (q : Nat) : cut xs (some (1 + (q : Int) - 1)) none = xs.drop q := by rw [cut_lo _ (by omega), show (1 + (q : Int) - 1).toNat = q by omega]
theorem cut_at3 {α : Type} (xs : List α) (q : Nat) : cut xs (some (1 + (q : Int))) none = xs.drop (q + 1) := by rw [cut_lo _ (by omega), show (1 + (q : Int)).toNat = q + 1 by omega]
theorem e_ins (b : List (List Int)) (q : Nat) (us : List Int) : cut (b.map fun c => tI c) none (some (1 + (q : Int) - 1)) ++ [tI us] ++ cut (b.map fun c => tI c) (some (1 + (q : Int) - 1)) none = (insB b q us).map fun c => tI c := by
  rw [cut_at1, cut_at2, insB, List.map_append, List.map_append, List.map_take, List.map_drop]
  rfl
theorem e_insI (A : List Int) (q : Nat) (x : Int) : cut (A.map PyData.int) none (some (1 + (q : Int) - 1)) ++ [PyData.int x] ++ cut (A.map PyData.int) (some (1 + (q : Int) - 1)) none = (insI A q x).map PyData.int := by
  rw [cut_at1, cut_at2, insI, List.map_append, List.map_append, List.map_take, List.map_drop]
  rfl
theorem e_rem (b : List (List Int)) (q : Nat) : cut (b.map fun c => tI c) none (some (1 + (q : Int) - 1)) ++ cut (b.map fun c => tI c) (some (1 + (q : Int))) none = (remB b q).map fun c => tI c := by
  rw [cut_at1, cut_at3, remB, List.map_append, List.map_take, List.map_drop]
theorem e_remI (A : List Int) (q : Nat) : cut (A.map PyData.int) none (some (1 + (q : Int) - 1)) ++ cut (A.map PyData.int) (some (1 + (q : Int))) none = (remI A q).map PyData.int := by
  rw [cut_at1, cut_at3, remI, List.map_append, List.map_take, List.map_drop]
theorem e_put {α : Type} (f : Int → α) (A : List Int) {j : Nat} (hj : j < A.length) (v : Int) : cut (A.map f) none (some (j : Int)) ++ [f v] ++ cut (A.map f) (some ((j : Int) + 1)) none = (A.set j v).map f := by
  rw [cut_hi _ (by omega), cut_lo _ (by omega), Int.toNat_natCast, show ((j : Int) + 1).toNat = j + 1 by omega, set_tkd _ _ _ (by rw [List.length_map]; exact hj), List.map_set]
theorem e_put2 (b : List (List Int)) {i : Nat} (hi : i < b.length) (r : List Int) : cut (b.map fun c => tI c) none (some (i : Int)) ++ [tI r] ++ cut (b.map fun c => tI c) (some ((i : Int) + 1)) none = (b.set i r).map fun c => tI c := by
  rw [cut_hi _ (by omega), cut_lo _ (by omega), Int.toNat_natCast, show ((i : Int) + 1).toNat = i + 1 by omega, set_tkd _ _ _ (by rw [List.length_map]; exact hi), List.map_set]
def pre_law_change : Pre := fun rs O Q => ∃ (bx : Addr) (row : List Int) (k : Int) (s : Ste) (f : Int) (O' : Own), rs = [.ad bx, .dat (steD s), iV f] ∧ O = Box bx row k :: O' ∧ BoxOk row ∧ 0 ≤ k ∧ k < 900000000 ∧ IdOk f s ∧ ∀ (c : Chg) (rs2 cs2 : List Int) (k2 : Int), NxOk f s c rs2 cs2 → k ≤ k2 → k2 ≤ k + 100 → Q (.dat (.tuple [chgD c, .tuple [tS (afB s.b c), lI rs2, lI cs2]])) (Box bx row k2 :: O')
theorem len_law_change (rs : List SD) (O : Own) (Q : SD → Own → Prop) (h : pre_law_change rs O Q) : rs.length = 3 := by
  obtain ⟨bx, row, k, s, f, O', rfl, _⟩ := h
  rfl
abbrev s_law_change : Stmt := topS 43
theorem sc_law_change : FnScope ["box", "state", "fresh", "board", "rows", "columns", "kind", "at", "j", "row", "new", "i", "amount"] ["box", "state", "fresh"] (defScope s_law_change) := ⟨rfl, rfl, rfl, by decide +kernel, rfl, by decide +kernel, by decide +kernel⟩
set_option maxHeartbeats 4000000 in
theorem ok_law_change  (D : Def K mg "_law_change" s_law_change) (C_law_next : Callee P w K mg base "_law_next" ["box", "modulus"] 1 pre_law_next) (m_int : mg "int" = none) (m_len : mg "len" = none) (m_range : mg "range" = none) (m_tuple : mg "tuple" = none) : Callee P w K mg base "_law_change" ["box", "state", "fresh"] 2 pre_law_change := by
  obtain ⟨f, fd, F, hmg⟩ := D
  obtain ⟨f_law_next, fd_law_next, G_law_next, g_law_next, kp_law_next, b_law_next, _⟩ := C_law_next
  refine ⟨f, fd, fn_ok F sc_law_change len_law_change fun cdv A outer s H E hr => ⟨_, (pss_cons (ps_set (i := 3) sc_law_change.nd rfl (.inr rfl) (pe_ix (ixT K) (pv 1) pe_int (fun _ _ => rfl)))
      (pss_cons (ps_set (i := 4) sc_law_change.nd rfl (.inl rfl) (pe_callB (kLen K) (by rfl) m_len PySem.boot_len (pa_cons (pv 3) pa_nil)))
      (pss_cons (ps_set (i := 5) sc_law_change.nd rfl (.inl rfl) (pe_callB (kLen K) (by rfl) m_len PySem.boot_len (pa_cons (pe_ix (ixT K) (pv 3) pe_int (fun _ _ => rfl)) pa_nil)))
      (pss_cons (ps_set (i := 6) sc_law_change.nd rfl (.inl rfl) (pe_call G_law_next (hr.mono (by decide)) (by rfl) g_law_next kp_law_next b_law_next .nil pass0 (pa_cons (pv 0) (pa_cons pe_int pa_nil))))
      (pss_cons (ps_if (PW.pt (pw_and (pt_cmpR op_eq (pv 6) pe_int (nomark _)) (pw_and1 (pt_cmpR op_lt (pv 4) pe_int (nomark _))))) (pss_cons (ps_set (i := 7) sc_law_change.nd rfl (.inr rfl) (pe_op op_add pe_int (pe_call G_law_next (hr.mono (by decide)) (by rfl) g_law_next kp_law_next b_law_next .nil pass0 (pa_cons (pv 0) (pa_cons (pe_op op_add (pv 4) pe_int) pa_nil)))))
      (pss_cons (ps_set (i := 9) sc_law_change.nd rfl (.inr rfl) (pe_callTy (kTupOf K) (by rfl) m_tuple (by decide +kernel) (pa_cons (pe_lc (own := [("j", 8)]) (g := gName 8) rfl sc_law_change.nd (pi_range1 (by rfl) m_range (pa_cons (pv 5) pa_nil)) (blkOk_by (own := [("j", 8)]) (N := ["box", "state", "fresh", "board", "rows", "columns", "kind", "at", "j", "row", "new", "i", "amount"]) (by first | (show blkC _ (defScope s_law_change) _ _ = true; decide +kernel) | kernel_rfl | rfl)) (fun _ _ _ _ _ => pg_name (i := 8) sc_law_change.nd rfl (by first | exact Or.inl rfl | exact Or.inr rfl)) (fun _ _ _ _ _ => pts_nil) (fun _ _ _ _ _ => (pe_call G_law_next (hr.mono (by decide)) (by rfl) g_law_next kp_law_next b_law_next .nil pass0 (pa_cons (pv 0) (pa_cons (pe_ix (ixL K) (pe_lst (pa_cons pe_int (pa_cons pe_int pa_nil))) (pe_callTy kInt1 (by rfl) m_int (by decide +kernel) (pa_cons (pe_cmpR op_eq (pv 8) pe_int (nomark _)) pa_nil)) (fun _ _ => rfl)) pa_nil))))) pa_nil)))
      (pss_cons (ps_set (i := 10) sc_law_change.nd rfl (.inl rfl) (pe_tup (pa_cons (pe_op (kCatT K) (pe_op (kCatT K) (pe_slice (slT K) (pv 3) po_none (po_some (pe_op op_sub (pv 7) pe_int))) (pe_tup (pa_cons (pv 9) pa_nil))) (pe_slice (slT K) (pv 3) (po_some (pe_op op_sub (pv 7) pe_int)) po_none)) (pa_cons (pe_op op_cat (pe_op op_cat (pe_slice (slL K) (pe_ix (ixT K) (pv 1) pe_int (fun _ _ => rfl)) po_none (po_some (pe_op op_sub (pv 7) pe_int))) (pe_lst (pa_cons (pv 2) pa_nil))) (pe_slice (slL K) (pe_ix (ixT K) (pv 1) pe_int (fun _ _ => rfl)) (po_some (pe_op op_sub (pv 7) pe_int)) po_none)) (pa_cons (pe_ix (ixT K) (pv 1) pe_int (fun _ _ => rfl)) pa_nil)))))
      (pss_one (ps_ret (pe_tup (pa_cons (pe_tup (pa_cons pe_str (pa_cons (pv 7) (pa_cons (pv 9) pa_nil)))) (pa_cons (pv 10) pa_nil)))))))) pss_nil)
      (pss_cons (ps_if (PW.pt (pw_and (pt_cmpR op_eq (pv 6) pe_int (nomark _)) (pw_and1 (pt_cmpR op_gt (pv 4) pe_int (nomark _))))) (pss_cons (ps_set (i := 7) sc_law_change.nd rfl (.inr rfl) (pe_op op_add pe_int (pe_call G_law_next (hr.mono (by decide)) (by rfl) g_law_next kp_law_next b_law_next .nil pass0 (pa_cons (pv 0) (pa_cons (pv 4) pa_nil)))))
      (pss_one (ps_ret (pe_tup (pa_cons (pe_tup (pa_cons pe_str (pa_cons (pv 7) pa_nil))) (pa_cons (pe_tup (pa_cons (pe_op (kCatT K) (pe_slice (slT K) (pv 3) po_none (po_some (pe_op op_sub (pv 7) pe_int))) (pe_slice (slT K) (pv 3) (po_some (pv 7)) po_none)) (pa_cons (pe_op op_cat (pe_slice (slL K) (pe_ix (ixT K) (pv 1) pe_int (fun _ _ => rfl)) po_none (po_some (pe_op op_sub (pv 7) pe_int))) (pe_slice (slL K) (pe_ix (ixT K) (pv 1) pe_int (fun _ _ => rfl)) (po_some (pv 7)) po_none)) (pa_cons (pe_ix (ixT K) (pv 1) pe_int (fun _ _ => rfl)) pa_nil)))) pa_nil)))))) pss_nil)
      (pss_cons (ps_if (PW.pt (pw_and (pt_cmpR op_eq (pv 6) pe_int (nomark _)) (pw_and1 (pt_cmpR op_lt (pv 5) pe_int (nomark _))))) (pss_cons (ps_set (i := 7) sc_law_change.nd rfl (.inr rfl) (pe_op op_add pe_int (pe_call G_law_next (hr.mono (by decide)) (by rfl) g_law_next kp_law_next b_law_next .nil pass0 (pa_cons (pv 0) (pa_cons (pe_op op_add (pv 5) pe_int) pa_nil)))))
      (pss_cons (ps_set (i := 9) sc_law_change.nd rfl (.inr rfl) (pe_callTy (kTupOf K) (by rfl) m_tuple (by decide +kernel) (pa_cons (pe_lc (own := [("i", 11)]) (g := gName 11) rfl sc_law_change.nd (pi_range1 (by rfl) m_range (pa_cons (pv 4) pa_nil)) (blkOk_by (own := [("i", 11)]) (N := ["box", "state", "fresh", "board", "rows", "columns", "kind", "at", "j", "row", "new", "i", "amount"]) (by first | (show blkC _ (defScope s_law_change) _ _ = true; decide +kernel) | kernel_rfl | rfl)) (fun _ _ _ _ _ => pg_name (i := 11) sc_law_change.nd rfl (by first | exact Or.inl rfl | exact Or.inr rfl)) (fun _ _ _ _ _ => pts_nil) (fun _ _ _ _ _ => (pe_call G_law_next (hr.mono (by decide)) (by rfl) g_law_next kp_law_next b_law_next .nil pass0 (pa_cons (pv 0) (pa_cons (pe_ix (ixL K) (pe_lst (pa_cons pe_int (pa_cons pe_int pa_nil))) (pe_callTy kInt1 (by rfl) m_int (by decide +kernel) (pa_cons (pe_cmpR op_eq (pv 11) pe_int (nomark _)) pa_nil)) (fun _ _ => rfl)) pa_nil))))) pa_nil)))
      (pss_cons (ps_set (i := 10) sc_law_change.nd rfl (.inl rfl) (pe_callTy (kTupOf K) (by rfl) m_tuple (by decide +kernel) (pa_cons (pe_lc (own := [("i", 11)]) (g := gName 11) rfl sc_law_change.nd (pi_range1 (by rfl) m_range (pa_cons (pv 4) pa_nil)) (blkOk_by (own := [("i", 11)]) (N := ["box", "state", "fresh", "board", "rows", "columns", "kind", "at", "j", "row", "new", "i", "amount"]) (by first | (show blkC _ (defScope s_law_change) _ _ = true; decide +kernel) | kernel_rfl | rfl)) (fun _ _ _ _ _ => pg_name (i := 11) sc_law_change.nd rfl (by first | exact Or.inl rfl | exact Or.inr rfl)) (fun _ _ _ _ _ => pts_nil) (fun _ _ _ _ _ => (pe_op (kCatT K) (pe_op (kCatT K) (pe_slice (slT K) (pe_ix (ixT K) (pv 3) (pv 11) (fun _ _ => rfl)) po_none (po_some (pe_op op_sub (pv 7) pe_int))) (pe_tup (pa_cons (pe_ix (ixT K) (pv 9) (pv 11) (fun _ _ => rfl)) pa_nil))) (pe_slice (slT K) (pe_ix (ixT K) (pv 3) (pv 11) (fun _ _ => rfl)) (po_some (pe_op op_sub (pv 7) pe_int)) po_none)))) pa_nil)))
      (pss_one (ps_ret (pe_tup (pa_cons (pe_tup (pa_cons pe_str (pa_cons (pv 7) (pa_cons (pv 9) pa_nil)))) (pa_cons (pe_tup (pa_cons (pv 10) (pa_cons (pe_ix (ixT K) (pv 1) pe_int (fun _ _ => rfl)) (pa_cons (pe_op op_cat (pe_op op_cat (pe_slice (slL K) (pe_ix (ixT K) (pv 1) pe_int (fun _ _ => rfl)) po_none (po_some (pe_op op_sub (pv 7) pe_int))) (pe_lst (pa_cons (pv 2) pa_nil))) (pe_slice (slL K) (pe_ix (ixT K) (pv 1) pe_int (fun _ _ => rfl)) (po_some (pe_op op_sub (pv 7) pe_int)) po_none)) pa_nil)))) pa_nil)))))))) pss_nil)
      (pss_cons (ps_if (PW.pt (pw_and (pt_cmpR op_eq (pv 6) pe_int (nomark _)) (pw_and1 (pt_cmpR op_gt (pv 5) pe_int (nomark _))))) (pss_cons (ps_set (i := 7) sc_law_change.nd rfl (.inr rfl) (pe_op op_add pe_int (pe_call G_law_next (hr.mono (by decide)) (by rfl) g_law_next kp_law_next b_law_next .nil pass0 (pa_cons (pv 0) (pa_cons (pv 5) pa_nil)))))
      (pss_cons (ps_set (i := 10) sc_law_change.nd rfl (.inl rfl) (pe_callTy (kTupOf K) (by rfl) m_tuple (by decide +kernel) (pa_cons (pe_lc (own := [("row", 9)]) (g := gName 9) rfl sc_law_change.nd (piT K (pv 3)) (blkOk_by (own := [("row", 9)]) (N := ["box", "state", "fresh", "board", "rows", "columns", "kind", "at", "j", "row", "new", "i", "amount"]) (by first | (show blkC _ (defScope s_law_change) _ _ = true; decide +kernel) | kernel_rfl | rfl)) (fun _ _ _ _ _ => pg_name (i := 9) sc_law_change.nd rfl (by first | exact Or.inl rfl | exact Or.inr rfl)) (fun _ _ _ _ _ => pts_nil) (fun _ _ _ _ _ => (pe_op (kCatT K) (pe_slice (slT K) (pv 9) po_none (po_some (pe_op op_sub (pv 7) pe_int))) (pe_slice (slT K) (pv 9) (po_some (pv 7)) po_none)))) pa_nil)))
      (pss_one (ps_ret (pe_tup (pa_cons (pe_tup (pa_cons pe_str (pa_cons (pv 7) pa_nil))) (pa_cons (pe_tup (pa_cons (pv 10) (pa_cons (pe_ix (ixT K) (pv 1) pe_int (fun _ _ => rfl)) (pa_cons (pe_op op_cat (pe_slice (slL K) (pe_ix (ixT K) (pv 1) pe_int (fun _ _ => rfl)) po_none (po_some (pe_op op_sub (pv 7) pe_int))) (pe_slice (slL K) (pe_ix (ixT K) (pv 1) pe_int (fun _ _ => rfl)) (po_some (pv 7)) po_none)) pa_nil)))) pa_nil))))))) pss_nil)
      (pss_cons (ps_set (i := 11) sc_law_change.nd rfl (.inl rfl) (pe_call G_law_next (hr.mono (by decide)) (by rfl) g_law_next kp_law_next b_law_next .nil pass0 (pa_cons (pv 0) (pa_cons (pv 4) pa_nil))))
      (pss_cons (ps_set (i := 8) sc_law_change.nd rfl (.inl rfl) (pe_call G_law_next (hr.mono (by decide)) (by rfl) g_law_next kp_law_next b_law_next .nil pass0 (pa_cons (pv 0) (pa_cons (pv 5) pa_nil))))
      (pss_cons (ps_set (i := 12) sc_law_change.nd rfl (.inl rfl) (pe_ix (ixL K) (pe_lst (pa_cons pe_int (pa_cons pe_int (pa_cons pe_int (pa_cons pe_int (pa_cons pe_int (pa_cons (pe_call G_law_next (hr.mono (by decide)) (by rfl) g_law_next kp_law_next b_law_next .nil pass0 (pa_cons (pv 0) (pa_cons pe_int pa_nil))) pa_nil))))))) (pe_call G_law_next (hr.mono (by decide)) (by rfl) g_law_next kp_law_next b_law_next .nil pass0 (pa_cons (pv 0) (pa_cons pe_int pa_nil))) (fun _ _ => rfl)))
      (pss_cons (ps_set (i := 9) sc_law_change.nd rfl (.inr rfl) (pe_op (kCatT K) (pe_op (kCatT K) (pe_slice (slT K) (pe_ix (ixT K) (pv 3) (pv 11) (fun _ _ => rfl)) po_none (po_some (pv 8))) (pe_tup (pa_cons (pv 12) pa_nil))) (pe_slice (slT K) (pe_ix (ixT K) (pv 3) (pv 11) (fun _ _ => rfl)) (po_some (pe_op op_add (pv 8) pe_int)) po_none)))
      (pss_one (ps_ret (pe_tup (pa_cons (pe_tup (pa_cons pe_str (pa_cons (pe_op op_add (pv 11) pe_int) (pa_cons (pe_op op_add (pv 8) pe_int) (pa_cons (pv 12) pa_nil))))) (pa_cons (pe_tup (pa_cons (pe_op (kCatT K) (pe_op (kCatT K) (pe_slice (slT K) (pv 3) po_none (po_some (pv 11))) (pe_tup (pa_cons (pv 9) pa_nil))) (pe_slice (slT K) (pv 3) (po_some (pe_op op_add (pv 11) pe_int)) po_none)) (pa_cons (pe_ix (ixT K) (pv 1) pe_int (fun _ _ => rfl)) (pa_cons (pe_ix (ixT K) (pv 1) pe_int (fun _ _ => rfl)) pa_nil)))) pa_nil))))))))))))))))), ?_⟩, hmg, F.kp, F.binds fun _ _ _ _ _ _ us hl => match us, hl with | [_, _, _], _ => rfl, Wk.Fun.lk F⟩
  intro rs O Q h
  obtain ⟨bx, row, k, s, f, O', rfl, rfl, hr, h0, h1, hid, q⟩ := h
  obtain ⟨b, n, ris, cis⟩ := s
  show StW K _ (Box bx row k :: O') [.ad bx, .dat (stD b n ris cis), iV f, .non, .non, .non, .non, .non, .non, .non, .non, .non, .non] _
  have hb : Brd n b := hid.brd
  have hn : n ≤ 8 := hid.n8
  have hbl : b.length ≤ 8 := hid.m8
  have hb0 : 0 < b.length := hb.b0
  have hn0 := hb.n0
  have hlb : (b.map fun c => tI c).length = b.length := List.length_map _
  have hr0 : (b.getD (0 : Int).toNat []).length = n := (brd_row hb hb0).1
  have hrl : (ris.map PyData.int).length = b.length := by rw [List.length_map]; exact hid.rl
  have hcl : (cis.map PyData.int).length = n := by rw [List.length_map]; exact hid.cl
  have cB : ∀ x y, (cut (b.map fun c => tI c) x y).length ≤ 8 := fun x y => Nat.le_trans (cut_len ..) (by rw [hlb]; exact hbl)
  have cR : ∀ x y, (cut (ris.map PyData.int) x y).length ≤ 8 := fun x y => Nat.le_trans (cut_len ..) (by rw [hrl]; exact hbl)
  have cC : ∀ x y, (cut (cis.map PyData.int) x y).length ≤ 8 := fun x y => Nat.le_trans (cut_len ..) (by rw [hcl]; exact hn)
  refine s_seq (s_asg ?_)
  repeat' walk_at "e"
  refine s_seq (s_asg ?_)
  repeat' walk_at "e"
  rw [hlb]
  refine s_cut (fun O1 ds1 => O1 = Box bx row k :: O' ∧ ds1 = [.ad bx, .dat (stD b n ris cis), iV f, .dat (tS b), iV b.length, iV n, .non, .non, .non, .non, .non, .non, .non]) ?_ ?_
  · refine s_asg ?_
    repeat' walk_at "e"
    rw [List.length_map]
    erw [hr0]
    rfl
  rintro O1 ds1 ⟨rfl, rfl⟩
  refine s_seq (s_asg ?_)
  repeat' walk_at "e"
  rename_i x hx0 hx1
  refine s_cut (fun O1 ds1 => O1 = Box bx row (k + 1) :: O' ∧ ds1 = [.ad bx, .dat (stD b n ris cis), iV f, .dat (tS b), iV b.length, iV n, iV x, .non, .non, .non, .non, .non, .non]) ?_ ?_
  · refine s_if ?_
    repeat' walk_at "e"
    · rename_i hm8
      refine s_seq (s_asg ?_)
      repeat' walk_at "e"
      rename_i t0 ht0 ht1
      obtain ⟨t, rfl⟩ : ∃ t : Nat, t0 = t := ⟨t0.toNat, by omega⟩
      have c1 := cB none (some (1 + (t : Int) - 1))
      have c2 := cB (some (1 + (t : Int) - 1)) none
      have c3 := cR none (some (1 + (t : Int) - 1))
      have c4 := cR (some (1 + (t : Int) - 1)) none
      refine s_seq (s_asg (w_cb (w_cons (w_frz (w_lc1 ?_)))))
      repeat' walk_at "e"
      refine ⟨by omega, by omega, fun i acc O2 => ∃ (us : List Int) (k3 : Int), acc = us.map (fun v => iV v) ∧ us.length = i ∧ (∀ v ∈ us, 0 ≤ v ∧ v ≤ 1000) ∧ k ≤ k3 ∧ k3 ≤ k + 2 + i ∧ O2 = Box bx row k3 :: O', ⟨[], _, rfl, rfl, fun _ h => absurd h List.not_mem_nil, by omega, by omega, rfl⟩, fun i acc O2 hi hl hI => ?_, fun acc O2 Dl hI => ?_⟩
      · obtain ⟨us, k3, rfl, hu, hp, h2, h3, rfl⟩ := hI
        refine LcTurn1.to fun Dl => ?_
        repeat' walk_at "e"
        rename_i z hz0 hz1
        refine ⟨_, _, rfl, us ++ [z], k3 + 1, by rw [List.map_append]; rfl, by rw [List.length_append, hu]; rfl, fun x hx => ?_, by omega, by omega, rfl⟩
        rcases List.mem_append.mp hx with hx | hx
        · exact hp x hx
        · rw [List.mem_singleton.mp hx]
          omega
      obtain ⟨us, k3, rfl, hu, hp, h2, h3, rfl⟩ := hI
      refine ⟨Dl, _, _, _, rfl, .refl _, Dats.ints us, ?_⟩
      repeat' walk_at "e"
      refine s_seq (s_asg (w_tup ?_))
      repeat' walk_at "e"
      refine s_ret (w_tup ?_)
      repeat' walk_at "e"
      have z := q (.insR ((t : Int) + 1) us) (insI ris t f) cis k3 (nx_insR (k := t) hid (show t ≤ b.length by omega) (show b.length < 8 by omega) ⟨show us.length = n by omega, hp⟩) (by omega) (by omega)
      rw [e_ins, e_insI, Int.add_comm 1 (t : Int)]
      simp only [afB, tn1, chgD] at z
      exact z
    · refine s_next ?_
      exact ⟨rfl, rfl⟩
    · refine s_next ?_
      exact ⟨rfl, rfl⟩
  rintro O1 ds1 ⟨rfl, rfl⟩
  refine s_cut (fun O1 ds1 => O1 = Box bx row (k + 1) :: O' ∧ ds1 = [.ad bx, .dat (stD b n ris cis), iV f, .dat (tS b), iV b.length, iV n, iV x, .non, .non, .non, .non, .non, .non]) ?_ ?_
  · refine s_if ?_
    repeat' walk_at "e"
    · rename_i hm8
      refine s_seq (s_asg ?_)
      repeat' walk_at "e"
      rename_i t0 ht0 ht1
      obtain ⟨t, rfl⟩ : ∃ t : Nat, t0 = t := ⟨t0.toNat, by omega⟩
      have c1 := cB none (some (1 + (t : Int) - 1))
      have c2 := cB (some (1 + (t : Int))) none
      have c3 := cR none (some (1 + (t : Int) - 1))
      have c4 := cR (some (1 + (t : Int))) none
      refine s_ret (w_tup ?_)
      repeat' walk_at "e"
      have z := q (.remR ((t : Int) + 1)) (remI ris t) cis _ (nx_remR (k := t) hid (show t < b.length by omega) (show 1 < b.length by omega)) (show k ≤ k + 1 + 1 by omega) (by omega)
      rw [e_rem, e_remI, Int.add_comm 1 (t : Int)]
      simp only [afB, tn1, chgD] at z
      exact z
    · refine s_next ?_
      exact ⟨rfl, rfl⟩
    · refine s_next ?_
      exact ⟨rfl, rfl⟩
  rintro O1 ds1 ⟨rfl, rfl⟩
  refine s_cut (fun O1 ds1 => O1 = Box bx row (k + 1) :: O' ∧ ds1 = [.ad bx, .dat (stD b n ris cis), iV f, .dat (tS b), iV b.length, iV n, iV x, .non, .non, .non, .non, .non, .non]) ?_ ?_
  · refine s_if ?_
    repeat' walk_at "e"
    · rename_i hm8
      refine s_seq (s_asg ?_)
      repeat' walk_at "e"
      rename_i t0 ht0 ht1
      obtain ⟨t, rfl⟩ : ∃ t : Nat, t0 = t := ⟨t0.toNat, by omega⟩
      have c3 := cC none (some (1 + (t : Int) - 1))
      have c4 := cC (some (1 + (t : Int) - 1)) none
      refine s_seq (s_asg (w_cb (w_cons (w_frz (w_lc1 ?_)))))
      repeat' walk_at "e"
      refine ⟨by omega, by omega, fun i acc O2 => ∃ (us : List Int) (k3 : Int), acc = us.map (fun v => iV v) ∧ us.length = i ∧ (∀ v ∈ us, 0 ≤ v ∧ v ≤ 1000) ∧ k ≤ k3 ∧ k3 ≤ k + 2 + i ∧ O2 = Box bx row k3 :: O', ⟨[], _, rfl, rfl, fun _ h => absurd h List.not_mem_nil, by omega, by omega, rfl⟩, fun i acc O2 hi hl hI => ?_, fun acc O2 Dl hI => ?_⟩
      · obtain ⟨us, k3, rfl, hu, hp, h2, h3, rfl⟩ := hI
        refine LcTurn1.to fun Dl => ?_
        repeat' walk_at "e"
        rename_i z hz0 hz1
        refine ⟨_, _, rfl, us ++ [z], k3 + 1, by rw [List.map_append]; rfl, by rw [List.length_append, hu]; rfl, fun x hx => ?_, by omega, by omega, rfl⟩
        rcases List.mem_append.mp hx with hx | hx
        · exact hp x hx
        · rw [List.mem_singleton.mp hx]
          omega
      obtain ⟨us, k3, rfl, hu, hp, h2, h3, rfl⟩ := hI
      refine ⟨Dl, _, _, _, rfl, .refl _, Dats.ints us, ?_⟩
      repeat' walk_at "e"
      have hul : us.length = b.length := by omega
      refine s_seq (s_asg (w_cb (w_cons (w_frz (w_lc1 ?_)))))
      repeat' walk_at "e"
      refine ⟨by omega, by omega, fun i acc O2 => acc = ((insC b t us).take i).map (fun c => SD.dat (tI c)) ∧ Box bx row k3 :: O' = O2, ⟨rfl, rfl⟩, fun i acc O2 hi hl hI => ?_, fun acc O2 Dl2 hI => ?_⟩
      · obtain ⟨rfl, rfl⟩ := hI
        have hi : i < b.length := by omega
        have hbi : ((b.getD ((i : Int)).toNat []).map PyData.int).length = n := by rw [List.length_map, Int.toNat_natCast]; exact (brd_row hb hi).1
        have d1 : (cut ((b.getD ((i : Int)).toNat []).map PyData.int) none (some (1 + (t : Int) - 1))).length ≤ 8 := Nat.le_trans (cut_len ..) (by omega)
        have d2 : (cut ((b.getD ((i : Int)).toNat []).map PyData.int) (some (1 + (t : Int) - 1)) none).length ≤ 8 := Nat.le_trans (cut_len ..) (by omega)
        intro Dl
        repeat' walk_at "e"
        rw [e_insI, Int.toNat_natCast]
        have e3 : (insC b t us)[i]? = some (insI (b.getD i []) t (us.getD i 0)) := by rw [insC, List.getElem?_map, List.getElem?_range hi]; rfl
        refine ⟨_, .refl _, ?_, rfl⟩
        rw [List.take_add_one, e3]
        exact (List.map_append (f := fun c => SD.dat (tI c)) (l₁ := (insC b t us).take i) (l₂ := [insI (b.getD i []) t (us.getD i 0)])).symm
      obtain ⟨rfl, rfl⟩ := hI
      have ht : (insC b t us).take ((b.length : Int)).toNat = insC b t us := List.take_of_length_le (by rw [insC_len]; omega)
      rw [ht]
      refine ⟨Dl2, _, (insC b t us).map fun c => tI c, _, rfl, .refl _, mS_dats _, ?_⟩
      repeat' walk_at "e"
      refine s_ret (w_tup ?_)
      repeat' walk_at "e"
      have z := q (.insC ((t : Int) + 1) us) ris (insI cis t f) k3 (nx_insC (k := t) hid (show t ≤ n by omega) (show n < 8 by omega) ⟨hul, hp⟩) (by omega) (by omega)
      rw [e_insI, Int.add_comm 1 (t : Int)]
      simp only [afB, tn1, chgD] at z
      exact z
    · refine s_next ?_
      exact ⟨rfl, rfl⟩
    · refine s_next ?_
      exact ⟨rfl, rfl⟩
  rintro O1 ds1 ⟨rfl, rfl⟩
  refine s_cut (fun O1 ds1 => O1 = Box bx row (k + 1) :: O' ∧ ds1 = [.ad bx, .dat (stD b n ris cis), iV f, .dat (tS b), iV b.length, iV n, iV x, .non, .non, .non, .non, .non, .non]) ?_ ?_
  · refine s_if ?_
    repeat' walk_at "e"
    · rename_i hm8
      refine s_seq (s_asg ?_)
      repeat' walk_at "e"
      rename_i t0 ht0 ht1
      obtain ⟨t, rfl⟩ : ∃ t : Nat, t0 = t := ⟨t0.toNat, by omega⟩
      have c3 := cC none (some (1 + (t : Int) - 1))
      have c4 := cC (some (1 + (t : Int))) none
      refine s_seq (s_asg (w_cb (w_cons (w_frz (w_lcT ?_)))))
      repeat' walk_at "e"
      refine ⟨by omega, fun i acc O2 => acc = ((remC b t).take i).map (fun c => SD.dat (tI c)) ∧ Box bx row (k + 1 + 1) :: O' = O2, ⟨rfl, rfl⟩, fun i d acc O2 hd hl hI => ?_, fun acc O2 Dl2 hI => ?_⟩
      · obtain ⟨rfl, rfl⟩ := hI
        intro Dl
        obtain ⟨r, hr, rfl⟩ := map_get hd
        have hrl := (hb.row r (List.mem_of_getElem? hr)).1
        have d1 : (cut (r.map PyData.int) none (some (1 + (t : Int) - 1))).length ≤ 8 := Nat.le_trans (cut_len ..) (by rw [List.length_map]; omega)
        have d2 : (cut (r.map PyData.int) (some (1 + (t : Int))) none).length ≤ 8 := Nat.le_trans (cut_len ..) (by rw [List.length_map]; omega)
        repeat' walk_at "e"
        rw [e_remI]
        have e3 : (remC b t)[i]? = some (remI r t) := by rw [remC, List.getElem?_map, hr]; rfl
        refine ⟨_, .refl _, ?_, rfl⟩
        rw [List.take_add_one, e3]
        exact (List.map_append (f := fun c => SD.dat (tI c)) (l₁ := (remC b t).take i) (l₂ := [remI r t])).symm
      obtain ⟨rfl, rfl⟩ := hI
      have ht : (remC b t).take (b.map fun c => tI c).length = remC b t := List.take_of_length_le (by rw [remC_len, hlb]; omega)
      rw [ht]
      refine ⟨Dl2, _, (remC b t).map fun c => tI c, _, rfl, .refl _, mS_dats _, ?_⟩
      repeat' walk_at "e"
      refine s_ret (w_tup ?_)
      repeat' walk_at "e"
      have z := q (.remC ((t : Int) + 1)) ris (remI cis t) _ (nx_remC (k := t) hid (show t < n by omega) (show 1 < n by omega)) (show k ≤ k + 1 + 1 by omega) (by omega)
      rw [e_remI, Int.add_comm 1 (t : Int)]
      simp only [afB, tn1, chgD] at z
      exact z
    · refine s_next ?_
      exact ⟨rfl, rfl⟩
    · refine s_next ?_
      exact ⟨rfl, rfl⟩
  rintro O1 ds1 ⟨rfl, rfl⟩
  refine s_seq (s_asg ?_)
  repeat' walk_at "e"
  rename_i i0 hi0 hi1
  refine s_seq (s_asg ?_)
  repeat' walk_at "e"
  rename_i j0 hj0 hj1
  obtain ⟨i, rfl⟩ : ∃ t : Nat, i0 = t := ⟨i0.toNat, by omega⟩
  obtain ⟨j, rfl⟩ : ∃ t : Nat, j0 = t := ⟨j0.toNat, by omega⟩
  have hi : i < b.length := by omega
  have hj : j < n := by omega
  refine s_seq (s_asg ?_)
  repeat' walk_at "e"
  rename_i u hu0 hu1 y hy0 hy1 v hv
  have hv : 0 ≤ v ∧ v ≤ 1000 := by omega
  have hbi : (b.getD ((i : Int)).toNat []).length = n := by rw [Int.toNat_natCast]; exact (brd_row hb hi).1
  have d1 : (cut ((b.getD ((i : Int)).toNat []).map PyData.int) none (some (j : Int))).length ≤ 8 := Nat.le_trans (cut_len ..) (by rw [List.length_map]; omega)
  have d2 : (cut ((b.getD ((i : Int)).toNat []).map PyData.int) (some ((j : Int) + 1)) none).length ≤ 8 := Nat.le_trans (cut_len ..) (by rw [List.length_map]; omega)
  have c1 := cB none (some (i : Int))
  have c2 := cB (some ((i : Int) + 1)) none
  refine s_seq (s_asg ?_)
  repeat' walk_at "e"
  refine s_ret (w_tup ?_)
  repeat' walk_at "e"
  have z := q (.put ((i : Int) + 1) ((j : Int) + 1) v) ris cis _ (nx_put (i := i) (j := j) hid hi hj hv) (show k ≤ k + 1 + 1 + 1 + 1 + 1 by omega) (by omega)
  rw [e_put _ _ (by omega), e_put2 b hi, Int.toNat_natCast]
  simp only [afB, tn1, chgD] at z
  exact z
def pre_Bench_change (C CE : Addr) : PreX := fun rs O Q Qx => ∃ (a dx : Addr) (vs : List V) (g : Int) (pd pu : Addr) (n : Nat) (b : List (List Int)) (n2 : Nat) (b2 : List (List Int)) (w w2 : List Int × List Int) (dn un : List Stp) (O' : Own), rs = [.ad a, .dat (tS b2), .dat (wayD w), .dat (wayD w2)] ∧ O = BnI C a dx vs b n g pd pu :: StL pd dn :: StL pu un :: O' ∧ Brd n b ∧ n ≤ 50 ∧ b.length ≤ 50 ∧ Brd n2 b2 ∧ n2 ≤ 50 ∧ b2.length ≤ 50 ∧ WayOk n b.length n2 b2.length w ∧ dn.length ≤ 1000 ∧ (100 ≤ dn.length → Qx CE none O) ∧ (dn.length < 100 → ∀ vs2 pu2, Q (.dat .none) (BnI C a dx vs2 b2 n2 (cntB b b2 n2 w b2.length : Nat) pd pu2 :: StL pd (dn ++ [⟨b, w2, b2, w⟩]) :: StL pu2 [] :: O'))
theorem len_Bench_change {C CE : Addr} (rs : List SD) (O : Own) (Q : SD → Own → Prop) (Qx : Addr → Option (Str × PyData) → Own → Prop) (h : pre_Bench_change C CE rs O Q Qx) : rs.length = 4 := by
  obtain ⟨a, dx, vs, g, pd, pu, n, b, n2, b2, w, w2, dn, un, O', rfl, _⟩ := h
  rfl
abbrev s_Bench_change : Stmt := inClass (topS 21) 15
theorem sc_Bench_change : FnScope ["self", "board", "forth", "back"] ["self", "board", "forth", "back"] (defScope s_Bench_change) := ⟨rfl, rfl, rfl, by decide +kernel, rfl, by decide +kernel, by decide +kernel⟩
set_option maxHeartbeats 4000000 in
theorem ok_Bench_change  {C_Bench : Addr} {C_TooManyChanges : Addr} (D : DefM K C_Bench "_change" "Bench._change" s_Bench_change) (C_Bench_become : CalleeM P w K mg base C_Bench "_become" ["self", "board", "way"] 6 (pre_Bench_become C_Bench)) (m_len : mg "len" = none) (B_Bench : Cls K C_Bench) (na_Bench_board : NoAttr K C_Bench "_board") (na_Bench_done : NoAttr K C_Bench "_done") (na_Bench_undone : NoAttr K C_Bench "_undone") (N_TooManyChanges : ExN K mg "TooManyChanges" C_TooManyChanges) {t_MOST_CHANGES : Tok} (m_MOST_CHANGES : mg "MOST_CHANGES" = some (.int 100 t_MOST_CHANGES)) : CalleeMX P w K mg base C_Bench "_change" ["self", "board", "forth", "back"] 7 ((pre_Bench_change C_Bench) C_TooManyChanges) := by
  obtain ⟨f, fd, F, hmg⟩ := D
  obtain ⟨f_Bench_become, fd_Bench_become, G_Bench_become, m_Bench_become, b_Bench_become⟩ := C_Bench_become
  refine ⟨f, fd, fnx_ok F sc_Bench_change len_Bench_change fun cdv A outer s H E hr => ⟨_, (pss_cons (ps_if (pt_cmpR op_ge (pe_callB (kLen K) (by rfl) m_len PySem.boot_len (pa_cons (peFld (K := K) (pv 0)) pa_nil)) (pe_glob (v := .int 100) rfl m_MOST_CHANGES ⟨_, rfl⟩) (nomark _)) (pss_one (psRz1 (K := K) N_TooManyChanges rfl (by exact takes_of rfl rfl rfl rfl : Takes _ (wE E)) rfl (psJf (.cons pe_str (.cons (pe_fmt (pe_glob (v := .int 100) rfl m_MOST_CHANGES ⟨_, rfl⟩)) (.cons pe_str .nil)))))) pss_nil)
      (pss_cons (psApp K (ps_expr (pe_bm PySem.F.plainAttrs_list PySem.F.slot_list_append PySem.F.type_list_append mt_append (peFld (K := K) (pv 0)) (pa_cons (pe_tup (pa_cons (peFld (K := K) (pv 0)) (pa_cons (pv 3) (pa_cons (pv 1) (pa_cons (pv 2) pa_nil))))) pa_nil))))
      (pss_cons (psFld (K := K) (pv 0) (pe_lst pa_nil))
      (pss_one (ps_expr (peMeth (K := K) B_Bench m_Bench_become G_Bench_become (hr.mono (by decide)) b_Bench_become (pv 0) (pa_cons (pv 1) (pa_cons (pv 2) pa_nil)))))))), ?_⟩, hmg, F.binds fun _ _ _ _ _ _ us hl => match us, hl with | [_, _, _, _], _ => rfl⟩
  intro rs O Q Qx h
  obtain ⟨a, dx, vs, g, pd, pu, n, b, n2, b2, w, w2, dn, un, O', rfl, rfl, hb, hn, hbl, hb2, hn2, hbl2, hw, hdn, qx, q⟩ := h
  show StW K _ _ [.ad a, .dat (tS b2), .dat (wayD w), .dat (wayD w2)] _
  have hdl : (dn.map fun s => SD.dat (stepD s)).length = dn.length := List.length_map _
  refine s_seq (s_if ?_)
  repeat' walk_at "e"
  · rename_i hd
    rw [hdl] at hd
    repeat' walk_at "w"
    exact fun _ => qx (by omega)
  rename_i hd
  rw [hdl] at hd
  replace q := q (by omega)
  refine s_next ?_
  refine s_seq (s_drop (w_bm ?_))
  repeat' walk_at "e"
  refine s_seq (s_fldS (by assumption) (by assumption) (w_lstO ?_))
  repeat' walk_at "e"
  refine ⟨sz_ok rfl, fun pu2 => ?_⟩
  repeat' walk_at "e"
  refine ⟨a, dx, nsB, _, _, 4, _, rfl, .swap .., by decide, by decide, rfl, rfl, fun vs2 => ?_⟩
  have eD : (dn.map fun s => SD.dat (stepD s)) ++ [SD.dat (.tuple [tS b, wayD w2, tS b2, wayD w])] = (dn ++ [(⟨b, w2, b2, w⟩ : Stp)]).map fun s => SD.dat (stepD s) := by
    rw [List.map_append]
    rfl
  rw [eD]
  refine s_cv (Cv.trans (Cv.perm (.cons _ (.swap ..))) (Cv.sub (O' := BnI C_Bench a dx vs2 b n g pd pu2 :: StL pd (dn ++ [⟨b, w2, b2, w⟩]) :: StL pu2 [] :: O') (.cons₂ _ (.cons₂ _ (.cons₂ _ (.cons _ (.refl _))))))) ?_
  refine s_drop (w_meth ?_)
  repeat' walk_at "e"
  refine ⟨a, dx, _, _, _, rfl, List.mem_cons_self, by decide, ?_⟩
  repeat' walk_at "e"
  exact ⟨a, dx, vs2, g, pd, pu2, n, b, n2, b2, w, _, rfl, rfl, hb, hn, hbl, hb2, hn2, hbl2, hw, fun vs3 => q vs3 pu2⟩
def pre_check_column (C : Addr) : PreX := fun rs O Q Qx => ∃ r l : Int, rs = [iV r, iV l] ∧ -(2 ^ 60) ≤ r ∧ r ≤ 2 ^ 60 ∧ -1000 ≤ l ∧ l ≤ 1000 ∧ (¬ (1 ≤ r ∧ r ≤ l) → Qx C none O) ∧ (1 ≤ r → r ≤ l → Q (.dat .none) O)
theorem len_check_column {C : Addr} (rs : List SD) (O : Own) (Q : SD → Own → Prop) (Qx : Addr → Option (Str × PyData) → Own → Prop) (h : pre_check_column C rs O Q Qx) : rs.length = 2 := by
  obtain ⟨r, l, rfl, _⟩ := h
  rfl
abbrev s_check_column : Stmt := topS 23
theorem sc_check_column : FnScope ["column", "last"] ["column", "last"] (defScope s_check_column) := ⟨rfl, rfl, rfl, by decide +kernel, rfl, by decide +kernel, by decide +kernel⟩
set_option maxHeartbeats 4000000 in
theorem ok_check_column  {C_NoSuchColumn : Addr} (D : Def K mg "_check_column" s_check_column) (N_NoSuchColumn : ExN K mg "NoSuchColumn" C_NoSuchColumn) : CalleeX P w K mg base "_check_column" ["column", "last"] 1 (pre_check_column C_NoSuchColumn) := by
  obtain ⟨f, fd, F, hmg⟩ := D
  refine ⟨f, fd, fnx_ok F sc_check_column len_check_column fun cdv A outer s H E hr => ⟨_, (pss_one (ps_if (PW.pt (pw_or (pt_cmpR op_lt (pv 0) pe_int (nomark _)) (pw_or1 (pt_cmpR op_gt (pv 0) (pv 1) (nomark _))))) (pss_one (psRz1 (K := K) N_NoSuchColumn rfl (by exact takes_of rfl rfl rfl rfl : Takes _ (wE E)) rfl (psFs pe_str (pe_fmt (pv 0))))) pss_nil)), ?_⟩, hmg, F.kp, F.binds fun _ _ _ _ _ _ us hl => match us, hl with | [_, _], _ => rfl, Wk.Fun.lk F⟩
  intro rs O Q Qx h
  obtain ⟨r, l, rfl, hr1, hr2, hl1, hl2, qx, q⟩ := h
  show StW K _ O [iV r, iV l] _
  refine s_if ?_
  repeat' walk_at "e"
  · repeat' walk_at "w"
    exact fun _ => qx fun z => by omega
  · repeat' walk_at "w"
    exact fun _ => qx fun z => by omega
  · refine s_next ?_
    exact q (by omega) (by omega)
def pre_check_size (C : Addr) : PreX := fun rs O Q Qx => ∃ r : Int, rs = [iV r] ∧ -1000 ≤ r ∧ r ≤ 1000 ∧ (¬ (1 ≤ r ∧ r ≤ 8) → Qx C none O) ∧ (1 ≤ r → r ≤ 8 → Q (.dat .none) O)
theorem len_check_size {C : Addr} (rs : List SD) (O : Own) (Q : SD → Own → Prop) (Qx : Addr → Option (Str × PyData) → Own → Prop) (h : pre_check_size C rs O Q Qx) : rs.length = 1 := by
  obtain ⟨r, rfl, _⟩ := h
  rfl
abbrev s_check_size : Stmt := topS 25
theorem sc_check_size : FnScope ["many"] ["many"] (defScope s_check_size) := ⟨rfl, rfl, rfl, by decide +kernel, rfl, by decide +kernel, by decide +kernel⟩
set_option maxHeartbeats 4000000 in
theorem ok_check_size  {C_WrongSize : Addr} (D : Def K mg "_check_size" s_check_size) (N_WrongSize : ExN K mg "WrongSize" C_WrongSize) {t_MOST_LINES : Tok} (m_MOST_LINES : mg "MOST_LINES" = some (.int 8 t_MOST_LINES)) : CalleeX P w K mg base "_check_size" ["many"] 1 (pre_check_size C_WrongSize) := by
  obtain ⟨f, fd, F, hmg⟩ := D
  refine ⟨f, fd, fnx_ok F sc_check_size len_check_size fun cdv A outer s H E hr => ⟨_, (pss_one (ps_if (PW.pt (pw_or (pt_cmpR op_lt (pv 0) pe_int (nomark _)) (pw_or1 (pt_cmpR op_gt (pv 0) (pe_glob (v := .int 8) rfl m_MOST_LINES ⟨_, rfl⟩) (nomark _))))) (pss_one (psRz1 (K := K) N_WrongSize rfl (by exact takes_of rfl rfl rfl rfl : Takes _ (wE E)) rfl (psJf (.cons pe_str (.cons (pe_fmt (pv 0)) (.cons pe_str .nil)))))) pss_nil)), ?_⟩, hmg, F.kp, F.binds fun _ _ _ _ _ _ us hl => match us, hl with | [_], _ => rfl, Wk.Fun.lk F⟩
  intro rs O Q Qx h
  obtain ⟨r, rfl, hr1, hr2, qx, q⟩ := h
  show StW K _ O [iV r] _
  refine s_if ?_
  repeat' walk_at "e"
  · repeat' walk_at "w"
    exact fun _ => qx fun z => by omega
  · repeat' walk_at "w"
    exact fun _ => qx fun z => by omega
  · refine s_next ?_
    exact q (by omega) (by omega)
def pre_all_stay : Pre := fun rs O Q => ∃ m : Nat, rs = [iV m] ∧ m ≤ 1000 ∧ Q (.dat (tI (stay m))) O
theorem len_all_stay (rs : List SD) (O : Own) (Q : SD → Own → Prop) (h : pre_all_stay rs O Q) : rs.length = 1 := by
  obtain ⟨m, rfl, _⟩ := h
  rfl
abbrev s_all_stay : Stmt := topS 29
theorem sc_all_stay : FnScope ["many"] ["many"] (defScope s_all_stay) := ⟨rfl, rfl, rfl, by decide +kernel, rfl, by decide +kernel, by decide +kernel⟩
set_option maxHeartbeats 4000000 in
theorem ok_all_stay  (D : Def K mg "_all_stay" s_all_stay) (m_range : mg "range" = none) (m_tuple : mg "tuple" = none) : Callee P w K mg base "_all_stay" ["many"] 1 pre_all_stay := by
  obtain ⟨f, fd, F, hmg⟩ := D
  refine ⟨f, fd, fn_ok F sc_all_stay len_all_stay fun cdv A outer s H E hr => ⟨_, (pss_one (ps_ret (pe_tupRg rfl (by rfl) m_tuple (prg_2 (by rfl) m_range pe_int (pe_op op_add (pv 0) pe_int))))), ?_⟩, hmg, F.kp, F.binds fun _ _ _ _ _ _ us hl => match us, hl with | [_], _ => rfl, Wk.Fun.lk F⟩
  intro rs O Q h
  obtain ⟨m, rfl, hm, q⟩ := h
  show StW K _ O [iV m] _
  refine s_ret (w_tupRg2 ?_)
  repeat' walk_at "e"
  exact ⟨RgOk.of_le (by decide) (by omega) (by decide) (by omega), q⟩
def pre_without_line : Pre := fun rs O Q => ∃ (es : List PyData) (k : Nat), rs = [.dat (.tuple es), iV ((k : Int) + 1)] ∧ es.length ≤ 1000 ∧ k ≤ 1000 ∧ Q (.dat (.tuple (es.take k ++ es.drop (k + 1)))) O
theorem len_without_line (rs : List SD) (O : Own) (Q : SD → Own → Prop) (h : pre_without_line rs O Q) : rs.length = 2 := by
  obtain ⟨es, k, rfl, _⟩ := h
  rfl
abbrev s_without_line : Stmt := topS 28
theorem sc_without_line : FnScope ["lines", "at"] ["lines", "at"] (defScope s_without_line) := ⟨rfl, rfl, rfl, by decide +kernel, rfl, by decide +kernel, by decide +kernel⟩
set_option maxHeartbeats 4000000 in
theorem ok_without_line  (D : Def K mg "_without_line" s_without_line) : Callee P w K mg base "_without_line" ["lines", "at"] 1 pre_without_line := by
  obtain ⟨f, fd, F, hmg⟩ := D
  refine ⟨f, fd, fn_ok F sc_without_line len_without_line fun cdv A outer s H E hr => ⟨_, (pss_one (ps_ret (pe_op (kCatT K) (pe_slice (slT K) (pv 0) po_none (po_some (pe_op op_sub (pv 1) pe_int))) (pe_slice (slT K) (pv 0) (po_some (pv 1)) po_none)))), ?_⟩, hmg, F.kp, F.binds fun _ _ _ _ _ _ us hl => match us, hl with | [_, _], _ => rfl, Wk.Fun.lk F⟩
  intro rs O Q h
  obtain ⟨es, k, rfl, hl, hk, q⟩ := h
  show StW K _ O [.dat (.tuple es), iV ((k : Int) + 1)] _
  have c1 : ∀ a b, (cut es a b).length ≤ 1000 := fun a b => Nat.le_trans (cut_len ..) hl
  have c2 := c1 none (some ((k : Int) + 1 - 1))
  have c4 := c1 (some ((k : Int) + 1)) none
  refine s_ret ?_
  repeat' walk_at "e"
  rw [cut_hi _ (by omega), cut_lo _ (by omega), show ((k : Int) + 1 - 1).toNat = k by omega, show ((k : Int) + 1).toNat = k + 1 by omega]
  exact q
def pre_one_goes : Pre := fun rs O Q => ∃ m k : Nat, rs = [iV m, iV ((k : Int) + 1)] ∧ m ≤ 1000 ∧ k ≤ 1000 ∧ Q (.dat (tI (goes m k))) O
theorem len_one_goes (rs : List SD) (O : Own) (Q : SD → Own → Prop) (h : pre_one_goes rs O Q) : rs.length = 2 := by
  obtain ⟨m, k, rfl, _⟩ := h
  rfl
abbrev s_one_goes : Stmt := topS 31
theorem sc_one_goes : FnScope ["many", "at"] ["many", "at"] (defScope s_one_goes) := ⟨rfl, rfl, rfl, by decide +kernel, rfl, by decide +kernel, by decide +kernel⟩
set_option maxHeartbeats 4000000 in
theorem ok_one_goes  (D : Def K mg "_one_goes" s_one_goes) (C_all_stay : Callee P w K mg base "_all_stay" ["many"] 1 pre_all_stay) (C_without_line : Callee P w K mg base "_without_line" ["lines", "at"] 1 pre_without_line) : Callee P w K mg base "_one_goes" ["many", "at"] 2 pre_one_goes := by
  obtain ⟨f, fd, F, hmg⟩ := D
  obtain ⟨f_all_stay, fd_all_stay, G_all_stay, g_all_stay, kp_all_stay, b_all_stay, _⟩ := C_all_stay
  obtain ⟨f_without_line, fd_without_line, G_without_line, g_without_line, kp_without_line, b_without_line, _⟩ := C_without_line
  refine ⟨f, fd, fn_ok F sc_one_goes len_one_goes fun cdv A outer s H E hr => ⟨_, (pss_one (ps_ret (pe_call G_without_line (hr.mono (by decide)) (by rfl) g_without_line kp_without_line b_without_line .nil pass0 (pa_cons (pe_call G_all_stay (hr.mono (by decide)) (by rfl) g_all_stay kp_all_stay b_all_stay .nil pass0 (pa_cons (pv 0) pa_nil)) (pa_cons (pv 1) pa_nil))))), ?_⟩, hmg, F.kp, F.binds fun _ _ _ _ _ _ us hl => match us, hl with | [_, _], _ => rfl, Wk.Fun.lk F⟩
  intro rs O Q h
  obtain ⟨m, k, rfl, hm, hk, q⟩ := h
  show StW K _ O [iV m, iV ((k : Int) + 1)] _
  refine s_ret ?_
  repeat' walk_at "e"
  refine ⟨m, rfl, hm, ?_⟩
  repeat' walk_at "e"
  refine ⟨_, k, rfl, by rw [List.length_map, stay_len]; exact hm, hk, ?_⟩
  have e : ((stay m).map PyData.int).take k ++ ((stay m).map PyData.int).drop (k + 1) = (goes m k).map PyData.int := by
    rw [List.map_append, List.map_take, List.map_drop]
  rw [e]
  exact q
def pre_with_line : Pre := fun rs O Q => ∃ (es : List PyData) (k : Nat) (d : PyData), rs = [.dat (.tuple es), iV ((k : Int) + 1), .dat d] ∧ es.length ≤ 1000 ∧ k ≤ 1000 ∧ Q (.dat (.tuple (es.take k ++ [d] ++ es.drop k))) O
theorem len_with_line (rs : List SD) (O : Own) (Q : SD → Own → Prop) (h : pre_with_line rs O Q) : rs.length = 3 := by
  obtain ⟨es, k, d, rfl, _⟩ := h
  rfl
abbrev s_with_line : Stmt := topS 27
theorem sc_with_line : FnScope ["lines", "at", "line"] ["lines", "at", "line"] (defScope s_with_line) := ⟨rfl, rfl, rfl, by decide +kernel, rfl, by decide +kernel, by decide +kernel⟩
set_option maxHeartbeats 4000000 in
theorem ok_with_line  (D : Def K mg "_with_line" s_with_line) : Callee P w K mg base "_with_line" ["lines", "at", "line"] 1 pre_with_line := by
  obtain ⟨f, fd, F, hmg⟩ := D
  refine ⟨f, fd, fn_ok F sc_with_line len_with_line fun cdv A outer s H E hr => ⟨_, (pss_one (ps_ret (pe_op (kCatT K) (pe_op (kCatT K) (pe_slice (slT K) (pv 0) po_none (po_some (pe_op op_sub (pv 1) pe_int))) (pe_tup (pa_cons (pv 2) pa_nil))) (pe_slice (slT K) (pv 0) (po_some (pe_op op_sub (pv 1) pe_int)) po_none)))), ?_⟩, hmg, F.kp, F.binds fun _ _ _ _ _ _ us hl => match us, hl with | [_, _, _], _ => rfl, Wk.Fun.lk F⟩
  intro rs O Q h
  obtain ⟨es, k, d, rfl, hl, hk, q⟩ := h
  show StW K _ O [.dat (.tuple es), iV ((k : Int) + 1), .dat d] _
  have c1 : ∀ a b, (cut es a b).length ≤ 1000 := fun a b => Nat.le_trans (cut_len ..) hl
  have c2 := c1 none (some ((k : Int) + 1 - 1))
  have c3 := c1 (some ((k : Int) + 1 - 1)) none
  have c4 := c1 (some ((k : Int) + 1)) none
  refine s_ret ?_
  repeat' walk_at "e"
  rw [cut_hi _ (by omega), cut_lo _ (by omega), show ((k : Int) + 1 - 1).toNat = k by omega]
  exact q
def pre_one_comes : Pre := fun rs O Q => ∃ m k : Nat, rs = [iV m, iV ((k : Int) + 1)] ∧ m ≤ 1000 ∧ k ≤ 1000 ∧ Q (.dat (tI (comes m k))) O
theorem len_one_comes (rs : List SD) (O : Own) (Q : SD → Own → Prop) (h : pre_one_comes rs O Q) : rs.length = 2 := by
  obtain ⟨m, k, rfl, _⟩ := h
  rfl
abbrev s_one_comes : Stmt := topS 30
theorem sc_one_comes : FnScope ["many", "at"] ["many", "at"] (defScope s_one_comes) := ⟨rfl, rfl, rfl, by decide +kernel, rfl, by decide +kernel, by decide +kernel⟩
set_option maxHeartbeats 4000000 in
theorem ok_one_comes  (D : Def K mg "_one_comes" s_one_comes) (C_all_stay : Callee P w K mg base "_all_stay" ["many"] 1 pre_all_stay) (C_with_line : Callee P w K mg base "_with_line" ["lines", "at", "line"] 1 pre_with_line) : Callee P w K mg base "_one_comes" ["many", "at"] 2 pre_one_comes := by
  obtain ⟨f, fd, F, hmg⟩ := D
  obtain ⟨f_all_stay, fd_all_stay, G_all_stay, g_all_stay, kp_all_stay, b_all_stay, _⟩ := C_all_stay
  obtain ⟨f_with_line, fd_with_line, G_with_line, g_with_line, kp_with_line, b_with_line, _⟩ := C_with_line
  refine ⟨f, fd, fn_ok F sc_one_comes len_one_comes fun cdv A outer s H E hr => ⟨_, (pss_one (ps_ret (pe_call G_with_line (hr.mono (by decide)) (by rfl) g_with_line kp_with_line b_with_line .nil pass0 (pa_cons (pe_call G_all_stay (hr.mono (by decide)) (by rfl) g_all_stay kp_all_stay b_all_stay .nil pass0 (pa_cons (pv 0) pa_nil)) (pa_cons (pv 1) (pa_cons pe_int pa_nil)))))), ?_⟩, hmg, F.kp, F.binds fun _ _ _ _ _ _ us hl => match us, hl with | [_, _], _ => rfl, Wk.Fun.lk F⟩
  intro rs O Q h
  obtain ⟨m, k, rfl, hm, hk, q⟩ := h
  show StW K _ O [iV m, iV ((k : Int) + 1)] _
  refine s_ret ?_
  repeat' walk_at "e"
  refine ⟨m, rfl, hm, ?_⟩
  repeat' walk_at "e"
  refine ⟨_, k, _, rfl, by rw [List.length_map, stay_len]; exact hm, hk, ?_⟩
  have e : ((stay m).map PyData.int).take k ++ [PyData.int 0] ++ ((stay m).map PyData.int).drop k = (comes m k).map PyData.int := by
    rw [List.map_append, List.map_append, List.map_take, List.map_drop]
    rfl
  rw [e]
  exact q
def pre_Bench_remove_column (C CC CS CT : Addr) : PreX := fun rs O Q Qx => ∃ (a dx : Addr) (vs : List V) (g : Int) (pd pu : Addr) (n : Nat) (b : List (List Int)) (dn un : List Stp) (O' : Own) (r : Int), rs = [.ad a, iV r] ∧ O = BnI C a dx vs b n g pd pu :: StL pd dn :: StL pu un :: O' ∧ Brd n b ∧ n ≤ 40 ∧ b.length ≤ 40 ∧ dn.length ≤ 1000 ∧ -1000000 ≤ r ∧ r ≤ 1000000 ∧
  (¬ (1 ≤ r ∧ r ≤ n) → Qx CC none O) ∧ (1 ≤ r → r ≤ n → ¬ (2 ≤ n ∧ n ≤ 9) → Qx CS none O) ∧
  (1 ≤ r → r ≤ n → 2 ≤ n → n ≤ 9 → 100 ≤ dn.length → Qx CT none O) ∧
  (∀ k : Nat, r = k + 1 → k < n → 2 ≤ n → n ≤ 9 → dn.length < 100 → ∀ vs2 pu2, Q (.dat .none) (BnI C a dx vs2 (remC b k) (n - 1) (cntB b (remC b k) (n - 1) (stay b.length, goes n k) b.length : Nat) pd pu2 :: StL pd (dn ++ [⟨b, (stay b.length, comes (n - 1) k), remC b k, (stay b.length, goes n k)⟩]) :: StL pu2 [] :: O'))
theorem len_Bench_remove_column {C CC CS CT : Addr} (rs : List SD) (O : Own) (Q : SD → Own → Prop) (Qx : Addr → Option (Str × PyData) → Own → Prop) (h : pre_Bench_remove_column C CC CS CT rs O Q Qx) : rs.length = 2 := by
  obtain ⟨a, dx, vs, g, pd, pu, n, b, dn, un, O', r, rfl, _⟩ := h
  rfl
abbrev s_Bench_remove_column : Stmt := inClass (topS 21) 5
theorem sc_Bench_remove_column : FnScope ["self", "at", "rows", "columns", "stay", "board", "row"] ["self", "at"] (defScope s_Bench_remove_column) := ⟨rfl, rfl, rfl, by decide +kernel, rfl, by decide +kernel, by decide +kernel⟩
set_option maxHeartbeats 4000000 in
theorem ok_Bench_remove_column  {C_Bench : Addr} {C_NoSuchColumn : Addr} {C_TooManyChanges : Addr} {C_WrongSize : Addr} (D : DefM K C_Bench "remove_column" "Bench.remove_column" s_Bench_remove_column) (C_Bench_size : CalleeM P w K mg base C_Bench "_size" ["self"] 1 (pre_Bench_size C_Bench)) (C_Bench_change : CalleeMX P w K mg base C_Bench "_change" ["self", "board", "forth", "back"] 7 ((pre_Bench_change C_Bench) C_TooManyChanges)) (C_check_column : CalleeX P w K mg base "_check_column" ["column", "last"] 1 (pre_check_column C_NoSuchColumn)) (C_check_size : CalleeX P w K mg base "_check_size" ["many"] 1 (pre_check_size C_WrongSize)) (C_all_stay : Callee P w K mg base "_all_stay" ["many"] 1 pre_all_stay) (C_without_line : Callee P w K mg base "_without_line" ["lines", "at"] 1 pre_without_line) (C_one_goes : Callee P w K mg base "_one_goes" ["many", "at"] 2 pre_one_goes) (C_one_comes : Callee P w K mg base "_one_comes" ["many", "at"] 2 pre_one_comes) (m_tuple : mg "tuple" = none) (B_Bench : Cls K C_Bench) (na_Bench_board : NoAttr K C_Bench "_board") : CalleeMX P w K mg base C_Bench "remove_column" ["self", "at"] 8 ((pre_Bench_remove_column C_Bench) C_NoSuchColumn C_WrongSize C_TooManyChanges) := by
  obtain ⟨f, fd, F, hmg⟩ := D
  obtain ⟨f_Bench_size, fd_Bench_size, G_Bench_size, m_Bench_size, b_Bench_size⟩ := C_Bench_size
  obtain ⟨f_Bench_change, fd_Bench_change, G_Bench_change, m_Bench_change, b_Bench_change⟩ := C_Bench_change
  obtain ⟨f_check_column, fd_check_column, G_check_column, g_check_column, kp_check_column, b_check_column, _⟩ := C_check_column
  obtain ⟨f_check_size, fd_check_size, G_check_size, g_check_size, kp_check_size, b_check_size, _⟩ := C_check_size
  obtain ⟨f_all_stay, fd_all_stay, G_all_stay, g_all_stay, kp_all_stay, b_all_stay, _⟩ := C_all_stay
  obtain ⟨f_without_line, fd_without_line, G_without_line, g_without_line, kp_without_line, b_without_line, _⟩ := C_without_line
  obtain ⟨f_one_goes, fd_one_goes, G_one_goes, g_one_goes, kp_one_goes, b_one_goes, _⟩ := C_one_goes
  obtain ⟨f_one_comes, fd_one_comes, G_one_comes, g_one_comes, kp_one_comes, b_one_comes, _⟩ := C_one_comes
  refine ⟨f, fd, fnx_ok F sc_Bench_remove_column len_Bench_remove_column fun cdv A outer s H E hr => ⟨_, (pss_cons (ps_asg (peMeth0 (K := K) B_Bench m_Bench_size G_Bench_size (hr.mono (by decide)) b_Bench_size (pv 0)) (pgTup K rfl (pgs_cons (pg_name (i := 2) sc_Bench_remove_column.nd rfl (.inl rfl)) (pgs_cons (pg_name (i := 3) sc_Bench_remove_column.nd rfl (.inl rfl)) pgs_nil))))
      (pss_cons (ps_expr (by exact (pe_callS G_check_column (hr.mono (by decide)) (by rfl) g_check_column kp_check_column b_check_column (fun σ => passAt (by exact takes_of rfl rfl rfl rfl : Takes _ (wE E)) σ) (pa_cons (pv 1) (pa_cons (pv 3) pa_nil)))))
      (pss_cons (ps_expr (by exact (pe_callS G_check_size (hr.mono (by decide)) (by rfl) g_check_size kp_check_size b_check_size (fun σ => passAt (by exact takes_of rfl rfl rfl rfl : Takes _ (wE E)) σ) (pa_cons (pe_op op_sub (pv 3) pe_int) pa_nil))))
      (pss_cons (ps_set (i := 4) sc_Bench_remove_column.nd rfl (.inl rfl) (pe_call G_all_stay (hr.mono (by decide)) (by rfl) g_all_stay kp_all_stay b_all_stay .nil pass0 (pa_cons (pv 2) pa_nil)))
      (pss_cons (ps_set (i := 5) sc_Bench_remove_column.nd rfl (.inl rfl) (pe_callTy (kTupOf K) (by rfl) m_tuple (by decide +kernel) (pa_cons (pe_lc (own := [("row", 6)]) (g := gName 6) rfl sc_Bench_remove_column.nd (piT K (peFld (K := K) (pv 0))) (blkOk_by (own := [("row", 6)]) (N := ["self", "at", "rows", "columns", "stay", "board", "row"]) (by first | (show blkC _ (defScope s_Bench_remove_column) _ _ = true; decide +kernel) | kernel_rfl | rfl)) (fun _ _ _ _ _ => pg_name (i := 6) sc_Bench_remove_column.nd rfl (by first | exact Or.inl rfl | exact Or.inr rfl)) (fun _ _ _ _ _ => pts_nil) (fun _ _ _ _ _ => (pe_call G_without_line (hr.mono (by decide)) (by rfl) g_without_line kp_without_line b_without_line .nil pass0 (pa_cons (pv 6) (pa_cons (pv 1) pa_nil))))) pa_nil)))
      (pss_one (ps_expr (by exact (peMethS (K := K) B_Bench m_Bench_change G_Bench_change (hr.mono (by decide)) b_Bench_change (fun σ => passAt (by exact takes_of rfl rfl rfl rfl : Takes _ (wE E)) σ) (pv 0) (pa_cons (pv 5) (pa_cons (pe_tup (pa_cons (pv 4) (pa_cons (pe_call G_one_goes (hr.mono (by decide)) (by rfl) g_one_goes kp_one_goes b_one_goes .nil pass0 (pa_cons (pv 3) (pa_cons (pv 1) pa_nil))) pa_nil))) (pa_cons (pe_tup (pa_cons (pv 4) (pa_cons (pe_call G_one_comes (hr.mono (by decide)) (by rfl) g_one_comes kp_one_comes b_one_comes .nil pass0 (pa_cons (pe_op op_sub (pv 3) pe_int) (pa_cons (pv 1) pa_nil))) pa_nil))) pa_nil)))))))))))), ?_⟩, hmg, F.binds fun _ _ _ _ _ _ us hl => match us, hl with | [_, _], _ => rfl⟩
  intro rs O Q Qx h
  obtain ⟨a, dx, vs, g, pd, pu, n, b, dn, un, O', r, rfl, rfl, hb, hn, hbl, hdn, hr1, hr2, qr, qs, qt, q⟩ := h
  show StW K _ _ [.ad a, iV r, .non, .non, .non, .non, .non] _
  refine s_seq (s_unp2 (w_meth ?_))
  repeat' walk_at "e"
  refine ⟨a, dx, _, _, _, rfl, List.mem_cons_self, by decide, w_nil ?_⟩
  refine ⟨a, dx, _, _, _, n, b.length, b, rfl, List.mem_cons_self, rfl, by omega, by omega, ?_⟩
  refine ⟨_, _, rfl, ?_⟩
  refine s_seq (sx_drop (fun Hk hx => hx) (x_call ?_))
  repeat' walk_at "e"
  refine ⟨r, _, rfl, by omega, by omega, by omega, by omega, qr, fun h1 h2 => ?_⟩
  refine s_seq (sx_drop (fun Hk hx => hx) (x_call ?_))
  repeat' walk_at "e"
  refine ⟨_, rfl, by omega, by omega, fun z => qs h1 h2 (by omega), fun h4 h5 => ?_⟩
  have h4 : 2 ≤ n := by omega
  have h5 : n ≤ 9 := by omega
  obtain ⟨k, rfl⟩ : ∃ k : Nat, r = (k : Int) + 1 := ⟨(r - 1).toNat, by omega⟩
  have hk : k < n := by omega
  replace q := q k rfl hk h4 h5
  replace qt := qt h1 h2 h4 h5
  have hlb : (b.map fun c => tI c).length = b.length := List.length_map _
  refine s_seq (s_asg ?_)
  repeat' walk_at "e"
  refine ⟨b.length, rfl, by omega, ?_⟩
  refine s_seq (s_asg (w_cb (w_cons (w_frz (w_lcT ?_)))))
  repeat' walk_at "e"
  refine ⟨by omega, fun i acc O2 => acc = ((remC b k).take i).map (fun c => SD.dat (tI c)) ∧ BnI C_Bench a dx vs b n g pd pu :: StL pd dn :: StL pu un :: O' = O2, ⟨rfl, rfl⟩, fun i d acc O2 hd hl hI => ?_, fun acc O2 Dl hI => ?_⟩
  · obtain ⟨rfl, rfl⟩ := hI
    intro Dl
    repeat' walk_at "e"
    obtain ⟨r, hr, rfl⟩ := map_get hd
    have hrl := (hb.row r (List.mem_of_getElem? hr)).1
    refine ⟨_, k, rfl, by rw [List.length_map]; omega, by omega, ?_⟩
    have e2 : (r.map PyData.int).take k ++ (r.map PyData.int).drop (k + 1) = (r.take k ++ r.drop (k + 1)).map PyData.int := by
      rw [List.map_append, List.map_take, List.map_drop]
    rw [e2]
    have e3 : (remC b k)[i]? = some (r.take k ++ r.drop (k + 1)) := by rw [remC, List.getElem?_map, hr]; rfl
    refine ⟨_, .refl _, ?_, rfl⟩
    rw [List.take_add_one, e3]
    exact (List.map_append (f := fun c => SD.dat (tI c)) (l₁ := (remC b k).take i) (l₂ := [r.take k ++ r.drop (k + 1)])).symm
  obtain ⟨rfl, rfl⟩ := hI
  have ht : (remC b k).take (b.map fun c => tI c).length = remC b k := List.take_of_length_le (by rw [remC_len, hlb]; omega)
  rw [ht]
  refine ⟨Dl, _, (remC b k).map fun c => tI c, _, rfl, .refl _, by rw [show ((remC b k).map fun c => SD.dat (tI c)) = ((remC b k).map fun c => tI c).map SD.dat from by rw [List.map_map]; rfl]; exact Dats.map _, ?_⟩
  repeat' walk_at "e"
  refine sx_drop (fun Hk hx => hx) (x_meth ?_)
  repeat' walk_at "e"
  refine ⟨a, dx, _, _, _, rfl, List.mem_cons_self, by decide, ?_⟩
  repeat' walk_at "e"
  refine ⟨n, k, rfl, by omega, by omega, ?_⟩
  repeat' walk_at "e"
  have e3 : ((n : Int) - 1) = ((n - 1 : Nat) : Int) := by omega
  rw [e3]
  refine ⟨n - 1, k, rfl, by omega, by omega, ?_⟩
  repeat' walk_at "e"
  have hpl := remC_len b k
  refine ⟨a, dx, vs, g, pd, pu, n, b, n - 1, remC b k, (stay b.length, goes n k), (stay b.length, comes (n - 1) k), dn, un, O', rfl, rfl, hb, by omega, by omega, remC_brd hb hk h4, by omega, by omega, ⟨by rw [hpl]; exact stay_len _, goes_len hk, fun u hu => stay_mem hu, fun u hu => goes_mem hu⟩, hdn, qt, fun h vs2 pu2 => ?_⟩
  rw [hpl]
  exact q h vs2 pu2
def pre_check_row (C : Addr) : PreX := fun rs O Q Qx => ∃ r l : Int, rs = [iV r, iV l] ∧ -(2 ^ 60) ≤ r ∧ r ≤ 2 ^ 60 ∧ -1000 ≤ l ∧ l ≤ 1000 ∧ (¬ (1 ≤ r ∧ r ≤ l) → Qx C none O) ∧ (1 ≤ r → r ≤ l → Q (.dat .none) O)
theorem len_check_row {C : Addr} (rs : List SD) (O : Own) (Q : SD → Own → Prop) (Qx : Addr → Option (Str × PyData) → Own → Prop) (h : pre_check_row C rs O Q Qx) : rs.length = 2 := by
  obtain ⟨r, l, rfl, _⟩ := h
  rfl
abbrev s_check_row : Stmt := topS 22
theorem sc_check_row : FnScope ["row", "last"] ["row", "last"] (defScope s_check_row) := ⟨rfl, rfl, rfl, by decide +kernel, rfl, by decide +kernel, by decide +kernel⟩
set_option maxHeartbeats 4000000 in
theorem ok_check_row  {C_NoSuchRow : Addr} (D : Def K mg "_check_row" s_check_row) (N_NoSuchRow : ExN K mg "NoSuchRow" C_NoSuchRow) : CalleeX P w K mg base "_check_row" ["row", "last"] 1 (pre_check_row C_NoSuchRow) := by
  obtain ⟨f, fd, F, hmg⟩ := D
  refine ⟨f, fd, fnx_ok F sc_check_row len_check_row fun cdv A outer s H E hr => ⟨_, (pss_one (ps_if (PW.pt (pw_or (pt_cmpR op_lt (pv 0) pe_int (nomark _)) (pw_or1 (pt_cmpR op_gt (pv 0) (pv 1) (nomark _))))) (pss_one (psRz1 (K := K) N_NoSuchRow rfl (by exact takes_of rfl rfl rfl rfl : Takes _ (wE E)) rfl (psFs pe_str (pe_fmt (pv 0))))) pss_nil)), ?_⟩, hmg, F.kp, F.binds fun _ _ _ _ _ _ us hl => match us, hl with | [_, _], _ => rfl, Wk.Fun.lk F⟩
  intro rs O Q Qx h
  obtain ⟨r, l, rfl, hr1, hr2, hl1, hl2, qx, q⟩ := h
  show StW K _ O [iV r, iV l] _
  refine s_if ?_
  repeat' walk_at "e"
  · repeat' walk_at "w"
    exact fun _ => qx fun z => by omega
  · repeat' walk_at "w"
    exact fun _ => qx fun z => by omega
  · refine s_next ?_
    exact q (by omega) (by omega)
def AmOk (xs : List Int) : Prop := ∀ v ∈ xs, 0 ≤ v ∧ v ≤ 1000
def pre_check_amounts (C : Addr) : PreX := fun rs O Q Qx => ∃ (xs : List Int) (k : Nat), rs = [.dat (tI xs), iV k] ∧ xs.length ≤ 1000 ∧ k ≤ 1000 ∧ (∀ v ∈ xs, -(2 ^ 60) ≤ v ∧ v ≤ 2 ^ 60) ∧ (¬ (xs.length = k ∧ AmOk xs) → Qx C none O) ∧ (xs.length = k → AmOk xs → Q (.dat .none) O)
theorem len_check_amounts {C : Addr} (rs : List SD) (O : Own) (Q : SD → Own → Prop) (Qx : Addr → Option (Str × PyData) → Own → Prop) (h : pre_check_amounts C rs O Q Qx) : rs.length = 2 := by
  obtain ⟨xs, k, rfl, _⟩ := h
  rfl
abbrev s_check_amounts : Stmt := topS 24
theorem sc_check_amounts : FnScope ["amounts", "needed", "amount"] ["amounts", "needed"] (defScope s_check_amounts) := ⟨rfl, rfl, rfl, by decide +kernel, rfl, by decide +kernel, by decide +kernel⟩
set_option maxHeartbeats 4000000 in
theorem ok_check_amounts  {C_WrongAmounts : Addr} (D : Def K mg "_check_amounts" s_check_amounts) (m_len : mg "len" = none) (N_WrongAmounts : ExN K mg "WrongAmounts" C_WrongAmounts) {t_GREATEST_AMOUNT : Tok} (m_GREATEST_AMOUNT : mg "GREATEST_AMOUNT" = some (.int 1000 t_GREATEST_AMOUNT)) : CalleeX P w K mg base "_check_amounts" ["amounts", "needed"] 1 (pre_check_amounts C_WrongAmounts) := by
  obtain ⟨f, fd, F, hmg⟩ := D
  refine ⟨f, fd, fnx_ok F sc_check_amounts len_check_amounts fun cdv A outer s H E hr => ⟨_, (pss_cons (ps_if (pt_cmpR op_ne (pe_callB (kLen K) (by rfl) m_len PySem.boot_len (pa_cons (pv 0) pa_nil)) (pv 1) (nomark _)) (pss_one (psRz1 (K := K) N_WrongAmounts rfl (by exact takes_of rfl rfl rfl rfl : Takes _ (wE E)) rfl (psJf (.cons (pe_fmt (pv 1)) (.cons pe_str (.cons (pe_fmt (pe_callB (kLen K) (by rfl) m_len PySem.boot_len (pa_cons (pv 0) pa_nil))) .nil)))))) pss_nil)
      (pss_one (ps_for (passes_of rfl) rfl (piT K (pv 0)) (pg_name (i := 2) sc_check_amounts.nd rfl (.inl rfl)) (pss_one (ps_if (PW.pt (pw_or (pt_cmpR op_lt (pv 2) pe_int (nomark _)) (pw_or1 (pt_cmpR op_gt (pv 2) (pe_glob (v := .int 1000) rfl m_GREATEST_AMOUNT ⟨_, rfl⟩) (nomark _))))) (pss_one (psRz1 (K := K) N_WrongAmounts rfl (by exact takes_of rfl rfl rfl rfl : Takes _ (wE E)) rfl (psFs pe_str (pe_fmt (pv 2))))) pss_nil))))), ?_⟩, hmg, F.kp, F.binds fun _ _ _ _ _ _ us hl => match us, hl with | [_, _], _ => rfl, Wk.Fun.lk F⟩
  intro rs O Q Qx h
  obtain ⟨xs, k, rfl, hx, hk, hb, qx, q⟩ := h
  show StW K _ O [.dat (tI xs), iV k, .non] _
  have hml : (xs.map PyData.int).length ≤ 1000 := by rw [List.length_map]; exact hx
  refine s_seq (s_if ?_)
  repeat' walk_at "e"
  · rename_i hd
    rw [List.length_map] at hd
    repeat' walk_at "w"
    exact fun _ => qx fun z => by omega
  rename_i hd
  rw [List.length_map] at hd
  refine s_next ?_
  refine s_forT ?_
  repeat' walk_at "e"
  refine ⟨fun i O2 ds2 => ∃ x : SD, O2 = O ∧ (∀ v ∈ xs.take i, 0 ≤ v ∧ v ≤ 1000) ∧ ds2 = [.dat (tI xs), iV k, x], ⟨_, rfl, fun _ h => absurd h List.not_mem_nil, rfl⟩, fun i d O2 ds2 hd hI B hB => ?_, fun O2 ds2 hI => ?_⟩
  · obtain ⟨x, rfl, hp, rfl⟩ := hI
    obtain ⟨v, hv, rfl⟩ := map_get hd
    have hvm := List.mem_of_getElem? hv
    have hvb := hb v hvm
    refine s_if ?_
    repeat' walk_at "e"
    · refine s_rz1 (fun Hk hx => hB.xt Hk hx) ?_
      repeat' walk_at "e"
      exact fun _ => qx fun z => by have := z.2 v hvm; omega
    · refine s_rz1 (fun Hk hx => hB.xt Hk hx) ?_
      repeat' walk_at "e"
      exact fun _ => qx fun z => by have := z.2 v hvm; omega
    · refine s_next ?_
      refine hB.nx _ _ ⟨_, rfl, fun u hu => ?_, rfl⟩
      rw [take_next hv] at hu
      rcases List.mem_append.mp hu with h | h
      · exact hp u h
      · rw [List.mem_singleton.mp h]
        omega
  · obtain ⟨x, rfl, hp, rfl⟩ := hI
    rw [List.length_map, List.take_length] at hp
    exact q (by omega) hp
def pre_replaced : Pre := fun rs O Q => ∃ (es : List PyData) (k : Nat) (d : PyData), rs = [.dat (.tuple es), iV ((k : Int) + 1), .dat d] ∧ es.length ≤ 1000 ∧ k ≤ 1000 ∧ Q (.dat (.tuple (es.take k ++ [d] ++ es.drop (k + 1)))) O
theorem len_replaced (rs : List SD) (O : Own) (Q : SD → Own → Prop) (h : pre_replaced rs O Q) : rs.length = 3 := by
  obtain ⟨es, k, d, rfl, _⟩ := h
  rfl
abbrev s_replaced : Stmt := topS 26
theorem sc_replaced : FnScope ["lines", "at", "line"] ["lines", "at", "line"] (defScope s_replaced) := ⟨rfl, rfl, rfl, by decide +kernel, rfl, by decide +kernel, by decide +kernel⟩
set_option maxHeartbeats 4000000 in
theorem ok_replaced  (D : Def K mg "_replaced" s_replaced) : Callee P w K mg base "_replaced" ["lines", "at", "line"] 1 pre_replaced := by
  obtain ⟨f, fd, F, hmg⟩ := D
  refine ⟨f, fd, fn_ok F sc_replaced len_replaced fun cdv A outer s H E hr => ⟨_, (pss_one (ps_ret (pe_op (kCatT K) (pe_op (kCatT K) (pe_slice (slT K) (pv 0) po_none (po_some (pe_op op_sub (pv 1) pe_int))) (pe_tup (pa_cons (pv 2) pa_nil))) (pe_slice (slT K) (pv 0) (po_some (pv 1)) po_none)))), ?_⟩, hmg, F.kp, F.binds fun _ _ _ _ _ _ us hl => match us, hl with | [_, _, _], _ => rfl, Wk.Fun.lk F⟩
  intro rs O Q h
  obtain ⟨es, k, d, rfl, hl, hk, q⟩ := h
  show StW K _ O [.dat (.tuple es), iV ((k : Int) + 1), .dat d] _
  have c1 : ∀ a b, (cut es a b).length ≤ 1000 := fun a b => Nat.le_trans (cut_len ..) hl
  have c2 := c1 none (some ((k : Int) + 1 - 1))
  have c3 := c1 (some ((k : Int) + 1 - 1)) none
  have c4 := c1 (some ((k : Int) + 1)) none
  refine s_ret ?_
  repeat' walk_at "e"
  rw [cut_hi _ (by omega), cut_lo _ (by omega), show ((k : Int) + 1 - 1).toNat = k by omega, show ((k : Int) + 1).toNat = k + 1 by omega]
  exact q
def pre_Bench_put (C CR CC CA CT : Addr) : PreX := fun rs O Q Qx => ∃ (a dx : Addr) (vs : List V) (g : Int) (pd pu : Addr) (n : Nat) (b : List (List Int)) (dn un : List Stp) (O' : Own) (r c v : Int), rs = [.ad a, iV r, iV c, iV v] ∧ O = BnI C a dx vs b n g pd pu :: StL pd dn :: StL pu un :: O' ∧ Brd n b ∧ n ≤ 50 ∧ b.length ≤ 50 ∧ dn.length ≤ 1000 ∧ -1000000 ≤ r ∧ r ≤ 1000000 ∧ -1000000 ≤ c ∧ c ≤ 1000000 ∧ -1000000 ≤ v ∧ v ≤ 1000000 ∧
  (¬ (1 ≤ r ∧ r ≤ b.length) → Qx CR none O) ∧ (1 ≤ r → r ≤ b.length → ¬ (1 ≤ c ∧ c ≤ n) → Qx CC none O) ∧ (1 ≤ r → r ≤ b.length → 1 ≤ c → c ≤ n → ¬ (0 ≤ v ∧ v ≤ 1000) → Qx CA none O) ∧
  (1 ≤ r → r ≤ b.length → 1 ≤ c → c ≤ n → 0 ≤ v → v ≤ 1000 → 100 ≤ dn.length → Qx CT none O) ∧
  (∀ i j : Nat, r = i + 1 → c = j + 1 → i < b.length → j < n → 0 ≤ v → v ≤ 1000 → dn.length < 100 → ∀ vs2 pu2, Q (.dat .none) (BnI C a dx vs2 (putB b i j v) n (cntB b (putB b i j v) n (stay b.length, stay n) b.length : Nat) pd pu2 :: StL pd (dn ++ [⟨b, (stay b.length, stay n), putB b i j v, (stay b.length, stay n)⟩]) :: StL pu2 [] :: O'))
theorem len_Bench_put {C CR CC CA CT : Addr} (rs : List SD) (O : Own) (Q : SD → Own → Prop) (Qx : Addr → Option (Str × PyData) → Own → Prop) (h : pre_Bench_put C CR CC CA CT rs O Q Qx) : rs.length = 4 := by
  obtain ⟨a, dx, vs, g, pd, pu, n, b, dn, un, O', r, c, v, rfl, _⟩ := h
  rfl
abbrev s_Bench_put : Stmt := inClass (topS 21) 1
theorem sc_Bench_put : FnScope ["self", "row", "column", "amount", "rows", "columns", "changed", "board", "way"] ["self", "row", "column", "amount"] (defScope s_Bench_put) := ⟨rfl, rfl, rfl, by decide +kernel, rfl, by decide +kernel, by decide +kernel⟩
set_option maxHeartbeats 4000000 in
theorem ok_Bench_put  {C_Bench : Addr} {C_NoSuchColumn : Addr} {C_NoSuchRow : Addr} {C_TooManyChanges : Addr} {C_WrongAmounts : Addr} (D : DefM K C_Bench "put" "Bench.put" s_Bench_put) (C_Bench_size : CalleeM P w K mg base C_Bench "_size" ["self"] 1 (pre_Bench_size C_Bench)) (C_Bench_change : CalleeMX P w K mg base C_Bench "_change" ["self", "board", "forth", "back"] 7 ((pre_Bench_change C_Bench) C_TooManyChanges)) (C_check_column : CalleeX P w K mg base "_check_column" ["column", "last"] 1 (pre_check_column C_NoSuchColumn)) (C_all_stay : Callee P w K mg base "_all_stay" ["many"] 1 pre_all_stay) (C_check_row : CalleeX P w K mg base "_check_row" ["row", "last"] 1 (pre_check_row C_NoSuchRow)) (C_check_amounts : CalleeX P w K mg base "_check_amounts" ["amounts", "needed"] 1 (pre_check_amounts C_WrongAmounts)) (C_replaced : Callee P w K mg base "_replaced" ["lines", "at", "line"] 1 pre_replaced) (B_Bench : Cls K C_Bench) (na_Bench_board : NoAttr K C_Bench "_board") : CalleeMX P w K mg base C_Bench "put" ["self", "row", "column", "amount"] 8 ((pre_Bench_put C_Bench) C_NoSuchRow C_NoSuchColumn C_WrongAmounts C_TooManyChanges) := by
  obtain ⟨f, fd, F, hmg⟩ := D
  obtain ⟨f_Bench_size, fd_Bench_size, G_Bench_size, m_Bench_size, b_Bench_size⟩ := C_Bench_size
  obtain ⟨f_Bench_change, fd_Bench_change, G_Bench_change, m_Bench_change, b_Bench_change⟩ := C_Bench_change
  obtain ⟨f_check_column, fd_check_column, G_check_column, g_check_column, kp_check_column, b_check_column, _⟩ := C_check_column
  obtain ⟨f_all_stay, fd_all_stay, G_all_stay, g_all_stay, kp_all_stay, b_all_stay, _⟩ := C_all_stay
  obtain ⟨f_check_row, fd_check_row, G_check_row, g_check_row, kp_check_row, b_check_row, _⟩ := C_check_row
  obtain ⟨f_check_amounts, fd_check_amounts, G_check_amounts, g_check_amounts, kp_check_amounts, b_check_amounts, _⟩ := C_check_amounts
  obtain ⟨f_replaced, fd_replaced, G_replaced, g_replaced, kp_replaced, b_replaced, _⟩ := C_replaced
  refine ⟨f, fd, fnx_ok F sc_Bench_put len_Bench_put fun cdv A outer s H E hr => ⟨_, (pss_cons (ps_asg (peMeth0 (K := K) B_Bench m_Bench_size G_Bench_size (hr.mono (by decide)) b_Bench_size (pv 0)) (pgTup K rfl (pgs_cons (pg_name (i := 4) sc_Bench_put.nd rfl (.inl rfl)) (pgs_cons (pg_name (i := 5) sc_Bench_put.nd rfl (.inl rfl)) pgs_nil))))
      (pss_cons (ps_expr (by exact (pe_callS G_check_row (hr.mono (by decide)) (by rfl) g_check_row kp_check_row b_check_row (fun σ => passAt (by exact takes_of rfl rfl rfl rfl : Takes _ (wE E)) σ) (pa_cons (pv 1) (pa_cons (pv 4) pa_nil)))))
      (pss_cons (ps_expr (by exact (pe_callS G_check_column (hr.mono (by decide)) (by rfl) g_check_column kp_check_column b_check_column (fun σ => passAt (by exact takes_of rfl rfl rfl rfl : Takes _ (wE E)) σ) (pa_cons (pv 2) (pa_cons (pv 5) pa_nil)))))
      (pss_cons (ps_expr (by exact (pe_callS G_check_amounts (hr.mono (by decide)) (by rfl) g_check_amounts kp_check_amounts b_check_amounts (fun σ => passAt (by exact takes_of rfl rfl rfl rfl : Takes _ (wE E)) σ) (pa_cons (pe_tup (pa_cons (pv 3) pa_nil)) (pa_cons pe_int pa_nil)))))
      (pss_cons (ps_set (i := 6) sc_Bench_put.nd rfl (.inl rfl) (pe_call G_replaced (hr.mono (by decide)) (by rfl) g_replaced kp_replaced b_replaced .nil pass0 (pa_cons (pe_ix (ixT K) (peFld (K := K) (pv 0)) (pe_op op_sub (pv 1) pe_int) (fun _ _ => rfl)) (pa_cons (pv 2) (pa_cons (pv 3) pa_nil)))))
      (pss_cons (ps_set (i := 7) sc_Bench_put.nd rfl (.inl rfl) (pe_call G_replaced (hr.mono (by decide)) (by rfl) g_replaced kp_replaced b_replaced .nil pass0 (pa_cons (peFld (K := K) (pv 0)) (pa_cons (pv 1) (pa_cons (pv 6) pa_nil)))))
      (pss_cons (ps_set (i := 8) sc_Bench_put.nd rfl (.inl rfl) (pe_tup (pa_cons (pe_call G_all_stay (hr.mono (by decide)) (by rfl) g_all_stay kp_all_stay b_all_stay .nil pass0 (pa_cons (pv 4) pa_nil)) (pa_cons (pe_call G_all_stay (hr.mono (by decide)) (by rfl) g_all_stay kp_all_stay b_all_stay .nil pass0 (pa_cons (pv 5) pa_nil)) pa_nil))))
      (pss_one (ps_expr (by exact (peMethS (K := K) B_Bench m_Bench_change G_Bench_change (hr.mono (by decide)) b_Bench_change (fun σ => passAt (by exact takes_of rfl rfl rfl rfl : Takes _ (wE E)) σ) (pv 0) (pa_cons (pv 7) (pa_cons (pv 8) (pa_cons (pv 8) pa_nil)))))))))))))), ?_⟩, hmg, F.binds fun _ _ _ _ _ _ us hl => match us, hl with | [_, _, _, _], _ => rfl⟩
  intro rs O Q Qx h
  obtain ⟨a, dx, vs, g, pd, pu, n, b, dn, un, O', r, c, v, rfl, rfl, hb, hn, hbl, hdn, hr1, hr2, hc1, hc2, hv1, hv2, qr, qc, qa, qt, q⟩ := h
  show StW K _ _ [.ad a, iV r, iV c, iV v, .non, .non, .non, .non, .non] _
  refine s_seq (s_unp2 (w_meth ?_))
  repeat' walk_at "e"
  refine ⟨a, dx, _, _, _, rfl, List.mem_cons_self, by decide, w_nil ?_⟩
  refine ⟨a, dx, _, _, _, n, b.length, b, rfl, List.mem_cons_self, rfl, by omega, by omega, ?_⟩
  refine ⟨_, _, rfl, ?_⟩
  refine s_seq (sx_drop (fun Hk hx => hx) (x_call ?_))
  repeat' walk_at "e"
  refine ⟨r, b.length, rfl, by omega, by omega, by omega, by omega, qr, fun h1 h2 => ?_⟩
  refine s_seq (sx_drop (fun Hk hx => hx) (x_call ?_))
  repeat' walk_at "e"
  refine ⟨c, n, rfl, by omega, by omega, by omega, by omega, fun z => qc h1 h2 z, fun h3 h4 => ?_⟩
  refine s_seq (sx_drop (fun Hk hx => hx) (x_call ?_))
  repeat' walk_at "e"
  refine ⟨[v], 1, rfl, by simp, by decide, fun u hu => by rw [List.mem_singleton.mp hu]; omega, fun z => qa h1 h2 h3 h4 fun y => z ⟨rfl, fun u hu => by rw [List.mem_singleton.mp hu]; exact y⟩, fun _ h5 => ?_⟩
  have h5 := h5 v List.mem_cons_self
  obtain ⟨i, rfl⟩ : ∃ i : Nat, r = (i : Int) + 1 := ⟨(r - 1).toNat, by omega⟩
  obtain ⟨j, rfl⟩ : ∃ j : Nat, c = (j : Int) + 1 := ⟨(c - 1).toNat, by omega⟩
  replace q := q i j rfl rfl (by omega) (by omega) h5.1 h5.2
  replace qt := qt h1 h2 h3 h4 h5.1 h5.2
  have hi : i < b.length := by omega
  have hrow := brd_row hb hi
  have hlb : (b.map fun c => tI c).length = b.length := List.length_map _
  refine s_seq (s_asg ?_)
  repeat' walk_at "e"
  rw [show ((i : Int) + 1 - 1).toNat = i by omega]
  refine ⟨_, j, _, rfl, by rw [List.length_map, hrow.1]; omega, by omega, ?_⟩
  have e1 : ((b.getD i []).map PyData.int).take j ++ [PyData.int v] ++ ((b.getD i []).map PyData.int).drop (j + 1) = ((b.getD i []).set j v).map PyData.int := by
    rw [set_tkd _ _ _ (by rw [List.length_map, hrow.1]; omega), List.map_set]
  rw [e1]
  refine s_seq (s_asg ?_)
  repeat' walk_at "e"
  refine ⟨_, i, _, rfl, by omega, by omega, ?_⟩
  have e2 : (b.map fun c => tI c).take i ++ [tI ((b.getD i []).set j v)] ++ (b.map fun c => tI c).drop (i + 1) = (putB b i j v).map fun c => tI c := by
    rw [set_tkd _ _ _ (by omega), putB, List.map_set]
  rw [e2]
  refine s_seq (s_asg (w_tup ?_))
  repeat' walk_at "e"
  refine ⟨b.length, rfl, by omega, ?_⟩
  repeat' walk_at "e"
  refine ⟨n, rfl, by omega, ?_⟩
  repeat' walk_at "e"
  refine sx_drop (fun Hk hx => hx) (x_meth ?_)
  repeat' walk_at "e"
  refine ⟨a, dx, _, _, _, rfl, List.mem_cons_self, by decide, ?_⟩
  repeat' walk_at "e"
  have hpl : (putB b i j v).length = b.length := List.length_set
  refine ⟨a, dx, vs, g, pd, pu, n, b, n, putB b i j v, (stay b.length, stay n), (stay b.length, stay n), dn, un, O', rfl, rfl, hb, hn, hbl, putB_brd hb hi h5, hn, by omega, ⟨by rw [hpl]; exact stay_len _, stay_len _, fun u hu => stay_mem hu, fun u hu => stay_mem hu⟩, hdn, qt, fun h vs2 pu2 => ?_⟩
  rw [hpl]
  exact q h vs2 pu2
def pre_Bench_insert_row (C CR CA CS CT : Addr) : PreX := fun rs O Q Qx => ∃ (a dx : Addr) (vs : List V) (g : Int) (pd pu : Addr) (n : Nat) (b : List (List Int)) (dn un : List Stp) (O' : Own) (r : Int) (xs : List Int), rs = [.ad a, iV r, .dat (tI xs)] ∧ O = BnI C a dx vs b n g pd pu :: StL pd dn :: StL pu un :: O' ∧ Brd n b ∧ n ≤ 40 ∧ b.length ≤ 40 ∧ dn.length ≤ 1000 ∧ -1000000 ≤ r ∧ r ≤ 1000000 ∧ xs.length ≤ 1000 ∧ (∀ v ∈ xs, -1000000 ≤ v ∧ v ≤ 1000000) ∧
  (¬ (1 ≤ r ∧ r ≤ b.length + 1) → Qx CR none O) ∧ (1 ≤ r → r ≤ b.length + 1 → ¬ (xs.length = n ∧ AmOk xs) → Qx CA none O) ∧ (1 ≤ r → r ≤ b.length + 1 → xs.length = n → AmOk xs → 8 ≤ b.length → Qx CS none O) ∧
  (1 ≤ r → r ≤ b.length + 1 → xs.length = n → AmOk xs → b.length < 8 → 100 ≤ dn.length → Qx CT none O) ∧
  (∀ k : Nat, r = k + 1 → k ≤ b.length → xs.length = n → AmOk xs → b.length < 8 → dn.length < 100 → ∀ vs2 pu2, Q (.dat .none) (BnI C a dx vs2 (insB b k xs) n (cntB b (insB b k xs) n (comes b.length k, stay n) (b.length + 1) : Nat) pd pu2 :: StL pd (dn ++ [⟨b, (goes (b.length + 1) k, stay n), insB b k xs, (comes b.length k, stay n)⟩]) :: StL pu2 [] :: O'))
theorem len_Bench_insert_row {C CR CA CS CT : Addr} (rs : List SD) (O : Own) (Q : SD → Own → Prop) (Qx : Addr → Option (Str × PyData) → Own → Prop) (h : pre_Bench_insert_row C CR CA CS CT rs O Q Qx) : rs.length = 3 := by
  obtain ⟨a, dx, vs, g, pd, pu, n, b, dn, un, O', r, xs, rfl, _⟩ := h
  rfl
abbrev s_Bench_insert_row : Stmt := inClass (topS 21) 2
theorem sc_Bench_insert_row : FnScope ["self", "at", "amounts", "rows", "columns", "stay", "board"] ["self", "at", "amounts"] (defScope s_Bench_insert_row) := ⟨rfl, rfl, rfl, by decide +kernel, rfl, by decide +kernel, by decide +kernel⟩
set_option maxHeartbeats 4000000 in
theorem ok_Bench_insert_row  {C_Bench : Addr} {C_NoSuchRow : Addr} {C_TooManyChanges : Addr} {C_WrongAmounts : Addr} {C_WrongSize : Addr} (D : DefM K C_Bench "insert_row" "Bench.insert_row" s_Bench_insert_row) (C_Bench_size : CalleeM P w K mg base C_Bench "_size" ["self"] 1 (pre_Bench_size C_Bench)) (C_Bench_change : CalleeMX P w K mg base C_Bench "_change" ["self", "board", "forth", "back"] 7 ((pre_Bench_change C_Bench) C_TooManyChanges)) (C_check_size : CalleeX P w K mg base "_check_size" ["many"] 1 (pre_check_size C_WrongSize)) (C_all_stay : Callee P w K mg base "_all_stay" ["many"] 1 pre_all_stay) (C_one_goes : Callee P w K mg base "_one_goes" ["many", "at"] 2 pre_one_goes) (C_with_line : Callee P w K mg base "_with_line" ["lines", "at", "line"] 1 pre_with_line) (C_one_comes : Callee P w K mg base "_one_comes" ["many", "at"] 2 pre_one_comes) (C_check_row : CalleeX P w K mg base "_check_row" ["row", "last"] 1 (pre_check_row C_NoSuchRow)) (C_check_amounts : CalleeX P w K mg base "_check_amounts" ["amounts", "needed"] 1 (pre_check_amounts C_WrongAmounts)) (B_Bench : Cls K C_Bench) (na_Bench_board : NoAttr K C_Bench "_board") : CalleeMX P w K mg base C_Bench "insert_row" ["self", "at", "amounts"] 8 ((pre_Bench_insert_row C_Bench) C_NoSuchRow C_WrongAmounts C_WrongSize C_TooManyChanges) := by
  obtain ⟨f, fd, F, hmg⟩ := D
  obtain ⟨f_Bench_size, fd_Bench_size, G_Bench_size, m_Bench_size, b_Bench_size⟩ := C_Bench_size
  obtain ⟨f_Bench_change, fd_Bench_change, G_Bench_change, m_Bench_change, b_Bench_change⟩ := C_Bench_change
  obtain ⟨f_check_size, fd_check_size, G_check_size, g_check_size, kp_check_size, b_check_size, _⟩ := C_check_size
  obtain ⟨f_all_stay, fd_all_stay, G_all_stay, g_all_stay, kp_all_stay, b_all_stay, _⟩ := C_all_stay
  obtain ⟨f_one_goes, fd_one_goes, G_one_goes, g_one_goes, kp_one_goes, b_one_goes, _⟩ := C_one_goes
  obtain ⟨f_with_line, fd_with_line, G_with_line, g_with_line, kp_with_line, b_with_line, _⟩ := C_with_line
  obtain ⟨f_one_comes, fd_one_comes, G_one_comes, g_one_comes, kp_one_comes, b_one_comes, _⟩ := C_one_comes
  obtain ⟨f_check_row, fd_check_row, G_check_row, g_check_row, kp_check_row, b_check_row, _⟩ := C_check_row
  obtain ⟨f_check_amounts, fd_check_amounts, G_check_amounts, g_check_amounts, kp_check_amounts, b_check_amounts, _⟩ := C_check_amounts
  refine ⟨f, fd, fnx_ok F sc_Bench_insert_row len_Bench_insert_row fun cdv A outer s H E hr => ⟨_, (pss_cons (ps_asg (peMeth0 (K := K) B_Bench m_Bench_size G_Bench_size (hr.mono (by decide)) b_Bench_size (pv 0)) (pgTup K rfl (pgs_cons (pg_name (i := 3) sc_Bench_insert_row.nd rfl (.inl rfl)) (pgs_cons (pg_name (i := 4) sc_Bench_insert_row.nd rfl (.inl rfl)) pgs_nil))))
      (pss_cons (ps_expr (by exact (pe_callS G_check_row (hr.mono (by decide)) (by rfl) g_check_row kp_check_row b_check_row (fun σ => passAt (by exact takes_of rfl rfl rfl rfl : Takes _ (wE E)) σ) (pa_cons (pv 1) (pa_cons (pe_op op_add (pv 3) pe_int) pa_nil)))))
      (pss_cons (ps_expr (by exact (pe_callS G_check_amounts (hr.mono (by decide)) (by rfl) g_check_amounts kp_check_amounts b_check_amounts (fun σ => passAt (by exact takes_of rfl rfl rfl rfl : Takes _ (wE E)) σ) (pa_cons (pv 2) (pa_cons (pv 4) pa_nil)))))
      (pss_cons (ps_expr (by exact (pe_callS G_check_size (hr.mono (by decide)) (by rfl) g_check_size kp_check_size b_check_size (fun σ => passAt (by exact takes_of rfl rfl rfl rfl : Takes _ (wE E)) σ) (pa_cons (pe_op op_add (pv 3) pe_int) pa_nil))))
      (pss_cons (ps_set (i := 5) sc_Bench_insert_row.nd rfl (.inl rfl) (pe_call G_all_stay (hr.mono (by decide)) (by rfl) g_all_stay kp_all_stay b_all_stay .nil pass0 (pa_cons (pv 4) pa_nil)))
      (pss_cons (ps_set (i := 6) sc_Bench_insert_row.nd rfl (.inl rfl) (pe_call G_with_line (hr.mono (by decide)) (by rfl) g_with_line kp_with_line b_with_line .nil pass0 (pa_cons (peFld (K := K) (pv 0)) (pa_cons (pv 1) (pa_cons (pv 2) pa_nil)))))
      (pss_one (ps_expr (by exact (peMethS (K := K) B_Bench m_Bench_change G_Bench_change (hr.mono (by decide)) b_Bench_change (fun σ => passAt (by exact takes_of rfl rfl rfl rfl : Takes _ (wE E)) σ) (pv 0) (pa_cons (pv 6) (pa_cons (pe_tup (pa_cons (pe_call G_one_comes (hr.mono (by decide)) (by rfl) g_one_comes kp_one_comes b_one_comes .nil pass0 (pa_cons (pv 3) (pa_cons (pv 1) pa_nil))) (pa_cons (pv 5) pa_nil))) (pa_cons (pe_tup (pa_cons (pe_call G_one_goes (hr.mono (by decide)) (by rfl) g_one_goes kp_one_goes b_one_goes .nil pass0 (pa_cons (pe_op op_add (pv 3) pe_int) (pa_cons (pv 1) pa_nil))) (pa_cons (pv 5) pa_nil))) pa_nil))))))))))))), ?_⟩, hmg, F.binds fun _ _ _ _ _ _ us hl => match us, hl with | [_, _, _], _ => rfl⟩
  intro rs O Q Qx h
  obtain ⟨a, dx, vs, g, pd, pu, n, b, dn, un, O', r, xs, rfl, rfl, hb, hn, hbl, hdn, hr1, hr2, hxl, hxb, qr, qa, qs, qt, q⟩ := h
  show StW K _ _ [.ad a, iV r, .dat (tI xs), .non, .non, .non, .non] _
  refine s_seq (s_unp2 (w_meth ?_))
  repeat' walk_at "e"
  refine ⟨a, dx, _, _, _, rfl, List.mem_cons_self, by decide, w_nil ?_⟩
  refine ⟨a, dx, _, _, _, n, b.length, b, rfl, List.mem_cons_self, rfl, by omega, by omega, ?_⟩
  refine ⟨_, _, rfl, ?_⟩
  refine s_seq (sx_drop (fun Hk hx => hx) (x_call ?_))
  repeat' walk_at "e"
  refine ⟨r, _, rfl, by omega, by omega, by omega, by omega, qr, fun h1 h2 => ?_⟩
  refine s_seq (sx_drop (fun Hk hx => hx) (x_call ?_))
  repeat' walk_at "e"
  refine ⟨xs, n, rfl, by omega, by omega, fun u hu => by have := hxb u hu; omega, fun z => qa h1 h2 z, fun h3 h4 => ?_⟩
  refine s_seq (sx_drop (fun Hk hx => hx) (x_call ?_))
  repeat' walk_at "e"
  refine ⟨_, rfl, by omega, by omega, fun z => qs h1 h2 h3 h4 (by omega), fun _ h5 => ?_⟩
  have h5 : b.length < 8 := by omega
  obtain ⟨k, rfl⟩ : ∃ k : Nat, r = (k : Int) + 1 := ⟨(r - 1).toNat, by omega⟩
  replace q := q k rfl (by omega) h3 h4 h5
  replace qt := qt h1 h2 h3 h4 h5
  have hlb : (b.map fun c => tI c).length = b.length := List.length_map _
  refine s_seq (s_asg ?_)
  repeat' walk_at "e"
  refine ⟨n, rfl, by omega, ?_⟩
  refine s_seq (s_asg ?_)
  repeat' walk_at "e"
  refine ⟨_, k, _, rfl, by omega, by omega, ?_⟩
  have e2 : (b.map fun c => tI c).take k ++ [tI xs] ++ (b.map fun c => tI c).drop k = (insB b k xs).map fun c => tI c := by
    rw [insB, List.map_append, List.map_append, List.map_take, List.map_drop]
    rfl
  rw [e2]
  refine sx_drop (fun Hk hx => hx) (x_meth ?_)
  repeat' walk_at "e"
  refine ⟨a, dx, _, _, _, rfl, List.mem_cons_self, by decide, ?_⟩
  repeat' walk_at "e"
  refine ⟨b.length, k, rfl, by omega, by omega, ?_⟩
  repeat' walk_at "e"
  refine ⟨b.length + 1, k, rfl, by omega, by omega, ?_⟩
  repeat' walk_at "e"
  have hpl := insB_len b k xs
  refine ⟨a, dx, vs, g, pd, pu, n, b, n, insB b k xs, (comes b.length k, stay n), (goes (b.length + 1) k, stay n), dn, un, O', rfl, rfl, hb, by omega, by omega, insB_brd hb h3 h4, by omega, by omega, ⟨by rw [hpl]; exact comes_len _ _, stay_len _, fun u hu => comes_mem hu, fun u hu => stay_mem hu⟩, hdn, qt, fun h vs2 pu2 => ?_⟩
  rw [hpl]
  exact q h vs2 pu2
def pre_Bench_remove_row (C CR CS CT : Addr) : PreX := fun rs O Q Qx => ∃ (a dx : Addr) (vs : List V) (g : Int) (pd pu : Addr) (n : Nat) (b : List (List Int)) (dn un : List Stp) (O' : Own) (r : Int), rs = [.ad a, iV r] ∧ O = BnI C a dx vs b n g pd pu :: StL pd dn :: StL pu un :: O' ∧ Brd n b ∧ n ≤ 40 ∧ b.length ≤ 40 ∧ dn.length ≤ 1000 ∧ -1000000 ≤ r ∧ r ≤ 1000000 ∧
  (¬ (1 ≤ r ∧ r ≤ b.length) → Qx CR none O) ∧ (1 ≤ r → r ≤ b.length → ¬ (2 ≤ b.length ∧ b.length ≤ 9) → Qx CS none O) ∧
  (1 ≤ r → r ≤ b.length → 2 ≤ b.length → b.length ≤ 9 → 100 ≤ dn.length → Qx CT none O) ∧
  (∀ k : Nat, r = k + 1 → k < b.length → 2 ≤ b.length → b.length ≤ 9 → dn.length < 100 → ∀ vs2 pu2, Q (.dat .none) (BnI C a dx vs2 (remB b k) n (cntB b (remB b k) n (goes b.length k, stay n) (b.length - 1) : Nat) pd pu2 :: StL pd (dn ++ [⟨b, (comes (b.length - 1) k, stay n), remB b k, (goes b.length k, stay n)⟩]) :: StL pu2 [] :: O'))
theorem len_Bench_remove_row {C CR CS CT : Addr} (rs : List SD) (O : Own) (Q : SD → Own → Prop) (Qx : Addr → Option (Str × PyData) → Own → Prop) (h : pre_Bench_remove_row C CR CS CT rs O Q Qx) : rs.length = 2 := by
  obtain ⟨a, dx, vs, g, pd, pu, n, b, dn, un, O', r, rfl, _⟩ := h
  rfl
abbrev s_Bench_remove_row : Stmt := inClass (topS 21) 3
theorem sc_Bench_remove_row : FnScope ["self", "at", "rows", "columns", "stay", "board"] ["self", "at"] (defScope s_Bench_remove_row) := ⟨rfl, rfl, rfl, by decide +kernel, rfl, by decide +kernel, by decide +kernel⟩
set_option maxHeartbeats 4000000 in
theorem ok_Bench_remove_row  {C_Bench : Addr} {C_NoSuchRow : Addr} {C_TooManyChanges : Addr} {C_WrongSize : Addr} (D : DefM K C_Bench "remove_row" "Bench.remove_row" s_Bench_remove_row) (C_Bench_size : CalleeM P w K mg base C_Bench "_size" ["self"] 1 (pre_Bench_size C_Bench)) (C_Bench_change : CalleeMX P w K mg base C_Bench "_change" ["self", "board", "forth", "back"] 7 ((pre_Bench_change C_Bench) C_TooManyChanges)) (C_check_size : CalleeX P w K mg base "_check_size" ["many"] 1 (pre_check_size C_WrongSize)) (C_all_stay : Callee P w K mg base "_all_stay" ["many"] 1 pre_all_stay) (C_without_line : Callee P w K mg base "_without_line" ["lines", "at"] 1 pre_without_line) (C_one_goes : Callee P w K mg base "_one_goes" ["many", "at"] 2 pre_one_goes) (C_one_comes : Callee P w K mg base "_one_comes" ["many", "at"] 2 pre_one_comes) (C_check_row : CalleeX P w K mg base "_check_row" ["row", "last"] 1 (pre_check_row C_NoSuchRow)) (B_Bench : Cls K C_Bench) (na_Bench_board : NoAttr K C_Bench "_board") : CalleeMX P w K mg base C_Bench "remove_row" ["self", "at"] 8 ((pre_Bench_remove_row C_Bench) C_NoSuchRow C_WrongSize C_TooManyChanges) := by
  obtain ⟨f, fd, F, hmg⟩ := D
  obtain ⟨f_Bench_size, fd_Bench_size, G_Bench_size, m_Bench_size, b_Bench_size⟩ := C_Bench_size
  obtain ⟨f_Bench_change, fd_Bench_change, G_Bench_change, m_Bench_change, b_Bench_change⟩ := C_Bench_change
  obtain ⟨f_check_size, fd_check_size, G_check_size, g_check_size, kp_check_size, b_check_size, _⟩ := C_check_size
  obtain ⟨f_all_stay, fd_all_stay, G_all_stay, g_all_stay, kp_all_stay, b_all_stay, _⟩ := C_all_stay
  obtain ⟨f_without_line, fd_without_line, G_without_line, g_without_line, kp_without_line, b_without_line, _⟩ := C_without_line
  obtain ⟨f_one_goes, fd_one_goes, G_one_goes, g_one_goes, kp_one_goes, b_one_goes, _⟩ := C_one_goes
  obtain ⟨f_one_comes, fd_one_comes, G_one_comes, g_one_comes, kp_one_comes, b_one_comes, _⟩ := C_one_comes
  obtain ⟨f_check_row, fd_check_row, G_check_row, g_check_row, kp_check_row, b_check_row, _⟩ := C_check_row
  refine ⟨f, fd, fnx_ok F sc_Bench_remove_row len_Bench_remove_row fun cdv A outer s H E hr => ⟨_, (pss_cons (ps_asg (peMeth0 (K := K) B_Bench m_Bench_size G_Bench_size (hr.mono (by decide)) b_Bench_size (pv 0)) (pgTup K rfl (pgs_cons (pg_name (i := 2) sc_Bench_remove_row.nd rfl (.inl rfl)) (pgs_cons (pg_name (i := 3) sc_Bench_remove_row.nd rfl (.inl rfl)) pgs_nil))))
      (pss_cons (ps_expr (by exact (pe_callS G_check_row (hr.mono (by decide)) (by rfl) g_check_row kp_check_row b_check_row (fun σ => passAt (by exact takes_of rfl rfl rfl rfl : Takes _ (wE E)) σ) (pa_cons (pv 1) (pa_cons (pv 2) pa_nil)))))
      (pss_cons (ps_expr (by exact (pe_callS G_check_size (hr.mono (by decide)) (by rfl) g_check_size kp_check_size b_check_size (fun σ => passAt (by exact takes_of rfl rfl rfl rfl : Takes _ (wE E)) σ) (pa_cons (pe_op op_sub (pv 2) pe_int) pa_nil))))
      (pss_cons (ps_set (i := 4) sc_Bench_remove_row.nd rfl (.inl rfl) (pe_call G_all_stay (hr.mono (by decide)) (by rfl) g_all_stay kp_all_stay b_all_stay .nil pass0 (pa_cons (pv 3) pa_nil)))
      (pss_cons (ps_set (i := 5) sc_Bench_remove_row.nd rfl (.inl rfl) (pe_call G_without_line (hr.mono (by decide)) (by rfl) g_without_line kp_without_line b_without_line .nil pass0 (pa_cons (peFld (K := K) (pv 0)) (pa_cons (pv 1) pa_nil))))
      (pss_one (ps_expr (by exact (peMethS (K := K) B_Bench m_Bench_change G_Bench_change (hr.mono (by decide)) b_Bench_change (fun σ => passAt (by exact takes_of rfl rfl rfl rfl : Takes _ (wE E)) σ) (pv 0) (pa_cons (pv 5) (pa_cons (pe_tup (pa_cons (pe_call G_one_goes (hr.mono (by decide)) (by rfl) g_one_goes kp_one_goes b_one_goes .nil pass0 (pa_cons (pv 2) (pa_cons (pv 1) pa_nil))) (pa_cons (pv 4) pa_nil))) (pa_cons (pe_tup (pa_cons (pe_call G_one_comes (hr.mono (by decide)) (by rfl) g_one_comes kp_one_comes b_one_comes .nil pass0 (pa_cons (pe_op op_sub (pv 2) pe_int) (pa_cons (pv 1) pa_nil))) (pa_cons (pv 4) pa_nil))) pa_nil)))))))))))), ?_⟩, hmg, F.binds fun _ _ _ _ _ _ us hl => match us, hl with | [_, _], _ => rfl⟩
  intro rs O Q Qx h
  obtain ⟨a, dx, vs, g, pd, pu, n, b, dn, un, O', r, rfl, rfl, hb, hn, hbl, hdn, hr1, hr2, qr, qs, qt, q⟩ := h
  show StW K _ _ [.ad a, iV r, .non, .non, .non, .non] _
  refine s_seq (s_unp2 (w_meth ?_))
  repeat' walk_at "e"
  refine ⟨a, dx, _, _, _, rfl, List.mem_cons_self, by decide, w_nil ?_⟩
  refine ⟨a, dx, _, _, _, n, b.length, b, rfl, List.mem_cons_self, rfl, by omega, by omega, ?_⟩
  refine ⟨_, _, rfl, ?_⟩
  refine s_seq (sx_drop (fun Hk hx => hx) (x_call ?_))
  repeat' walk_at "e"
  refine ⟨r, _, rfl, by omega, by omega, by omega, by omega, qr, fun h1 h2 => ?_⟩
  refine s_seq (sx_drop (fun Hk hx => hx) (x_call ?_))
  repeat' walk_at "e"
  refine ⟨_, rfl, by omega, by omega, fun z => qs h1 h2 (by omega), fun h4 h5 => ?_⟩
  have h4 : 2 ≤ b.length := by omega
  have h5 : b.length ≤ 9 := by omega
  obtain ⟨k, rfl⟩ : ∃ k : Nat, r = (k : Int) + 1 := ⟨(r - 1).toNat, by omega⟩
  have hk : k < b.length := by omega
  replace q := q k rfl hk h4 h5
  replace qt := qt h1 h2 h4 h5
  have hlb : (b.map fun c => tI c).length = b.length := List.length_map _
  refine s_seq (s_asg ?_)
  repeat' walk_at "e"
  refine ⟨n, rfl, by omega, ?_⟩
  refine s_seq (s_asg ?_)
  repeat' walk_at "e"
  refine ⟨_, k, rfl, by omega, by omega, ?_⟩
  have e2 : (b.map fun c => tI c).take k ++ (b.map fun c => tI c).drop (k + 1) = (remB b k).map fun c => tI c := by
    rw [remB, List.map_append, List.map_take, List.map_drop]
  rw [e2]
  refine sx_drop (fun Hk hx => hx) (x_meth ?_)
  repeat' walk_at "e"
  refine ⟨a, dx, _, _, _, rfl, List.mem_cons_self, by decide, ?_⟩
  repeat' walk_at "e"
  refine ⟨b.length, k, rfl, by omega, by omega, ?_⟩
  repeat' walk_at "e"
  have e3 : ((b.length : Int) - 1) = ((b.length - 1 : Nat) : Int) := by omega
  rw [e3]
  refine ⟨b.length - 1, k, rfl, by omega, by omega, ?_⟩
  repeat' walk_at "e"
  have hpl := remB_len hk
  refine ⟨a, dx, vs, g, pd, pu, n, b, n, remB b k, (goes b.length k, stay n), (comes (b.length - 1) k, stay n), dn, un, O', rfl, rfl, hb, by omega, by omega, remB_brd hb hk h4, by omega, by omega, ⟨by rw [hpl]; exact goes_len hk, stay_len _, fun u hu => goes_mem hu, fun u hu => stay_mem hu⟩, hdn, qt, fun h vs2 pu2 => ?_⟩
  rw [hpl]
  exact q h vs2 pu2
def pre_Bench_insert_column (C CC CA CS CT : Addr) : PreX := fun rs O Q Qx => ∃ (a dx : Addr) (vs : List V) (g : Int) (pd pu : Addr) (n : Nat) (b : List (List Int)) (dn un : List Stp) (O' : Own) (r : Int) (xs : List Int), rs = [.ad a, iV r, .dat (tI xs)] ∧ O = BnI C a dx vs b n g pd pu :: StL pd dn :: StL pu un :: O' ∧ Brd n b ∧ n ≤ 40 ∧ b.length ≤ 40 ∧ dn.length ≤ 1000 ∧ -1000000 ≤ r ∧ r ≤ 1000000 ∧ xs.length ≤ 1000 ∧ (∀ v ∈ xs, -1000000 ≤ v ∧ v ≤ 1000000) ∧
  (¬ (1 ≤ r ∧ r ≤ n + 1) → Qx CC none O) ∧ (1 ≤ r → r ≤ n + 1 → ¬ (xs.length = b.length ∧ AmOk xs) → Qx CA none O) ∧ (1 ≤ r → r ≤ n + 1 → xs.length = b.length → AmOk xs → 8 ≤ n → Qx CS none O) ∧
  (1 ≤ r → r ≤ n + 1 → xs.length = b.length → AmOk xs → n < 8 → 100 ≤ dn.length → Qx CT none O) ∧
  (∀ k : Nat, r = k + 1 → k ≤ n → xs.length = b.length → AmOk xs → n < 8 → dn.length < 100 → ∀ vs2 pu2, Q (.dat .none) (BnI C a dx vs2 (insC b k xs) (n + 1) (cntB b (insC b k xs) (n + 1) (stay b.length, comes n k) b.length : Nat) pd pu2 :: StL pd (dn ++ [⟨b, (stay b.length, goes (n + 1) k), insC b k xs, (stay b.length, comes n k)⟩]) :: StL pu2 [] :: O'))
theorem len_Bench_insert_column {C CC CA CS CT : Addr} (rs : List SD) (O : Own) (Q : SD → Own → Prop) (Qx : Addr → Option (Str × PyData) → Own → Prop) (h : pre_Bench_insert_column C CC CA CS CT rs O Q Qx) : rs.length = 3 := by
  obtain ⟨a, dx, vs, g, pd, pu, n, b, dn, un, O', r, xs, rfl, _⟩ := h
  rfl
abbrev s_Bench_insert_column : Stmt := inClass (topS 21) 4
theorem sc_Bench_insert_column : FnScope ["self", "at", "amounts", "rows", "columns", "stay", "board", "row", "amount"] ["self", "at", "amounts"] (defScope s_Bench_insert_column) := ⟨rfl, rfl, rfl, by decide +kernel, rfl, by decide +kernel, by decide +kernel⟩
set_option maxHeartbeats 4000000 in
theorem ok_Bench_insert_column  {C_Bench : Addr} {C_NoSuchColumn : Addr} {C_TooManyChanges : Addr} {C_WrongAmounts : Addr} {C_WrongSize : Addr} (D : DefM K C_Bench "insert_column" "Bench.insert_column" s_Bench_insert_column) (C_Bench_size : CalleeM P w K mg base C_Bench "_size" ["self"] 1 (pre_Bench_size C_Bench)) (C_Bench_change : CalleeMX P w K mg base C_Bench "_change" ["self", "board", "forth", "back"] 7 ((pre_Bench_change C_Bench) C_TooManyChanges)) (C_check_column : CalleeX P w K mg base "_check_column" ["column", "last"] 1 (pre_check_column C_NoSuchColumn)) (C_check_size : CalleeX P w K mg base "_check_size" ["many"] 1 (pre_check_size C_WrongSize)) (C_all_stay : Callee P w K mg base "_all_stay" ["many"] 1 pre_all_stay) (C_one_goes : Callee P w K mg base "_one_goes" ["many", "at"] 2 pre_one_goes) (C_with_line : Callee P w K mg base "_with_line" ["lines", "at", "line"] 1 pre_with_line) (C_one_comes : Callee P w K mg base "_one_comes" ["many", "at"] 2 pre_one_comes) (C_check_amounts : CalleeX P w K mg base "_check_amounts" ["amounts", "needed"] 1 (pre_check_amounts C_WrongAmounts)) (m_tuple : mg "tuple" = none) (m_zip : mg "zip" = none) (B_Bench : Cls K C_Bench) (na_Bench_board : NoAttr K C_Bench "_board") : CalleeMX P w K mg base C_Bench "insert_column" ["self", "at", "amounts"] 8 ((pre_Bench_insert_column C_Bench) C_NoSuchColumn C_WrongAmounts C_WrongSize C_TooManyChanges) := by
  obtain ⟨f, fd, F, hmg⟩ := D
  obtain ⟨f_Bench_size, fd_Bench_size, G_Bench_size, m_Bench_size, b_Bench_size⟩ := C_Bench_size
  obtain ⟨f_Bench_change, fd_Bench_change, G_Bench_change, m_Bench_change, b_Bench_change⟩ := C_Bench_change
  obtain ⟨f_check_column, fd_check_column, G_check_column, g_check_column, kp_check_column, b_check_column, _⟩ := C_check_column
  obtain ⟨f_check_size, fd_check_size, G_check_size, g_check_size, kp_check_size, b_check_size, _⟩ := C_check_size
  obtain ⟨f_all_stay, fd_all_stay, G_all_stay, g_all_stay, kp_all_stay, b_all_stay, _⟩ := C_all_stay
  obtain ⟨f_one_goes, fd_one_goes, G_one_goes, g_one_goes, kp_one_goes, b_one_goes, _⟩ := C_one_goes
  obtain ⟨f_with_line, fd_with_line, G_with_line, g_with_line, kp_with_line, b_with_line, _⟩ := C_with_line
  obtain ⟨f_one_comes, fd_one_comes, G_one_comes, g_one_comes, kp_one_comes, b_one_comes, _⟩ := C_one_comes
  obtain ⟨f_check_amounts, fd_check_amounts, G_check_amounts, g_check_amounts, kp_check_amounts, b_check_amounts, _⟩ := C_check_amounts
  refine ⟨f, fd, fnx_ok F sc_Bench_insert_column len_Bench_insert_column fun cdv A outer s H E hr => ⟨_, (pss_cons (ps_asg (peMeth0 (K := K) B_Bench m_Bench_size G_Bench_size (hr.mono (by decide)) b_Bench_size (pv 0)) (pgTup K rfl (pgs_cons (pg_name (i := 3) sc_Bench_insert_column.nd rfl (.inl rfl)) (pgs_cons (pg_name (i := 4) sc_Bench_insert_column.nd rfl (.inl rfl)) pgs_nil))))
      (pss_cons (ps_expr (by exact (pe_callS G_check_column (hr.mono (by decide)) (by rfl) g_check_column kp_check_column b_check_column (fun σ => passAt (by exact takes_of rfl rfl rfl rfl : Takes _ (wE E)) σ) (pa_cons (pv 1) (pa_cons (pe_op op_add (pv 4) pe_int) pa_nil)))))
      (pss_cons (ps_expr (by exact (pe_callS G_check_amounts (hr.mono (by decide)) (by rfl) g_check_amounts kp_check_amounts b_check_amounts (fun σ => passAt (by exact takes_of rfl rfl rfl rfl : Takes _ (wE E)) σ) (pa_cons (pv 2) (pa_cons (pv 3) pa_nil)))))
      (pss_cons (ps_expr (by exact (pe_callS G_check_size (hr.mono (by decide)) (by rfl) g_check_size kp_check_size b_check_size (fun σ => passAt (by exact takes_of rfl rfl rfl rfl : Takes _ (wE E)) σ) (pa_cons (pe_op op_add (pv 4) pe_int) pa_nil))))
      (pss_cons (ps_set (i := 5) sc_Bench_insert_column.nd rfl (.inl rfl) (pe_call G_all_stay (hr.mono (by decide)) (by rfl) g_all_stay kp_all_stay b_all_stay .nil pass0 (pa_cons (pv 3) pa_nil)))
      (pss_cons (ps_set (i := 6) sc_Bench_insert_column.nd rfl (.inl rfl) (pe_callTy (kTupOf K) (by rfl) m_tuple (by decide +kernel) (pa_cons (pe_lc (own := [("row", 7), ("amount", 8)]) (g := gTup K 2 (gCons (gName 7) (gCons (gName 8) gNil))) rfl sc_Bench_insert_column.nd (pi_zipT K (by rfl) m_zip (pa_cons (peFld (K := K) (pv 0)) (pa_cons (pv 2) pa_nil))) (blkOk_by (own := [("row", 7), ("amount", 8)]) (N := ["self", "at", "amounts", "rows", "columns", "stay", "board", "row", "amount"]) (by first | (show blkC _ (defScope s_Bench_insert_column) _ _ = true; decide +kernel) | kernel_rfl | rfl)) (fun _ _ _ _ _ => pgTup (n := 2) K rfl (pgs_cons (pg_name (i := 7) sc_Bench_insert_column.nd rfl (by first | exact Or.inl rfl | exact Or.inr rfl)) (pgs_cons (pg_name (i := 8) sc_Bench_insert_column.nd rfl (by first | exact Or.inl rfl | exact Or.inr rfl)) pgs_nil))) (fun _ _ _ _ _ => pts_nil) (fun _ _ _ _ _ => (pe_call G_with_line (hr.mono (by decide)) (by rfl) g_with_line kp_with_line b_with_line .nil pass0 (pa_cons (pv 7) (pa_cons (pv 1) (pa_cons (pv 8) pa_nil)))))) pa_nil)))
      (pss_one (ps_expr (by exact (peMethS (K := K) B_Bench m_Bench_change G_Bench_change (hr.mono (by decide)) b_Bench_change (fun σ => passAt (by exact takes_of rfl rfl rfl rfl : Takes _ (wE E)) σ) (pv 0) (pa_cons (pv 6) (pa_cons (pe_tup (pa_cons (pv 5) (pa_cons (pe_call G_one_comes (hr.mono (by decide)) (by rfl) g_one_comes kp_one_comes b_one_comes .nil pass0 (pa_cons (pv 4) (pa_cons (pv 1) pa_nil))) pa_nil))) (pa_cons (pe_tup (pa_cons (pv 5) (pa_cons (pe_call G_one_goes (hr.mono (by decide)) (by rfl) g_one_goes kp_one_goes b_one_goes .nil pass0 (pa_cons (pe_op op_add (pv 4) pe_int) (pa_cons (pv 1) pa_nil))) pa_nil))) pa_nil))))))))))))), ?_⟩, hmg, F.binds fun _ _ _ _ _ _ us hl => match us, hl with | [_, _, _], _ => rfl⟩
  intro rs O Q Qx h
  obtain ⟨a, dx, vs, g, pd, pu, n, b, dn, un, O', r, xs, rfl, rfl, hb, hn, hbl, hdn, hr1, hr2, hxl, hxb, qr, qa, qs, qt, q⟩ := h
  show StW K _ _ [.ad a, iV r, .dat (tI xs), .non, .non, .non, .non, .non, .non] _
  refine s_seq (s_unp2 (w_meth ?_))
  repeat' walk_at "e"
  refine ⟨a, dx, _, _, _, rfl, List.mem_cons_self, by decide, w_nil ?_⟩
  refine ⟨a, dx, _, _, _, n, b.length, b, rfl, List.mem_cons_self, rfl, by omega, by omega, ?_⟩
  refine ⟨_, _, rfl, ?_⟩
  refine s_seq (sx_drop (fun Hk hx => hx) (x_call ?_))
  repeat' walk_at "e"
  refine ⟨r, _, rfl, by omega, by omega, by omega, by omega, qr, fun h1 h2 => ?_⟩
  refine s_seq (sx_drop (fun Hk hx => hx) (x_call ?_))
  repeat' walk_at "e"
  refine ⟨xs, b.length, rfl, by omega, by omega, fun u hu => by have := hxb u hu; omega, fun z => qa h1 h2 z, fun h3 h4 => ?_⟩
  refine s_seq (sx_drop (fun Hk hx => hx) (x_call ?_))
  repeat' walk_at "e"
  refine ⟨_, rfl, by omega, by omega, fun z => qs h1 h2 h3 h4 (by omega), fun _ h5 => ?_⟩
  have h5 : n < 8 := by omega
  obtain ⟨k, rfl⟩ : ∃ k : Nat, r = (k : Int) + 1 := ⟨(r - 1).toNat, by omega⟩
  replace q := q k rfl (by omega) h3 h4 h5
  replace qt := qt h1 h2 h3 h4 h5
  have hlb : (b.map fun c => tI c).length = b.length := List.length_map _
  have hlx : (xs.map PyData.int).length = b.length := by rw [List.length_map]; exact h3
  refine s_seq (s_asg ?_)
  repeat' walk_at "e"
  refine ⟨b.length, rfl, by omega, ?_⟩
  refine s_seq (s_asg (w_cb (w_cons (w_frz (w_lcZT (by decide) ?_)))))
  repeat' walk_at "e"
  refine ⟨_, _, rfl, by omega, fun i acc O2 => acc = ((insC b k xs).take i).map (fun c => SD.dat (tI c)) ∧ BnI C_Bench a dx vs b n g pd pu :: StL pd dn :: StL pu un :: O' = O2, ⟨rfl, rfl⟩, fun i d e acc O2 hd he hl hI => ?_, fun acc O2 Dl hI => ?_⟩
  · obtain ⟨rfl, rfl⟩ := hI
    intro Dl
    repeat' walk_at "e"
    obtain ⟨r, hr, rfl⟩ := map_get hd
    obtain ⟨x, hx, rfl⟩ := map_get he
    have hrl := (hb.row r (List.mem_of_getElem? hr)).1
    have hib := (List.getElem?_eq_some_iff.mp hr).1
    refine ⟨_, k, _, rfl, by rw [List.length_map]; omega, by omega, ?_⟩
    have e2 : (r.map PyData.int).take k ++ [PyData.int x] ++ (r.map PyData.int).drop k = (r.take k ++ [x] ++ r.drop k).map PyData.int := by
      rw [List.map_append, List.map_append, List.map_take, List.map_drop]
      rfl
    rw [e2]
    have e3 : (insC b k xs)[i]? = some (r.take k ++ [x] ++ r.drop k) := by
      rw [insC, List.getElem?_map, List.getElem?_range hib]
      show some ((b.getD i []).take k ++ [xs.getD i 0] ++ (b.getD i []).drop k) = _
      rw [show b.getD i [] = r by rw [List.getD_eq_getElem?_getD, hr]; rfl, show xs.getD i 0 = x by rw [List.getD_eq_getElem?_getD, hx]; rfl]
    refine ⟨_, .refl _, ?_, rfl⟩
    rw [List.take_add_one, e3]
    exact (List.map_append (f := fun c => SD.dat (tI c)) (l₁ := (insC b k xs).take i) (l₂ := [r.take k ++ [x] ++ r.drop k])).symm
  obtain ⟨rfl, rfl⟩ := hI
  have ht : (insC b k xs).take (min (b.map fun c => tI c).length (xs.map PyData.int).length) = insC b k xs := List.take_of_length_le (by rw [insC_len, hlb, hlx]; omega)
  rw [ht]
  refine ⟨Dl, _, (insC b k xs).map fun c => tI c, _, rfl, .refl _, by rw [show ((insC b k xs).map fun c => SD.dat (tI c)) = ((insC b k xs).map fun c => tI c).map SD.dat from by rw [List.map_map]; rfl]; exact Dats.map _, ?_⟩
  repeat' walk_at "e"
  refine sx_drop (fun Hk hx => hx) (x_meth ?_)
  repeat' walk_at "e"
  refine ⟨a, dx, _, _, _, rfl, List.mem_cons_self, by decide, ?_⟩
  repeat' walk_at "e"
  refine ⟨n, k, rfl, by omega, by omega, ?_⟩
  repeat' walk_at "e"
  refine ⟨n + 1, k, rfl, by omega, by omega, ?_⟩
  repeat' walk_at "e"
  have hpl := insC_len b k xs
  refine ⟨a, dx, vs, g, pd, pu, n, b, n + 1, insC b k xs, (stay b.length, comes n k), (stay b.length, goes (n + 1) k), dn, un, O', rfl, rfl, hb, by omega, by omega, insC_brd hb h3 h4, by omega, by omega, ⟨by rw [hpl]; exact stay_len _, comes_len _ _, fun u hu => stay_mem hu, fun u hu => comes_mem hu⟩, hdn, qt, fun h vs2 pu2 => ?_⟩
  rw [hpl]
  exact q h vs2 pu2
theorem told_ne {d : PyData} {s : String} (h : d = pS s) : d ≠ .none := by
  rw [h]
  exact nn _
def pre_law_do (C CR CC CA CS CT : Addr) : PreX := fun rs O Q Qx => ∃ (a dx : Addr) (vs : List V) (g : Int) (pd pu : Addr) (n : Nat) (b : List (List Int)) (dn un : List Stp) (O' : Own) (c : Chg), rs = [.ad a, .dat (chgD c)] ∧ O.Perm (BnI C a dx vs b n g pd pu :: StL pd dn :: StL pu un :: O') ∧ Brd n b ∧ n ≤ 8 ∧ b.length ≤ 8 ∧ dn.length ≤ 100 ∧ ChgOk c ∧
  (toldD b.length n dn.length c ≠ .none → ∀ E, E ∈ [CR, CC, CA, CS, CT] → Qx E none (BnI C a dx vs b n g pd pu :: StL pd dn :: StL pu un :: O')) ∧
  (toldD b.length n dn.length c = .none → ∀ vs2 pu2, Q (bV true) (BnI C a dx vs2 (afB b c) (afN n c) (cntB b (afB b c) (afN n c) (afW b.length n c).2 (afB b c).length : Nat) pd pu2 :: StL pd (dn ++ [⟨b, (afW b.length n c).1, afB b c, (afW b.length n c).2⟩]) :: StL pu2 [] :: O'))
theorem len_law_do {C CR CC CA CS CT : Addr} (rs : List SD) (O : Own) (Q : SD → Own → Prop) (Qx : Addr → Option (Str × PyData) → Own → Prop) (h : pre_law_do C CR CC CA CS CT rs O Q Qx) : rs.length = 2 := by
  obtain ⟨a, dx, vs, g, pd, pu, n, b, dn, un, O', c, rfl, _⟩ := h
  rfl
abbrev s_law_do : Stmt := topS 44
theorem sc_law_do : FnScope ["bench", "change"] ["bench", "change"] (defScope s_law_do) := ⟨rfl, rfl, rfl, by decide +kernel, rfl, by decide +kernel, by decide +kernel⟩
set_option maxHeartbeats 4000000 in
theorem ok_law_do  {C_Bench : Addr} {C_NoSuchColumn : Addr} {C_NoSuchRow : Addr} {C_TooManyChanges : Addr} {C_WrongAmounts : Addr} {C_WrongSize : Addr} (D : Def K mg "_law_do" s_law_do) (C_Bench_remove_column : CalleeMX P w K mg base C_Bench "remove_column" ["self", "at"] 8 ((pre_Bench_remove_column C_Bench) C_NoSuchColumn C_WrongSize C_TooManyChanges)) (C_Bench_put : CalleeMX P w K mg base C_Bench "put" ["self", "row", "column", "amount"] 8 ((pre_Bench_put C_Bench) C_NoSuchRow C_NoSuchColumn C_WrongAmounts C_TooManyChanges)) (C_Bench_insert_row : CalleeMX P w K mg base C_Bench "insert_row" ["self", "at", "amounts"] 8 ((pre_Bench_insert_row C_Bench) C_NoSuchRow C_WrongAmounts C_WrongSize C_TooManyChanges)) (C_Bench_remove_row : CalleeMX P w K mg base C_Bench "remove_row" ["self", "at"] 8 ((pre_Bench_remove_row C_Bench) C_NoSuchRow C_WrongSize C_TooManyChanges)) (C_Bench_insert_column : CalleeMX P w K mg base C_Bench "insert_column" ["self", "at", "amounts"] 8 ((pre_Bench_insert_column C_Bench) C_NoSuchColumn C_WrongAmounts C_WrongSize C_TooManyChanges)) (B_Bench : Cls K C_Bench) : CalleeX P w K mg base "_law_do" ["bench", "change"] 9 ((pre_law_do C_Bench) C_NoSuchRow C_NoSuchColumn C_WrongAmounts C_WrongSize C_TooManyChanges) := by
  obtain ⟨f, fd, F, hmg⟩ := D
  obtain ⟨f_Bench_remove_column, fd_Bench_remove_column, G_Bench_remove_column, m_Bench_remove_column, b_Bench_remove_column⟩ := C_Bench_remove_column
  obtain ⟨f_Bench_put, fd_Bench_put, G_Bench_put, m_Bench_put, b_Bench_put⟩ := C_Bench_put
  obtain ⟨f_Bench_insert_row, fd_Bench_insert_row, G_Bench_insert_row, m_Bench_insert_row, b_Bench_insert_row⟩ := C_Bench_insert_row
  obtain ⟨f_Bench_remove_row, fd_Bench_remove_row, G_Bench_remove_row, m_Bench_remove_row, b_Bench_remove_row⟩ := C_Bench_remove_row
  obtain ⟨f_Bench_insert_column, fd_Bench_insert_column, G_Bench_insert_column, m_Bench_insert_column, b_Bench_insert_column⟩ := C_Bench_insert_column
  refine ⟨f, fd, fnx_ok F sc_law_do len_law_do fun cdv A outer s H E hr => ⟨_, (pss_cons (ps_if (pt_cmpR op_eq (pe_ix (ixT K) (pv 1) pe_int (fun _ _ => rfl)) pe_str (nomark _)) (pss_one (ps_ret (pe_cmpR op_isN (by exact (peMethS (K := K) B_Bench m_Bench_put G_Bench_put (hr.mono (by decide)) b_Bench_put (fun σ => passAt (by exact takes_of rfl rfl rfl rfl : Takes _ (wE E)) σ) (pv 0) (pa_cons (pe_ix (ixT K) (pv 1) pe_int (fun _ _ => rfl)) (pa_cons (pe_ix (ixT K) (pv 1) pe_int (fun _ _ => rfl)) (pa_cons (pe_ix (ixT K) (pv 1) pe_int (fun _ _ => rfl)) pa_nil))))) pe_non (nomark _)))) pss_nil)
      (pss_cons (ps_if (pt_cmpR op_eq (pe_ix (ixT K) (pv 1) pe_int (fun _ _ => rfl)) pe_str (nomark _)) (pss_one (ps_ret (pe_cmpR op_isN (by exact (peMethS (K := K) B_Bench m_Bench_insert_row G_Bench_insert_row (hr.mono (by decide)) b_Bench_insert_row (fun σ => passAt (by exact takes_of rfl rfl rfl rfl : Takes _ (wE E)) σ) (pv 0) (pa_cons (pe_ix (ixT K) (pv 1) pe_int (fun _ _ => rfl)) (pa_cons (pe_ix (ixT K) (pv 1) pe_int (fun _ _ => rfl)) pa_nil)))) pe_non (nomark _)))) pss_nil)
      (pss_cons (ps_if (pt_cmpR op_eq (pe_ix (ixT K) (pv 1) pe_int (fun _ _ => rfl)) pe_str (nomark _)) (pss_one (ps_ret (pe_cmpR op_isN (by exact (peMethS (K := K) B_Bench m_Bench_remove_row G_Bench_remove_row (hr.mono (by decide)) b_Bench_remove_row (fun σ => passAt (by exact takes_of rfl rfl rfl rfl : Takes _ (wE E)) σ) (pv 0) (pa_cons (pe_ix (ixT K) (pv 1) pe_int (fun _ _ => rfl)) pa_nil))) pe_non (nomark _)))) pss_nil)
      (pss_cons (ps_if (pt_cmpR op_eq (pe_ix (ixT K) (pv 1) pe_int (fun _ _ => rfl)) pe_str (nomark _)) (pss_one (ps_ret (pe_cmpR op_isN (by exact (peMethS (K := K) B_Bench m_Bench_insert_column G_Bench_insert_column (hr.mono (by decide)) b_Bench_insert_column (fun σ => passAt (by exact takes_of rfl rfl rfl rfl : Takes _ (wE E)) σ) (pv 0) (pa_cons (pe_ix (ixT K) (pv 1) pe_int (fun _ _ => rfl)) (pa_cons (pe_ix (ixT K) (pv 1) pe_int (fun _ _ => rfl)) pa_nil)))) pe_non (nomark _)))) pss_nil)
      (pss_one (ps_ret (pe_cmpR op_isN (by exact (peMethS (K := K) B_Bench m_Bench_remove_column G_Bench_remove_column (hr.mono (by decide)) b_Bench_remove_column (fun σ => passAt (by exact takes_of rfl rfl rfl rfl : Takes _ (wE E)) σ) (pv 0) (pa_cons (pe_ix (ixT K) (pv 1) pe_int (fun _ _ => rfl)) pa_nil))) pe_non (nomark _)))))))), ?_⟩, hmg, F.kp, F.binds fun _ _ _ _ _ _ us hl => match us, hl with | [_, _], _ => rfl, Wk.Fun.lk F⟩
  intro rs O Q Qx h
  obtain ⟨a, dx, vs, g, pd, pu, n, b, dn, un, O', c, rfl, hp, hb, hn, hbl, hdn, hc, qx, q⟩ := h
  show StW K _ _ [.ad a, .dat (chgD c)] _
  refine s_cv (Cv.perm hp) ?_
  have hm1 : 1 ≤ b.length := hb.b0
  have hn1 : 1 ≤ n := hb.n0
  cases c with
  | put r c v =>
    have n01 : Str.ofString "put" ≠ Str.ofString "insert_row" := kS_ne (i := 0) (j := 1) rfl rfl (by decide)
    have n02 : Str.ofString "put" ≠ Str.ofString "remove_row" := kS_ne (i := 0) (j := 2) rfl rfl (by decide)
    have n03 : Str.ofString "put" ≠ Str.ofString "insert_column" := kS_ne (i := 0) (j := 3) rfl rfl (by decide)
    have n04 : Str.ofString "put" ≠ Str.ofString "remove_column" := kS_ne (i := 0) (j := 4) rfl rfl (by decide)
    show StW K _ _ [.ad a, .dat (.tuple [.str (Str.ofString "put"), .int r, .int c, .int v])] _
    obtain ⟨⟨c1, c2⟩, ⟨c3, c4⟩, c5, c6⟩ := hc
    refine s_seq (s_if ?_)
    repeat' walk_at "e"
    any_goals (exfalso; contradiction)
    refine sx_ret (fun _ hx => hx) (x_op (x_meth ?_))
    repeat' walk_at "e"
    refine ⟨a, dx, _, _, _, rfl, List.mem_cons_self, by decide, ?_⟩
    repeat' walk_at "e"
    refine ⟨a, dx, vs, g, pd, pu, n, b, dn, un, O', r, c, v, rfl, rfl, hb, by omega, by omega, by omega, c1, c2, c3, c4, c5, c6, fun z => qx (told_ne (s := "row") (told_due (if_pos z) (nn _))) _ (by simp), fun h1 h2 z => qx (told_ne (s := "column") (told_due ((if_neg fun y => y ⟨h1, h2⟩).trans (if_pos z)) (nn _))) _ (by simp), fun h1 h2 h3 h4 z => qx (told_ne (s := "amounts") (told_due ((if_neg fun y => y ⟨h1, h2⟩).trans ((if_neg fun y => y ⟨h3, h4⟩).trans (if_pos fun y => z (y.2 v List.mem_cons_self)))) (nn _))) _ (by simp), fun h1 h2 h3 h4 h5 h6 h7 => qx (told_ne (s := "changes") ((told_ok (m := b.length) (n := n) (c := .put r c v) ((if_neg fun y => y ⟨h1, h2⟩).trans ((if_neg fun y => y ⟨h3, h4⟩).trans (if_neg fun y => y ⟨rfl, fun u hu => by rw [List.mem_singleton.mp hu]; exact ⟨h5, h6⟩⟩)))).trans (if_pos h7))) _ (by simp), fun i j hr hc hi hj h5 h6 h7 vs2 pu2 => ?_⟩
    subst hr hc
    have ok : dueD b.length n (.put ((i : Int) + 1) ((j : Int) + 1) v) = .none := (if_neg fun y => y ⟨by omega, by omega⟩).trans ((if_neg fun y => y ⟨by omega, by omega⟩).trans (if_neg fun y => y ⟨rfl, fun u hu => by rw [List.mem_singleton.mp hu]; exact ⟨h5, h6⟩⟩))
    have z := q ((told_ok ok).trans (if_neg (by omega))) vs2 pu2
    have e1 : ((i : Int) + 1 - 1).toNat = i := by omega
    have e2 : ((j : Int) + 1 - 1).toNat = j := by omega
    have hpl : (putB b i j v).length = b.length := List.length_set
    simp only [afB, afN, afW, e1, e2, hpl] at z
    repeat' walk_at "e"
    exact z
  | insR r xs =>
    have n10 : Str.ofString "insert_row" ≠ Str.ofString "put" := kS_ne (i := 1) (j := 0) rfl rfl (by decide)
    have n12 : Str.ofString "insert_row" ≠ Str.ofString "remove_row" := kS_ne (i := 1) (j := 2) rfl rfl (by decide)
    have n13 : Str.ofString "insert_row" ≠ Str.ofString "insert_column" := kS_ne (i := 1) (j := 3) rfl rfl (by decide)
    have n14 : Str.ofString "insert_row" ≠ Str.ofString "remove_column" := kS_ne (i := 1) (j := 4) rfl rfl (by decide)
    show StW K _ _ [.ad a, .dat (.tuple [.str (Str.ofString "insert_row"), .int r, tI xs])] _
    obtain ⟨⟨c1, c2⟩, hxl, hxs⟩ := hc
    refine s_seq (s_if ?_)
    repeat' walk_at "e"
    any_goals (exfalso; contradiction)
    refine s_next ?_
    refine s_seq (s_if ?_)
    repeat' walk_at "e"
    any_goals (exfalso; contradiction)
    refine sx_ret (fun _ hx => hx) (x_op (x_meth ?_))
    repeat' walk_at "e"
    refine ⟨a, dx, _, _, _, rfl, List.mem_cons_self, by decide, ?_⟩
    repeat' walk_at "e"
    refine ⟨a, dx, vs, g, pd, pu, n, b, dn, un, O', r, xs, rfl, rfl, hb, by omega, by omega, by omega, c1, c2, hxl, fun u hu => hxs u hu, fun z => qx (told_ne (s := "row") (told_due (if_pos z) (nn _))) _ (by simp), fun h1 h2 z => qx (told_ne (s := "amounts") (told_due ((if_neg fun y => y ⟨h1, h2⟩).trans (if_pos z)) (nn _))) _ (by simp), fun h1 h2 h3 h4 z => qx (told_ne (s := "size") (told_due ((if_neg fun y => y ⟨h1, h2⟩).trans ((if_neg fun y => y ⟨h3, h4⟩).trans (if_pos (by omega)))) (nn _))) _ (by simp), fun h1 h2 h3 h4 h5 h6 => qx (told_ne (s := "changes") ((told_ok (m := b.length) (n := n) (c := .insR r xs) ((if_neg fun y => y ⟨h1, h2⟩).trans ((if_neg fun y => y ⟨h3, h4⟩).trans (if_neg (by omega))))).trans (if_pos h6))) _ (by simp), fun k hr hk h3 h4 h5 h6 vs2 pu2 => ?_⟩
    subst hr
    have ok : dueD b.length n (.insR ((k : Int) + 1) xs) = .none := (if_neg fun y => y ⟨by omega, by omega⟩).trans ((if_neg fun y => y ⟨h3, h4⟩).trans (if_neg (by omega)))
    have z := q ((told_ok ok).trans (if_neg (by omega))) vs2 pu2
    have e1 : ((k : Int) + 1 - 1).toNat = k := by omega
    have hpl := insB_len b k xs
    simp only [afB, afN, afW, e1, hpl] at z
    repeat' walk_at "e"
    exact z
  | remR r =>
    have n20 : Str.ofString "remove_row" ≠ Str.ofString "put" := kS_ne (i := 2) (j := 0) rfl rfl (by decide)
    have n21 : Str.ofString "remove_row" ≠ Str.ofString "insert_row" := kS_ne (i := 2) (j := 1) rfl rfl (by decide)
    have n23 : Str.ofString "remove_row" ≠ Str.ofString "insert_column" := kS_ne (i := 2) (j := 3) rfl rfl (by decide)
    have n24 : Str.ofString "remove_row" ≠ Str.ofString "remove_column" := kS_ne (i := 2) (j := 4) rfl rfl (by decide)
    show StW K _ _ [.ad a, .dat (.tuple [.str (Str.ofString "remove_row"), .int r])] _
    obtain ⟨c1, c2⟩ := hc
    refine s_seq (s_if ?_)
    repeat' walk_at "e"
    any_goals (exfalso; contradiction)
    refine s_next ?_
    refine s_seq (s_if ?_)
    repeat' walk_at "e"
    any_goals (exfalso; contradiction)
    refine s_next ?_
    refine s_seq (s_if ?_)
    repeat' walk_at "e"
    any_goals (exfalso; contradiction)
    refine sx_ret (fun _ hx => hx) (x_op (x_meth ?_))
    repeat' walk_at "e"
    refine ⟨a, dx, _, _, _, rfl, List.mem_cons_self, by decide, ?_⟩
    repeat' walk_at "e"
    refine ⟨a, dx, vs, g, pd, pu, n, b, dn, un, O', r, rfl, rfl, hb, by omega, by omega, by omega, c1, c2, fun z => qx (told_ne (s := "row") (told_due (if_pos z) (nn _))) _ (by simp), fun h1 h2 z => qx (told_ne (s := "size") (told_due ((if_neg fun y => y ⟨h1, h2⟩).trans (if_pos (by omega))) (nn _))) _ (by simp), fun h1 h2 h3 h4 h6 => qx (told_ne (s := "changes") ((told_ok (m := b.length) (n := n) (c := .remR r) ((if_neg fun y => y ⟨h1, h2⟩).trans (if_neg (by omega)))).trans (if_pos h6))) _ (by simp), fun k hr hk h3 h4 h6 vs2 pu2 => ?_⟩
    subst hr
    have ok : dueD b.length n (.remR ((k : Int) + 1)) = .none := (if_neg fun y => y ⟨by omega, by omega⟩).trans (if_neg (by omega))
    have z := q ((told_ok ok).trans (if_neg (by omega))) vs2 pu2
    have e1 : ((k : Int) + 1 - 1).toNat = k := by omega
    have hpl := remB_len hk
    simp only [afB, afN, afW, e1, hpl] at z
    repeat' walk_at "e"
    exact z
  | insC r xs =>
    have n30 : Str.ofString "insert_column" ≠ Str.ofString "put" := kS_ne (i := 3) (j := 0) rfl rfl (by decide)
    have n31 : Str.ofString "insert_column" ≠ Str.ofString "insert_row" := kS_ne (i := 3) (j := 1) rfl rfl (by decide)
    have n32 : Str.ofString "insert_column" ≠ Str.ofString "remove_row" := kS_ne (i := 3) (j := 2) rfl rfl (by decide)
    have n34 : Str.ofString "insert_column" ≠ Str.ofString "remove_column" := kS_ne (i := 3) (j := 4) rfl rfl (by decide)
    show StW K _ _ [.ad a, .dat (.tuple [.str (Str.ofString "insert_column"), .int r, tI xs])] _
    obtain ⟨⟨c1, c2⟩, hxl, hxs⟩ := hc
    refine s_seq (s_if ?_)
    repeat' walk_at "e"
    any_goals (exfalso; contradiction)
    refine s_next ?_
    refine s_seq (s_if ?_)
    repeat' walk_at "e"
    any_goals (exfalso; contradiction)
    refine s_next ?_
    refine s_seq (s_if ?_)
    repeat' walk_at "e"
    any_goals (exfalso; contradiction)
    refine s_next ?_
    refine s_seq (s_if ?_)
    repeat' walk_at "e"
    any_goals (exfalso; contradiction)
    refine sx_ret (fun _ hx => hx) (x_op (x_meth ?_))
    repeat' walk_at "e"
    refine ⟨a, dx, _, _, _, rfl, List.mem_cons_self, by decide, ?_⟩
    repeat' walk_at "e"
    refine ⟨a, dx, vs, g, pd, pu, n, b, dn, un, O', r, xs, rfl, rfl, hb, by omega, by omega, by omega, c1, c2, hxl, fun u hu => hxs u hu, fun z => qx (told_ne (s := "column") (told_due (if_pos z) (nn _))) _ (by simp), fun h1 h2 z => qx (told_ne (s := "amounts") (told_due ((if_neg fun y => y ⟨h1, h2⟩).trans (if_pos z)) (nn _))) _ (by simp), fun h1 h2 h3 h4 z => qx (told_ne (s := "size") (told_due ((if_neg fun y => y ⟨h1, h2⟩).trans ((if_neg fun y => y ⟨h3, h4⟩).trans (if_pos (by omega)))) (nn _))) _ (by simp), fun h1 h2 h3 h4 h5 h6 => qx (told_ne (s := "changes") ((told_ok (m := b.length) (n := n) (c := .insC r xs) ((if_neg fun y => y ⟨h1, h2⟩).trans ((if_neg fun y => y ⟨h3, h4⟩).trans (if_neg (by omega))))).trans (if_pos h6))) _ (by simp), fun k hr hk h3 h4 h5 h6 vs2 pu2 => ?_⟩
    subst hr
    have ok : dueD b.length n (.insC ((k : Int) + 1) xs) = .none := (if_neg fun y => y ⟨by omega, by omega⟩).trans ((if_neg fun y => y ⟨h3, h4⟩).trans (if_neg (by omega)))
    have z := q ((told_ok ok).trans (if_neg (by omega))) vs2 pu2
    have e1 : ((k : Int) + 1 - 1).toNat = k := by omega
    have hpl := insC_len b k xs
    simp only [afB, afN, afW, e1, hpl] at z
    repeat' walk_at "e"
    exact z
  | remC r =>
    have n40 : Str.ofString "remove_column" ≠ Str.ofString "put" := kS_ne (i := 4) (j := 0) rfl rfl (by decide)
    have n41 : Str.ofString "remove_column" ≠ Str.ofString "insert_row" := kS_ne (i := 4) (j := 1) rfl rfl (by decide)
    have n42 : Str.ofString "remove_column" ≠ Str.ofString "remove_row" := kS_ne (i := 4) (j := 2) rfl rfl (by decide)
    have n43 : Str.ofString "remove_column" ≠ Str.ofString "insert_column" := kS_ne (i := 4) (j := 3) rfl rfl (by decide)
    show StW K _ _ [.ad a, .dat (.tuple [.str (Str.ofString "remove_column"), .int r])] _
    obtain ⟨c1, c2⟩ := hc
    refine s_seq (s_if ?_)
    repeat' walk_at "e"
    any_goals (exfalso; contradiction)
    refine s_next ?_
    refine s_seq (s_if ?_)
    repeat' walk_at "e"
    any_goals (exfalso; contradiction)
    refine s_next ?_
    refine s_seq (s_if ?_)
    repeat' walk_at "e"
    any_goals (exfalso; contradiction)
    refine s_next ?_
    refine s_seq (s_if ?_)
    repeat' walk_at "e"
    any_goals (exfalso; contradiction)
    refine s_next ?_
    refine sx_ret (fun _ hx => hx) (x_op (x_meth ?_))
    repeat' walk_at "e"
    refine ⟨a, dx, _, _, _, rfl, List.mem_cons_self, by decide, ?_⟩
    repeat' walk_at "e"
    refine ⟨a, dx, vs, g, pd, pu, n, b, dn, un, O', r, rfl, rfl, hb, by omega, by omega, by omega, c1, c2, fun z => qx (told_ne (s := "column") (told_due (if_pos z) (nn _))) _ (by simp), fun h1 h2 z => qx (told_ne (s := "size") (told_due ((if_neg fun y => y ⟨h1, h2⟩).trans (if_pos (by omega))) (nn _))) _ (by simp), fun h1 h2 h3 h4 h6 => qx (told_ne (s := "changes") ((told_ok (m := b.length) (n := n) (c := .remC r) ((if_neg fun y => y ⟨h1, h2⟩).trans (if_neg (by omega)))).trans (if_pos h6))) _ (by simp), fun k hr hk h3 h4 h6 vs2 pu2 => ?_⟩
    subst hr
    have ok : dueD b.length n (.remC ((k : Int) + 1)) = .none := (if_neg fun y => y ⟨by omega, by omega⟩).trans (if_neg (by omega))
    have z := q ((told_ok ok).trans (if_neg (by omega))) vs2 pu2
    have e1 : ((k : Int) + 1 - 1).toNat = k := by omega
    have hpl := remC_len b k
    simp only [afB, afN, afW, e1, hpl] at z
    repeat' walk_at "e"
    exact z
def pre_law_refused (C : Addr) : Pre := fun rs O Q => ∃ (bx a dx : Addr) (row : List Int) (k : Int) (vs : List V) (g : Int) (pd pu : Addr) (s : Ste) (dn un : List Stp) (O' : Own), rs = [.ad bx, .ad a, .dat (steD s)] ∧ O = Box bx row k :: BnI C a dx vs s.b s.n g pd pu :: StL pd dn :: StL pu un :: O' ∧ BoxOk row ∧ 0 ≤ k ∧ k < 900000000 ∧ Brd s.n s.b ∧ s.n ≤ 8 ∧ s.b.length ≤ 8 ∧ dn.length ≤ 100 ∧ Q (bV true) (Box bx row (k + 1) :: BnI C a dx vs s.b s.n g pd pu :: StL pd dn :: StL pu un :: O')
theorem len_law_refused {C : Addr} (rs : List SD) (O : Own) (Q : SD → Own → Prop) (h : pre_law_refused C rs O Q) : rs.length = 3 := by
  obtain ⟨bx, a, dx, row, k, vs, g, pd, pu, s, dn, un, O', rfl, _⟩ := h
  rfl
def bads (m n : Nat) : List Chg := [.put 0 1 1, .remR (m + 1), .insR 1 [], .put 1 1 1001, .insC 1 (List.replicate (m + 1) 1), .remC 0, .insC (n + 2) (List.replicate m 1)]
theorem due_p1 {m n : Nat} {r c v : Int} (h : ¬ (1 ≤ r ∧ r ≤ m)) : dueD m n (.put r c v) = pS "row" := if_pos h
theorem due_p3 {m n : Nat} {r c v : Int} (h1 : 1 ≤ r ∧ r ≤ m) (h2 : 1 ≤ c ∧ c ≤ n) (h3 : ¬ AmL 1 [v]) : dueD m n (.put r c v) = pS "amounts" := (if_neg fun y => y h1).trans ((if_neg fun y => y h2).trans (if_pos h3))
theorem due_r1 {m n : Nat} {r : Int} (h : ¬ (1 ≤ r ∧ r ≤ m)) : dueD m n (.remR r) = pS "row" := if_pos h
theorem due_c1 {m n : Nat} {r : Int} (h : ¬ (1 ≤ r ∧ r ≤ n)) : dueD m n (.remC r) = pS "column" := if_pos h
theorem due_i2 {m n : Nat} {r : Int} {xs : List Int} (h1 : 1 ≤ r ∧ r ≤ m + 1) (h3 : ¬ AmL n xs) : dueD m n (.insR r xs) = pS "amounts" := (if_neg fun y => y h1).trans (if_pos h3)
theorem due_j1 {m n : Nat} {r : Int} {xs : List Int} (h1 : ¬ (1 ≤ r ∧ r ≤ n + 1)) : dueD m n (.insC r xs) = pS "column" := if_pos h1
theorem due_j2 {m n : Nat} {r : Int} {xs : List Int} (h1 : 1 ≤ r ∧ r ≤ n + 1) (h3 : ¬ AmL m xs) : dueD m n (.insC r xs) = pS "amounts" := (if_neg fun y => y h1).trans (if_pos h3)
theorem bads_due {m n : Nat} (hm : 1 ≤ m) (hn : 1 ≤ n) (hm8 : m ≤ 8) (hn8 : n ≤ 8) : ∀ c ∈ bads m n, ChgOk c ∧ ∃ s, dueD m n c = .str s := by
  intro c hc
  have sm : ∀ v : Int, -1000000 ≤ v → v ≤ 1000000 → Sml v := fun v h1 h2 => ⟨h1, h2⟩
  simp only [bads, List.mem_cons, List.not_mem_nil, or_false] at hc
  rcases hc with rfl | rfl | rfl | rfl | rfl | rfl | rfl
  · exact ⟨⟨sm _ (by decide) (by decide), sm _ (by decide) (by decide), sm _ (by decide) (by decide)⟩, _, due_p1 (by omega)⟩
  · exact ⟨sm _ (by omega) (by omega), _, due_r1 (by omega)⟩
  · exact ⟨⟨sm _ (by decide) (by decide), by decide, fun _ h => absurd h List.not_mem_nil⟩, _, due_i2 (by omega) fun y => absurd y.1 (by show ¬ 0 = n; omega)⟩
  · exact ⟨⟨sm _ (by decide) (by decide), sm _ (by decide) (by decide), sm _ (by decide) (by decide)⟩, _, due_p3 (by omega) (by omega) fun y => absurd (y.2 1001 List.mem_cons_self).2 (by decide)⟩
  · exact ⟨⟨sm _ (by decide) (by decide), by rw [List.length_replicate]; omega, fun v hv => by rw [List.eq_of_mem_replicate hv]; exact sm _ (by decide) (by decide)⟩, _, due_j2 (by omega) fun y => absurd y.1 (by rw [List.length_replicate]; omega)⟩
  · exact ⟨sm _ (by decide) (by decide), _, due_c1 (by omega)⟩
  · exact ⟨⟨sm _ (by omega) (by omega), by rw [List.length_replicate]; omega, fun v hv => by rw [List.eq_of_mem_replicate hv]; exact sm _ (by decide) (by decide)⟩, _, due_j1 (by omega)⟩
abbrev s_law_refused : Stmt := topS 46
theorem sc_law_refused : FnScope ["box", "bench", "state", "rows", "columns", "bad", "e"] ["box", "bench", "state"] (defScope s_law_refused) := ⟨rfl, rfl, rfl, by decide +kernel, rfl, by decide +kernel, by decide +kernel⟩
set_option maxHeartbeats 4000000 in
theorem ok_law_refused  {C_Bench : Addr} {C_NoSuchColumn : Addr} {C_NoSuchRow : Addr} {C_TooManyChanges : Addr} {C_WalkhandsError : Addr} {C_WrongAmounts : Addr} {C_WrongSize : Addr} (D : Def K mg "_law_refused" s_law_refused) (C_law_next : Callee P w K mg base "_law_next" ["box", "modulus"] 1 pre_law_next) (C_law_do : CalleeX P w K mg base "_law_do" ["bench", "change"] 9 ((pre_law_do C_Bench) C_NoSuchRow C_NoSuchColumn C_WrongAmounts C_WrongSize C_TooManyChanges)) (m_len : mg "len" = none) (S_NoSuchColumn : ExS K mg "NoSuchColumn" C_NoSuchColumn) (S_NoSuchRow : ExS K mg "NoSuchRow" C_NoSuchRow) (S_TooManyChanges : ExS K mg "TooManyChanges" C_TooManyChanges) (S_WalkhandsError : ExS K mg "WalkhandsError" C_WalkhandsError) (S_WrongAmounts : ExS K mg "WrongAmounts" C_WrongAmounts) (S_WrongSize : ExS K mg "WrongSize" C_WrongSize) (e_NoSuchRow_WalkhandsError : PySem.W.exmOne K (.ref C_NoSuchRow) (.ref C_WalkhandsError) = some true) (e_NoSuchColumn_WalkhandsError : PySem.W.exmOne K (.ref C_NoSuchColumn) (.ref C_WalkhandsError) = some true) (e_WrongAmounts_WalkhandsError : PySem.W.exmOne K (.ref C_WrongAmounts) (.ref C_WalkhandsError) = some true) (e_WrongSize_WalkhandsError : PySem.W.exmOne K (.ref C_WrongSize) (.ref C_WalkhandsError) = some true) (e_TooManyChanges_WalkhandsError : PySem.W.exmOne K (.ref C_TooManyChanges) (.ref C_WalkhandsError) = some true) : Callee P w K mg base "_law_refused" ["box", "bench", "state"] 10 (pre_law_refused C_Bench) := by
  obtain ⟨f, fd, F, hmg⟩ := D
  obtain ⟨f_law_next, fd_law_next, G_law_next, g_law_next, kp_law_next, b_law_next, _⟩ := C_law_next
  obtain ⟨f_law_do, fd_law_do, G_law_do, g_law_do, kp_law_do, b_law_do, _⟩ := C_law_do
  refine ⟨f, fd, fn_ok F sc_law_refused len_law_refused fun cdv A outer s H E hr => ⟨_, (pss_cons (ps_set (i := 3) sc_law_refused.nd rfl (.inl rfl) (pe_callB (kLen K) (by rfl) m_len PySem.boot_len (pa_cons (pe_ix (ixT K) (pv 2) pe_int (fun _ _ => rfl)) pa_nil)))
      (pss_cons (ps_set (i := 4) sc_law_refused.nd rfl (.inl rfl) (pe_callB (kLen K) (by rfl) m_len PySem.boot_len (pa_cons (pe_ix (ixT K) (pe_ix (ixT K) (pv 2) pe_int (fun _ _ => rfl)) pe_int (fun _ _ => rfl)) pa_nil)))
      (pss_cons (ps_set (i := 5) sc_law_refused.nd rfl (.inl rfl) (pe_lst (pa_cons (pe_tup (pa_cons pe_str (pa_cons pe_int (pa_cons pe_int (pa_cons pe_int pa_nil))))) (pa_cons (pe_tup (pa_cons pe_str (pa_cons (pe_op op_add (pv 3) pe_int) pa_nil))) (pa_cons (pe_tup (pa_cons pe_str (pa_cons pe_int (pa_cons (pe_tup pa_nil) pa_nil)))) (pa_cons (pe_tup (pa_cons pe_str (pa_cons pe_int (pa_cons pe_int (pa_cons pe_int pa_nil))))) pa_nil))))))
      (pss_cons (ps_set (i := 5) sc_law_refused.nd rfl (.inl rfl) (pe_op op_cat (pv 5) (pe_lst (pa_cons (pe_tup (pa_cons pe_str (pa_cons pe_int (pa_cons (pe_op (kRep2 K) (pe_tup (pa_cons pe_int pa_nil)) (pe_op op_add (pv 3) pe_int)) pa_nil)))) (pa_cons (pe_tup (pa_cons pe_str (pa_cons pe_int pa_nil))) (pa_cons (pe_tup (pa_cons pe_str (pa_cons (pe_op op_add (pv 4) pe_int) (pa_cons (pe_op (kRep2 K) (pe_tup (pa_cons pe_int pa_nil)) (pv 3)) pa_nil)))) pa_nil))))))
      (pss_cons (psTry (K := K) (i := 6) (fun W pn xe tk => (pss_one (ps_expr (by exact (pe_callS G_law_do (hr.mono (by decide)) (by rfl) g_law_do kp_law_do b_law_do (fun σ => passAt tk σ) (pa_cons (pv 1) (pa_cons (pe_ix (ixL K) (pv 5) (pe_call G_law_next (hr.mono (by decide)) (by rfl) g_law_next kp_law_next b_law_next .nil pass0 (pa_cons (pv 0) (pa_cons pe_int pa_nil))) (fun _ _ => rfl)) pa_nil))))))) (fun a oe cls d pn hz hf => (pss_one (ps_ret pe_bl))) rfl rfl sc_law_refused.nd rfl rfl (S_WalkhandsError.names rfl rfl (by decide)) takes0)
      (pss_one (ps_ret pe_bl))))))), ?_⟩, hmg, F.kp, F.binds fun _ _ _ _ _ _ us hl => match us, hl with | [_, _, _], _ => rfl, Wk.Fun.lk F⟩
  intro rs O Q h
  obtain ⟨bx, a, dx, row, k, vs, g, pd, pu, s, dn, un, O', rfl, rfl, hr, h0, h1, hb, hn, hbl, hdn, q⟩ := h
  obtain ⟨b, n, ris, cis⟩ := s
  show StW K _ (Box bx row k :: BnI C_Bench a dx vs b n g pd pu :: StL pd dn :: StL pu un :: O') [.ad bx, .ad a, .dat (stD b n ris cis), .non, .non, .non, .non] _
  replace hb : Brd n b := hb
  replace hn : n ≤ 8 := hn
  replace hbl : b.length ≤ 8 := hbl
  have hb0 : 0 < b.length := hb.b0
  have hn0 := hb.n0
  have hlb : (b.map fun c => tI c).length = b.length := List.length_map _
  have hr0 : (b.getD (0 : Int).toNat []).length = n := (brd_row hb hb0).1
  refine s_seq (s_asg ?_)
  repeat' walk_at "e"
  rw [hlb]
  refine s_cut (fun O1 ds1 => O1 = Box bx row k :: BnI C_Bench a dx vs b n g pd pu :: StL pd dn :: StL pu un :: O' ∧ ds1 = [.ad bx, .ad a, .dat (stD b n ris cis), iV b.length, iV n, .non, .non]) ?_ ?_
  · refine s_asg ?_
    repeat' walk_at "e"
    rw [List.length_map]
    erw [hr0]
    rfl
  rintro O1 ds1 ⟨rfl, rfl⟩
  refine s_seq (s_asg ?_)
  repeat' walk_at "e"
  refine s_cut (fun O1 ds1 => O1 = Box bx row k :: BnI C_Bench a dx vs b n g pd pu :: StL pd dn :: StL pu un :: O' ∧ ds1 = [.ad bx, .ad a, .dat (stD b n ris cis), iV b.length, iV n, .dat (.list ((bads b.length n).map chgD)), .non]) ?_ ?_
  · refine s_asg ?_
    repeat' walk_at "e"
    have e1 : ∀ t : Nat, PyData.tuple (List.replicate t (PyData.int 1)) = tI (List.replicate t 1) := fun t => by
      show _ = PyData.tuple ((List.replicate t (1 : Int)).map PyData.int)
      rw [List.map_replicate]
    rw [e1, e1, show ((b.length : Int) + 1).toNat = b.length + 1 by omega, show ((b.length : Int)).toNat = b.length by omega]
    rfl
  rintro O1 ds1 ⟨rfl, rfl⟩
  refine s_seq (s_try (fun C fs O2 ds2 => O2 = BnI C_Bench a dx vs b n g pd pu :: StL pd dn :: StL pu un :: Box bx row (k + 1) :: O' ∧ fs = none ∧ C ∈ [C_NoSuchRow, C_NoSuchColumn, C_WrongAmounts, C_WrongSize, C_TooManyChanges] ∧ ds2 = [.ad bx, .ad a, .dat (stD b n ris cis), iV b.length, iV n, .dat (.list ((bads b.length n).map chgD)), .non]) (fun W => ?_) ?_)
  · refine sx_drop (fun _ hx => hx) (x_call ?_)
    repeat' walk_at "e"
    refine o_pickL (by omega) (by rw [List.length_map]; show _ < (7 : Int); omega) fun d hd => ?_
    obtain ⟨c, hc, rfl⟩ := List.mem_map.mp hd
    obtain ⟨hc1, st, hc2⟩ := bads_due hb0 hn0 hbl hn c hc
    have et := told_due (m := b.length) (n := n) (l := dn.length) hc2 (nn st)
    repeat' walk_at "e"
    exact ⟨a, dx, vs, g, pd, pu, n, b, dn, un, _, c, rfl, rot1, hb, hn, hbl, hdn, hc1, fun _ E hE => ⟨rfl, rfl, hE, rfl⟩, fun z => absurd (et.symm.trans z) (nn st)⟩
  · rintro C fs O2 ds2 ⟨rfl, rfl, hC, rfl⟩
    have he : PySem.W.exmOne K (.ref C) (.ref C_WalkhandsError) = some true := by
      simp only [List.mem_cons, List.not_mem_nil, or_false] at hC
      rcases hC with rfl | rfl | rfl | rfl | rfl <;> assumption
    refine ⟨he, fun a2 cls d B nx rt bk ct => ?_⟩
    refine s_cv (Cv.perm rot1.symm) ?_
    refine s_ret ?_
    repeat' walk_at "e"
    exact rt _ _ q
def pre_law : Pre := fun rs O Q => ∃ ns : List Int, rs = [.scr ns] ∧ O = [] ∧ ns.length ≤ 63 ∧ ∀ O, Q (bV true) O
theorem len_law (rs : List SD) (O : Own) (Q : SD → Own → Prop) (h : pre_law rs O Q) : rs.length = 1 := by
  obtain ⟨ns, rfl, _⟩ := h
  rfl
theorem law_pre {ns : List Int} (h : ns.length ≤ 63) : pre_law [.scr ns] [] fun r _ => r = bV true := ⟨ns, rfl, rfl, h, fun _ => rfl⟩
theorem sn_inj {α : Type} {l m : List α} {s t : α} (h : l ++ [s] = m ++ [t]) : l = m ∧ s = t := by
  have := List.append_inj' h rfl
  exact ⟨this.1, by simpa using this.2⟩
theorem undo_st {C a dx pd pu : Addr} {vs : List V} {g f : Int} {d un : List Stp} {s cur : Ste} {p : Stp} {O' : Own} {Q : SD → Own → Prop} (hs : IdOk f s) (hc : IdOk f cur) (hk : Lk s cur p) (hd : d.length ≤ 900) (hun : un.length ≤ 900)
    (q : ∀ vs2, Q (bV true) (BnI C a dx vs2 s.b s.n (cntB cur.b s.b s.n (wy cur s) s.b.length : Nat) pd pu :: StL pd d :: StL pu (un ++ [p]) :: O')) :
    pre_Bench_undo C [.ad a] (BnI C a dx vs cur.b cur.n g pd pu :: StL pd (d ++ [p]) :: StL pu un :: O') Q :=
  ⟨a, dx, vs, g, pd, pu, cur.n, cur.b, d ++ [p], un, O', rfl, rfl, hc.brd, by have := hc.n8; omega, by have := hc.m8; omega, by rw [List.length_append]; simp; omega, by omega, fun z => absurd (congrArg List.length z) (by rw [List.length_append]; simp), fun l s2 e => by
    obtain ⟨rfl, rfl⟩ := sn_inj e
    have h1 := hs.n8
    have h2 := hs.m8
    refine ⟨s.n, by rw [hk.b0]; exact hs.brd, by omega, by rw [hk.b0]; omega, by rw [hk.b0, hk.ba]; exact wy_ok hc hs, fun vs2 => ?_⟩
    rw [hk.b0, hk.ba]
    exact q vs2⟩
theorem redo_st {C a dx pd pu : Addr} {vs : List V} {g f : Int} {dn d : List Stp} {s cur : Ste} {p : Stp} {O' : Own} {Q : SD → Own → Prop} (hs : IdOk f s) (hc : IdOk f cur) (hk : Lk cur s p) (hd : d.length ≤ 900) (hun : dn.length ≤ 900)
    (q : ∀ vs2, Q (bV true) (BnI C a dx vs2 s.b s.n (cntB cur.b s.b s.n (wy cur s) s.b.length : Nat) pd pu :: StL pd (dn ++ [p]) :: StL pu d :: O')) :
    pre_Bench_redo C [.ad a] (BnI C a dx vs cur.b cur.n g pd pu :: StL pd dn :: StL pu (d ++ [p]) :: O') Q :=
  ⟨a, dx, vs, g, pd, pu, cur.n, cur.b, dn, d ++ [p], O', rfl, rfl, hc.brd, by have := hc.n8; omega, by have := hc.m8; omega, by omega, by rw [List.length_append]; simp; omega, fun z => absurd (congrArg List.length z) (by rw [List.length_append]; simp), fun l s2 e => by
    obtain ⟨rfl, rfl⟩ := sn_inj e
    have h1 := hs.n8
    have h2 := hs.m8
    refine ⟨s.n, by rw [hk.b1]; exact hs.brd, by omega, by rw [hk.b1]; omega, by rw [hk.b1, hk.fo]; exact wy_ok hc hs, fun vs2 => ?_⟩
    rw [hk.b1, hk.fo]
    exact q vs2⟩
abbrev SeL (p : Addr) (ss : List Ste) : Addr × OD := (p, .lst (ss.map fun s => .dat (steD s)))
theorem perm6 {F H B D U X : Addr × OD} {O' : Own} : (F :: H :: B :: D :: U :: X :: O').Perm (X :: B :: D :: U :: F :: H :: O') :=
  ((List.perm_append_comm (l₁ := [F, H]) (l₂ := [B, D, U, X])).append_right O').trans (List.perm_middle (l₁ := [B, D, U]) (a := X) (l₂ := F :: H :: O'))
def idsN (m : Nat) : List Int := (List.range m).map fun i : Nat => (i : Int)
theorem idsN_len (m : Nat) : (idsN m).length = m := by rw [idsN, List.length_map, List.length_range]
theorem idsN_s (m : Nat) : idsN (m + 1) = idsN m ++ [(m : Int)] := by
  unfold idsN
  rw [List.range_succ, List.map_append]
  rfl
theorem idsN_lt {m : Nat} (h : m ≤ 50) : ∀ v ∈ idsN m, v < 100 := fun v hv => by
  obtain ⟨i, hi, rfl⟩ := List.mem_map.mp hv
  have := List.mem_range.mp hi
  omega
theorem idsN_nd (m : Nat) : (idsN m).Nodup := by
  unfold idsN List.Nodup
  rw [List.pairwise_map]
  exact (List.nodup_range (n := m)).imp fun h => by omega
theorem nd_of {f : Int} {s : Ste} (h : IdOk f s) : Brd s.n s.b ∧ s.n ≤ 8 ∧ s.b.length ≤ 8 := ⟨h.brd, h.n8, h.m8⟩
structure LawI (f : Int) (cur : Ste) (bef beh : List Ste) (dn un : List Stp) : Prop where
  cu : IdOk f cur
  be : ∀ s ∈ bef, IdOk f s
  bh : ∀ s ∈ beh, IdOk f s
  d : Dn bef dn cur
  u : Un beh un cur
theorem LawI.mono {f g : Int} {cur : Ste} {bef beh : List Ste} {dn un : List Stp} (h : LawI f cur bef beh dn un) (e : f ≤ g) : LawI g cur bef beh dn un := ⟨h.cu.mono e, fun s hs => (h.be s hs).mono e, fun s hs => (h.bh s hs).mono e, h.d, h.u⟩
abbrev s_law : Stmt := topS 47
theorem sc_law : FnScope ["script", "box", "board", "k", "state", "bench", "before", "behind", "grown", "choice", "old", "found"] ["script"] (defScope s_law) := ⟨rfl, rfl, rfl, by decide +kernel, rfl, by decide +kernel, by decide +kernel⟩
set_option maxHeartbeats 4000000 in
theorem ok_law  {C_Bench : Addr} {C_NoSuchColumn : Addr} {C_NoSuchRow : Addr} {C_TooManyChanges : Addr} {C_WrongAmounts : Addr} {C_WrongSize : Addr} (D : Def K mg "law" s_law) (C_law_box : Callee P w K mg base "_law_box" ["script"] 2 pre_law_box) (C_law_next : Callee P w K mg base "_law_next" ["box", "modulus"] 1 pre_law_next) (C_law_board : Callee P w K mg base "_law_board" ["box", "most", "amounts"] 2 pre_law_board) (C_law_state : Callee P w K mg base "_law_state" ["board", "rows", "columns"] 4 pre_law_state) (C_Bench_init : CalleeI P w K mg base "Bench" C_Bench ["self", "board"] 7 (pre_Bench_init C_Bench)) (C_law_right : Callee P w K mg base "_law_right" ["bench", "state", "grown"] 4 (pre_law_right C_Bench)) (C_Bench_changes : CalleeM P w K mg base C_Bench "changes" ["self"] 1 (pre_Bench_changes C_Bench)) (C_Bench_undone : CalleeM P w K mg base C_Bench "undone" ["self"] 1 (pre_Bench_undone C_Bench)) (C_Bench_undo : CalleeM P w K mg base C_Bench "undo" ["self"] 7 (pre_Bench_undo C_Bench)) (C_law_grown : Callee P w K mg base "_law_grown" ["before", "after"] 2 pre_law_grown) (C_Bench_redo : CalleeM P w K mg base C_Bench "redo" ["self"] 7 (pre_Bench_redo C_Bench)) (C_law_change : Callee P w K mg base "_law_change" ["box", "state", "fresh"] 2 pre_law_change) (C_law_do : CalleeX P w K mg base "_law_do" ["bench", "change"] 9 ((pre_law_do C_Bench) C_NoSuchRow C_NoSuchColumn C_WrongAmounts C_WrongSize C_TooManyChanges)) (C_law_refused : Callee P w K mg base "_law_refused" ["box", "bench", "state"] 10 (pre_law_refused C_Bench)) (m_len : mg "len" = none) (m_min : mg "min" = none) (m_range : mg "range" = none) (B_Bench : Cls K C_Bench) : Callee P w K mg base "law" ["script"] 11 pre_law := by
  obtain ⟨f, fd, F, hmg⟩ := D
  obtain ⟨f_law_box, fd_law_box, G_law_box, g_law_box, kp_law_box, b_law_box, _⟩ := C_law_box
  obtain ⟨f_law_next, fd_law_next, G_law_next, g_law_next, kp_law_next, b_law_next, _⟩ := C_law_next
  obtain ⟨f_law_board, fd_law_board, G_law_board, g_law_board, kp_law_board, b_law_board, _⟩ := C_law_board
  obtain ⟨f_law_state, fd_law_state, G_law_state, g_law_state, kp_law_state, b_law_state, _⟩ := C_law_state
  obtain ⟨f_Bench_init, fd_Bench_init, G_Bench_init, m_Bench_init, g_Bench_init, b_Bench_init⟩ := C_Bench_init
  obtain ⟨f_law_right, fd_law_right, G_law_right, g_law_right, kp_law_right, b_law_right, _⟩ := C_law_right
  obtain ⟨f_Bench_changes, fd_Bench_changes, G_Bench_changes, m_Bench_changes, b_Bench_changes⟩ := C_Bench_changes
  obtain ⟨f_Bench_undone, fd_Bench_undone, G_Bench_undone, m_Bench_undone, b_Bench_undone⟩ := C_Bench_undone
  obtain ⟨f_Bench_undo, fd_Bench_undo, G_Bench_undo, m_Bench_undo, b_Bench_undo⟩ := C_Bench_undo
  obtain ⟨f_law_grown, fd_law_grown, G_law_grown, g_law_grown, kp_law_grown, b_law_grown, _⟩ := C_law_grown
  obtain ⟨f_Bench_redo, fd_Bench_redo, G_Bench_redo, m_Bench_redo, b_Bench_redo⟩ := C_Bench_redo
  obtain ⟨f_law_change, fd_law_change, G_law_change, g_law_change, kp_law_change, b_law_change, _⟩ := C_law_change
  obtain ⟨f_law_do, fd_law_do, G_law_do, g_law_do, kp_law_do, b_law_do, _⟩ := C_law_do
  obtain ⟨f_law_refused, fd_law_refused, G_law_refused, g_law_refused, kp_law_refused, b_law_refused, _⟩ := C_law_refused
  refine ⟨f, fd, fn_ok F sc_law len_law fun cdv A outer s H E hr => ⟨_, (pss_cons (ps_set (i := 1) sc_law.nd rfl (.inl rfl) (pe_call G_law_box (hr.mono (by decide)) (by rfl) g_law_box kp_law_box b_law_box .nil pass0 (pa_cons (pv 0) pa_nil)))
      (pss_cons (ps_set (i := 2) sc_law.nd rfl (.inl rfl) (pe_call G_law_board (hr.mono (by decide)) (by rfl) g_law_board kp_law_board b_law_board .nil pass0 (pa_cons (pv 1) (pa_cons pe_int (pa_cons pe_int pa_nil)))))
      (pss_cons (ps_set (i := 4) sc_law.nd rfl (.inl rfl) (pe_call G_law_state (hr.mono (by decide)) (by rfl) g_law_state kp_law_state b_law_state .nil pass0 (pa_cons (pv 2) (pa_cons (pe_lc (own := [("k", 3)]) (g := gName 3) rfl sc_law.nd (pi_range1 (by rfl) m_range (pa_cons (pe_callB (kLen K) (by rfl) m_len PySem.boot_len (pa_cons (pv 2) pa_nil)) pa_nil)) (blkOk_by (own := [("k", 3)]) (N := ["script", "box", "board", "k", "state", "bench", "before", "behind", "grown", "choice", "old", "found"]) (by first | (show blkC _ (defScope s_law) _ _ = true; decide +kernel) | kernel_rfl | rfl)) (fun _ _ _ _ _ => pg_name (i := 3) sc_law.nd rfl (by first | exact Or.inl rfl | exact Or.inr rfl)) (fun _ _ _ _ _ => pts_nil) (fun _ _ _ _ _ => (pv 3))) (pa_cons (pe_lc (own := [("k", 3)]) (g := gName 3) rfl sc_law.nd (pi_range1 (by rfl) m_range (pa_cons (pe_callB (kLen K) (by rfl) m_len PySem.boot_len (pa_cons (pe_ix (ixT K) (pv 2) pe_int (fun _ _ => rfl)) pa_nil)) pa_nil)) (blkOk_by (own := [("k", 3)]) (N := ["script", "box", "board", "k", "state", "bench", "before", "behind", "grown", "choice", "old", "found"]) (by first | (show blkC _ (defScope s_law) _ _ = true; decide +kernel) | kernel_rfl | rfl)) (fun _ _ _ _ _ => pg_name (i := 3) sc_law.nd rfl (by first | exact Or.inl rfl | exact Or.inr rfl)) (fun _ _ _ _ _ => pts_nil) (fun _ _ _ _ _ => (pv 3))) pa_nil)))))
      (pss_cons (ps_set (i := 5) sc_law.nd rfl (.inl rfl) (pe_make m_Bench_init G_Bench_init (hr.mono (by decide)) (by rfl) g_Bench_init b_Bench_init .nil pass0 (pa_cons (pv 2) pa_nil)))
      (pss_cons (ps_set (i := 6) sc_law.nd rfl (.inl rfl) (pe_lst pa_nil))
      (pss_cons (ps_set (i := 7) sc_law.nd rfl (.inl rfl) (pe_lst pa_nil))
      (pss_cons (ps_set (i := 8) sc_law.nd rfl (.inl rfl) (pe_op op_mul (pe_callB (kLen K) (by rfl) m_len PySem.boot_len (pa_cons (pv 2) pa_nil)) (pe_callB (kLen K) (by rfl) m_len PySem.boot_len (pa_cons (pe_ix (ixT K) (pv 2) pe_int (fun _ _ => rfl)) pa_nil))))
      (pss_cons (ps_for PassesOwn.never rfl (pi_range1 (by rfl) m_range (pa_cons (pe_callB (kMin2 rfl) (by rfl) m_min (by decide +kernel) (pa_cons (pe_callB (kLen K) (by rfl) m_len PySem.boot_len (pa_cons (pv 0) pa_nil)) (pa_cons pe_int pa_nil))) pa_nil)) (pg_name (i := 3) sc_law.nd rfl (.inl rfl)) (pss_cons (ps_if (PW.pt (pw_or (pt_not (pt_val (pe_call G_law_right (hr.mono (by decide)) (by rfl) g_law_right kp_law_right b_law_right .nil pass0 (pa_cons (pv 5) (pa_cons (pv 4) (pa_cons (pv 8) pa_nil)))))) (pw_or (pt_cmpR op_ne (peMeth0 (K := K) B_Bench m_Bench_changes G_Bench_changes (hr.mono (by decide)) b_Bench_changes (pv 5)) (pe_callB (kLen K) (by rfl) m_len PySem.boot_len (pa_cons (pv 6) pa_nil)) (nomark _)) (pw_or1 (pt_cmpR op_ne (peMeth0 (K := K) B_Bench m_Bench_undone G_Bench_undone (hr.mono (by decide)) b_Bench_undone (pv 5)) (pe_callB (kLen K) (by rfl) m_len PySem.boot_len (pa_cons (pv 7) pa_nil)) (nomark _)))))) (pss_one (ps_ret pe_bl)) pss_nil)
      (pss_cons (ps_if (pt_cmpR op_eq (pe_call G_law_next (hr.mono (by decide)) (by rfl) g_law_next kp_law_next b_law_next .nil pass0 (pa_cons (pv 1) (pa_cons pe_int pa_nil))) pe_int (nomark _)) (pss_cons (ps_if (PW.pt (pw_or (pt_not (pt_val (pe_call G_law_refused (hr.mono (by decide)) (by rfl) g_law_refused kp_law_refused b_law_refused .nil pass0 (pa_cons (pv 1) (pa_cons (pv 5) (pa_cons (pv 4) pa_nil)))))) (pw_or1 (pt_not (pt_val (pe_call G_law_right (hr.mono (by decide)) (by rfl) g_law_right kp_law_right b_law_right .nil pass0 (pa_cons (pv 5) (pa_cons (pv 4) (pa_cons (pv 8) pa_nil))))))))) (pss_one (ps_ret pe_bl)) pss_nil)
      (pss_one (ps_if (PW.pt (pw_or (pt_cmpR op_ne (peMeth0 (K := K) B_Bench m_Bench_changes G_Bench_changes (hr.mono (by decide)) b_Bench_changes (pv 5)) (pe_callB (kLen K) (by rfl) m_len PySem.boot_len (pa_cons (pv 6) pa_nil)) (nomark _)) (pw_or1 (pt_cmpR op_ne (peMeth0 (K := K) B_Bench m_Bench_undone G_Bench_undone (hr.mono (by decide)) b_Bench_undone (pv 5)) (pe_callB (kLen K) (by rfl) m_len PySem.boot_len (pa_cons (pv 7) pa_nil)) (nomark _))))) (pss_one (ps_ret pe_bl)) pss_nil))) pss_nil)
      (pss_cons (ps_set (i := 9) sc_law.nd rfl (.inl rfl) (pe_call G_law_next (hr.mono (by decide)) (by rfl) g_law_next kp_law_next b_law_next .nil pass0 (pa_cons (pv 1) (pa_cons pe_int pa_nil))))
      (pss_cons (ps_set (i := 10) sc_law.nd rfl (.inl rfl) (pv 4))
      (pss_one (ps_if (pt_cmpR op_eq (pv 9) pe_int (nomark _)) (pss_cons (ps_if (pt_cmpR op_ne (peMeth0 (K := K) B_Bench m_Bench_undo G_Bench_undo (hr.mono (by decide)) b_Bench_undo (pv 5)) (pe_cmpR op_gt (pe_callB (kLen K) (by rfl) m_len PySem.boot_len (pa_cons (pv 6) pa_nil)) pe_int (nomark _)) (nomark _)) (pss_one (ps_ret pe_bl)) pss_nil)
      (pss_one (ps_if (pt_cmpR op_gt (pe_callB (kLen K) (by rfl) m_len PySem.boot_len (pa_cons (pv 6) pa_nil)) pe_int (nomark _)) (pss_cons (psApp K (ps_expr (pe_bm PySem.F.plainAttrs_list PySem.F.slot_list_append PySem.F.type_list_append mt_append (pv 7) (pa_cons (pv 4) pa_nil))))
      (pss_cons (ps_set (i := 4) sc_law.nd rfl (.inl rfl) (peBm0 K PySem.F.plainAttrs_list PySem.F.slot_list_pop PySem.F.type_list_pop mt_pop (pv 6)))
      (pss_one (ps_set (i := 8) sc_law.nd rfl (.inl rfl) (pe_call G_law_grown (hr.mono (by decide)) (by rfl) g_law_grown kp_law_grown b_law_grown .nil pass0 (pa_cons (pv 10) (pa_cons (pv 4) pa_nil))))))) pss_nil))) (pss_one (ps_if (pt_cmpR op_eq (pv 9) pe_int (nomark _)) (pss_cons (ps_if (pt_cmpR op_ne (peMeth0 (K := K) B_Bench m_Bench_redo G_Bench_redo (hr.mono (by decide)) b_Bench_redo (pv 5)) (pe_cmpR op_gt (pe_callB (kLen K) (by rfl) m_len PySem.boot_len (pa_cons (pv 7) pa_nil)) pe_int (nomark _)) (nomark _)) (pss_one (ps_ret pe_bl)) pss_nil)
      (pss_one (ps_if (pt_cmpR op_gt (pe_callB (kLen K) (by rfl) m_len PySem.boot_len (pa_cons (pv 7) pa_nil)) pe_int (nomark _)) (pss_cons (psApp K (ps_expr (pe_bm PySem.F.plainAttrs_list PySem.F.slot_list_append PySem.F.type_list_append mt_append (pv 6) (pa_cons (pv 4) pa_nil))))
      (pss_cons (ps_set (i := 4) sc_law.nd rfl (.inl rfl) (peBm0 K PySem.F.plainAttrs_list PySem.F.slot_list_pop PySem.F.type_list_pop mt_pop (pv 7)))
      (pss_one (ps_set (i := 8) sc_law.nd rfl (.inl rfl) (pe_call G_law_grown (hr.mono (by decide)) (by rfl) g_law_grown kp_law_grown b_law_grown .nil pass0 (pa_cons (pv 10) (pa_cons (pv 4) pa_nil))))))) pss_nil))) (pss_cons (ps_set (i := 11) sc_law.nd rfl (.inl rfl) (pe_call G_law_change (hr.mono (by decide)) (by rfl) g_law_change kp_law_change b_law_change .nil pass0 (pa_cons (pv 1) (pa_cons (pv 4) (pa_cons (pe_op op_add pe_int (pv 3)) pa_nil)))))
      (pss_cons (ps_if (pt_not (pt_val (by exact (pe_callS G_law_do (hr.mono (by decide)) (by rfl) g_law_do kp_law_do b_law_do (fun σ => passAt (takes0) σ) (pa_cons (pv 5) (pa_cons (pe_ix (ixT K) (pv 11) pe_int (fun _ _ => rfl)) pa_nil)))))) (pss_one (ps_ret pe_bl)) pss_nil)
      (pss_cons (psApp K (ps_expr (pe_bm PySem.F.plainAttrs_list PySem.F.slot_list_append PySem.F.type_list_append mt_append (pv 6) (pa_cons (pv 4) pa_nil))))
      (pss_cons (ps_set (i := 7) sc_law.nd rfl (.inl rfl) (pe_lst pa_nil))
      (pss_cons (ps_set (i := 4) sc_law.nd rfl (.inl rfl) (pe_call G_law_state (hr.mono (by decide)) (by rfl) g_law_state kp_law_state b_law_state .nil pass0 (pa_cons (pe_ix (ixT K) (pe_ix (ixT K) (pv 11) pe_int (fun _ _ => rfl)) pe_int (fun _ _ => rfl)) (pa_cons (pe_ix (ixT K) (pe_ix (ixT K) (pv 11) pe_int (fun _ _ => rfl)) pe_int (fun _ _ => rfl)) (pa_cons (pe_ix (ixT K) (pe_ix (ixT K) (pv 11) pe_int (fun _ _ => rfl)) pe_int (fun _ _ => rfl)) pa_nil)))))
      (pss_one (ps_set (i := 8) sc_law.nd rfl (.inl rfl) (pe_call G_law_grown (hr.mono (by decide)) (by rfl) g_law_grown kp_law_grown b_law_grown .nil pass0 (pa_cons (pv 10) (pa_cons (pv 4) pa_nil)))))))))))))))))))
      (pss_one (ps_ret (pe_call G_law_right (hr.mono (by decide)) (by rfl) g_law_right kp_law_right b_law_right .nil pass0 (pa_cons (pv 5) (pa_cons (pv 4) (pa_cons (pv 8) pa_nil)))))))))))))), ?_⟩, hmg, F.kp, F.binds fun _ _ _ _ _ _ us hl => match us, hl with | [_], _ => rfl, Wk.Fun.lk F⟩
  intro rs O Q h
  obtain ⟨ns, rfl, rfl, h63, q⟩ := h
  show StW K _ [] [.scr ns, .non, .non, .non, .non, .non, .non, .non, .non, .non, .non, .non] _
  refine s_seq (s_asg ?_)
  repeat' walk_at "e"
  refine ⟨ns, rfl, h63, fun bx row hrow => ?_⟩
  refine s_seq (s_asg ?_)
  repeat' walk_at "e"
  refine ⟨bx, row, 0, 5, 4, [], rfl, rfl, hrow, by decide, by decide, by decide, by decide, by decide, by decide, fun n b k2 hb hn hm ham hk0 hk1 => ?_⟩
  have hb0 : 0 < b.length := hb.b0
  have hlb : (b.map fun c => tI c).length = b.length := List.length_map _
  refine s_seq (s_asg ?_)
  repeat' walk_at "e"
  have hr0 : (b.getD (0 : Int).toNat []).length = n := (brd_row hb hb0).1
  refine w_frz (w_lc1 ?_)
  repeat' walk_at "e"
  rw [hlb]
  refine ⟨by omega, by omega, fun i acc O2 => acc = (idsN i).map (fun v => iV v) ∧ O2 = [Box bx row k2], ⟨rfl, rfl⟩, fun i acc O2 hi hl hI => ?_, fun acc O2 Dl hI => ?_⟩
  · obtain ⟨rfl, rfl⟩ := hI
    intro Dl
    repeat' walk_at "e"
    refine ⟨_, .refl _, ?_, rfl⟩
    rw [idsN_s, List.map_append]
    rfl
  obtain ⟨rfl, rfl⟩ := hI
  rw [Int.toNat_natCast]
  refine ⟨Dl, _, _, _, rfl, .refl _, Dats.ints (idsN b.length), ?_⟩
  repeat' walk_at "e"
  clear Dl
  refine w_frz (w_lc1 ?_)
  repeat' walk_at "e"
  rw [List.length_map]
  erw [hr0]
  refine ⟨by omega, by omega, fun i acc O2 => acc = (idsN i).map (fun v => iV v) ∧ O2 = [Box bx row k2], ⟨rfl, rfl⟩, fun i acc O2 hi hl hI => ?_, fun acc O2 Dl hI => ?_⟩
  · obtain ⟨rfl, rfl⟩ := hI
    intro Dl
    repeat' walk_at "e"
    refine ⟨_, .refl _, ?_, rfl⟩
    rw [idsN_s, List.map_append]
    rfl
  obtain ⟨rfl, rfl⟩ := hI
  rw [Int.toNat_natCast]
  refine ⟨Dl, _, _, _, rfl, .refl _, Dats.ints (idsN n), ?_⟩
  repeat' walk_at "e"
  clear Dl
  refine ⟨n, b, idsN b.length, idsN n, rfl, hb, by omega, by omega, ?_⟩
  obtain ⟨cur, hcb, hcn, hcr, hcc⟩ : ∃ cur : Ste, cur.b = b ∧ cur.n = n ∧ cur.rs = idsN b.length ∧ cur.cs = idsN n := ⟨⟨b, n, _, _⟩, rfl, rfl, rfl, rfl⟩
  have hid : IdOk 100 cur := by
    refine ⟨by rw [hcb, hcn]; exact hb, by rw [hcr, hcb, idsN_len], by rw [hcc, hcn, idsN_len], by rw [hcr]; exact idsN_nd _, by rw [hcc]; exact idsN_nd _, by rw [hcr]; exact idsN_lt (by omega), by rw [hcc]; exact idsN_lt (by omega), by omega, by rw [hcb]; omega⟩
  have est : stD b n (idsN b.length) (idsN n) = steD cur := by rw [← hcr, ← hcc, ← hcb, ← hcn]
  rw [est]
  refine s_seq (s_asg (w_make ?_))
  repeat' walk_at "e"
  intro ab dxb
  refine ⟨ab, dxb, n, b, _, rfl, rfl, hb, by omega, by omega, fun vs pd pu => ⟨rfl, ?_⟩⟩
  refine s_seq (s_asg (w_lstO ?_))
  repeat' walk_at "e"
  refine ⟨by decide, fun pb => ?_⟩
  refine s_seq (s_asg (w_lstO ?_))
  repeat' walk_at "e"
  refine ⟨by decide, fun ph => ?_⟩
  refine s_cut (fun O1 ds1 => O1 = [SeL ph [], SeL pb [], BnI C_Bench ab dxb vs cur.b cur.n ((cur.b.length : Int) * cur.n) pd pu, StL pd [], StL pu [], Box bx row k2] ∧ ds1 = [.scr ns, .ad bx, .dat (tS b), .non, .dat (steD cur), .ad ab, .ad pb, .ad ph, iV ((cur.b.length : Int) * cur.n), .non, .non, .non]) ?_ ?_
  · refine s_asg ?_
    repeat' walk_at "e"
    subst hcb hcn
    rw [hlb, List.length_map]
    erw [hr0]
    exact ⟨rfl, rfl⟩
  rintro O1 ds1 ⟨rfl, rfl⟩
  generalize ((cur.b.length : Int) * cur.n) = g0
  clear est hcb hcn hcr hcc
  refine s_cv (Cv.perm (.swap ..)) ?_
  refine s_cv (Cv.perm perm6) ?_
  refine s_seq (s_for1 ?_)
  repeat' walk_at "e"
  refine ⟨by omega, by omega, fun i O2 ds2 => ∃ (cur : Ste) (bef beh : List Ste) (dn un : List Stp) (pd pu pb ph : Addr) (vs : List V) (g k3 : Int) (O' : Own) (y3 y9 y10 y11 : SD), LawI (100 + i) cur bef beh dn un ∧ dn.length + un.length ≤ i ∧ 0 ≤ k3 ∧ k3 ≤ 1000 * (i + 1) ∧ O2 = Box bx row k3 :: BnI C_Bench ab dxb vs cur.b cur.n g pd pu :: StL pd dn :: StL pu un :: SeL pb bef :: SeL ph beh :: O' ∧ ds2 = [.scr ns, .ad bx, .dat (tS b), y3, .dat (steD cur), .ad ab, .ad pb, .ad ph, iV g, y9, y10, y11], ⟨cur, [], [], [], [], pd, pu, pb, ph, vs, g0, k2, [], .non, .non, .non, .non, ⟨hid.mono (by omega), fun _ h => absurd h List.not_mem_nil, fun _ h => absurd h List.not_mem_nil, .nil _, .nil _⟩, Nat.le_refl _, hk0, by omega, rfl, rfl⟩, fun i O2 ds2 hi hI B hB => ?_, fun O2 ds2 hI => ?_⟩
  · clear hid
    obtain ⟨cur, bef, beh, dn, un, pd, pu, pb, ph, vs, g, k3, O', y3, y9, y10, y11, hL, hlen, h0, h1, rfl, rfl⟩ := hI
    have hi12 : i ≤ 12 := by omega
    obtain ⟨hcb, hcn, hcm⟩ := nd_of hL.cu
    have hdl := hL.d.len
    have hul := hL.u.len
    have hbl : (bef.map fun s => SD.dat (steD s)).length = dn.length := by rw [List.length_map, hdl]
    have hhl : (beh.map fun s => SD.dat (steD s)).length = un.length := by rw [List.length_map, hul]
    have hsd : (dn.map fun s => SD.dat (stepD s)).length = dn.length := List.length_map _
    have hsu : (un.map fun s => SD.dat (stepD s)).length = un.length := List.length_map _
    refine s_seq (s_if ?_)
    repeat' walk_at "e"
    refine ⟨ab, dxb, vs, g, _, _, cur, rfl, List.mem_cons_of_mem _ List.mem_cons_self, hcb, hcn, hcm, ?_⟩
    repeat' walk_at "e"
    refine w_meth ?_
    repeat' walk_at "e"
    refine ⟨ab, dxb, _, _, _, rfl, (.tail _ (.head _)), by decide, w_nil ?_⟩
    refine ⟨ab, dxb, vs, _, _, _, _, pd, _, rfl, (.tail _ (.head _)), (.tail _ (.tail _ (.head _))), ?_⟩
    repeat' walk_at "e"
    refine g_lenO (.tail _ (.tail _ (.tail _ (.tail _ (.head _))))) ?_
    rw [hsd, hbl]
    repeat' walk_at "e"
    · rename_i z
      exact absurd rfl z
    refine w_meth ?_
    repeat' walk_at "e"
    refine ⟨ab, dxb, _, _, _, rfl, (.tail _ (.head _)), by decide, w_nil ?_⟩
    refine ⟨ab, dxb, vs, _, _, _, _, pu, _, rfl, (.tail _ (.head _)), (.tail _ (.tail _ (.tail _ (.head _)))), ?_⟩
    repeat' walk_at "e"
    refine g_lenO (.tail _ (.tail _ (.tail _ (.tail _ (.tail _ (.head _)))))) ?_
    rw [hsu, hhl]
    repeat' walk_at "e"
    · rename_i z
      exact absurd rfl z
    refine s_next ?_
    refine s_cut (fun O1 ds1 => ∃ k4 : Int, k3 ≤ k4 ∧ k4 ≤ k3 + 2 ∧ O1 = Box bx row k4 :: BnI C_Bench ab dxb vs cur.b cur.n g pd pu :: StL pd dn :: StL pu un :: SeL pb bef :: SeL ph beh :: O' ∧ ds1 = [.scr ns, .ad bx, .dat (tS b), iV i, .dat (steD cur), .ad ab, .ad pb, .ad ph, iV g, y9, y10, y11]) ?_ ?_
    · refine s_if ?_
      repeat' walk_at "e"
      · refine s_seq (s_if ?_)
        repeat' walk_at "e"
        refine ⟨bx, ab, dxb, row, _, vs, g, pd, pu, cur, dn, un, _, rfl, rfl, hrow, by omega, by omega, hcb, hcn, hcm, by omega, ?_⟩
        repeat' walk_at "e"
        refine ⟨ab, dxb, vs, g, _, _, cur, rfl, (.tail _ (.head _)), hcb, hcn, hcm, ?_⟩
        repeat' walk_at "e"
        refine s_next ?_
        refine s_if ?_
        repeat' walk_at "e"
        refine w_meth ?_
        repeat' walk_at "e"
        refine ⟨ab, dxb, _, _, _, rfl, (.tail _ (.head _)), by decide, w_nil ?_⟩
        refine ⟨ab, dxb, vs, _, _, _, _, pd, _, rfl, (.tail _ (.head _)), (.tail _ (.tail _ (.head _))), ?_⟩
        repeat' walk_at "e"
        refine g_lenO (.tail _ (.tail _ (.tail _ (.tail _ (.head _))))) ?_
        rw [hsd, hbl]
        repeat' walk_at "e"
        · rename_i z
          exact absurd rfl z
        refine w_meth ?_
        repeat' walk_at "e"
        refine ⟨ab, dxb, _, _, _, rfl, (.tail _ (.head _)), by decide, w_nil ?_⟩
        refine ⟨ab, dxb, vs, _, _, _, _, pu, _, rfl, (.tail _ (.head _)), (.tail _ (.tail _ (.tail _ (.head _)))), ?_⟩
        repeat' walk_at "e"
        refine g_lenO (.tail _ (.tail _ (.tail _ (.tail _ (.tail _ (.head _)))))) ?_
        rw [hsu, hhl]
        repeat' walk_at "e"
        · rename_i z
          exact absurd rfl z
        refine s_next ?_
        exact ⟨_, by omega, by omega, rfl, rfl⟩
      · refine s_next ?_
        exact ⟨_, by omega, by omega, rfl, rfl⟩
    rintro O1 ds1 ⟨k4, h2, h3, rfl, rfl⟩
    refine s_seq (s_asg ?_)
    repeat' walk_at "e"
    rename_i x hx0 hx1
    refine s_seq (s_asg ?_)
    repeat' walk_at "e"
    refine s_if ?_
    repeat' walk_at "e"
    · refine s_cv (Cv.perm rot1) ?_
      rcases hL.d.inv with ⟨rfl, rfl⟩ | ⟨l, d, s, p, rfl, rfl, hd, hk⟩
      · refine s_seq (s_if ?_)
        repeat' walk_at "e"
        refine w_meth ?_
        repeat' walk_at "e"
        refine ⟨ab, dxb, _, _, _, rfl, List.mem_cons_self, by decide, w_nil ?_⟩
        refine ⟨ab, dxb, vs, g, pd, pu, cur.n, cur.b, [], un, _, rfl, rfl, hcb, by omega, by omega, by decide, by omega, fun _ => ?_, fun l s e => absurd (congrArg List.length e) (by simp)⟩
        repeat' walk_at "e"
        refine g_lenO (.tail _ (.tail _ (.tail _ (.tail _ (.head _))))) ?_
        repeat' walk_at "e"
        · rename_i z
          exact absurd rfl z
        refine s_next ?_
        refine s_if ?_
        repeat' walk_at "e"
        refine g_lenO (.tail _ (.tail _ (.tail _ (.tail _ (.head _))))) ?_
        repeat' walk_at "e"
        · rename_i z
          exact absurd z (by decide)
        refine s_cv (Cv.perm rot1.symm) ?_
        refine s_next ?_
        exact hB.nx _ _ ⟨cur, [], beh, [], un, pd, pu, pb, ph, vs, g, _, O', _, _, _, _, hL.mono (by omega), by omega, by omega, by omega, rfl, rfl⟩
      · have hls : ((l ++ [s]).map fun s => SD.dat (steD s)).length = l.length + 1 := by rw [List.length_map, List.length_append]; simp
        have ids := hL.be s (List.mem_append_right _ List.mem_cons_self)
        have eF : SeL pb (l ++ [s]) = (pb, .lst ((l.map fun s => SD.dat (steD s)) ++ [.dat (steD s)])) := by
          unfold SeL
          rw [List.map_append]
          rfl
        refine s_seq (s_if ?_)
        repeat' walk_at "e"
        refine w_meth ?_
        repeat' walk_at "e"
        refine ⟨ab, dxb, _, _, _, rfl, List.mem_cons_self, by decide, w_nil ?_⟩
        refine undo_st (f := 100 + i) ids hL.cu hk (by simp only [List.length_append, List.length_cons, List.length_nil] at *; omega) (by simp only [List.length_append, List.length_cons, List.length_nil] at *; omega) fun vs2 => ?_
        generalize hg : ((cntB cur.b s.b s.n (wy cur s) s.b.length : Nat) : Int) = g2
        repeat' walk_at "e"
        refine g_lenO (.tail _ (.tail _ (.tail _ (.tail _ (.head _))))) ?_
        rw [hls]
        repeat' walk_at "e"
        · rename_i z
          rw [decide_eq_true (show (0 : Int) < ((l.length + 1 : Nat) : Int) by omega)] at z
          exact absurd rfl z
        refine s_next ?_
        refine s_if ?_
        repeat' walk_at "e"
        refine g_lenO (.tail _ (.tail _ (.tail _ (.tail _ (.head _))))) ?_
        rw [hls]
        repeat' walk_at "e"
        rotate_left 1
        · rename_i z
          exact absurd (by omega) z
        refine s_seq (s_drop (w_bm ?_))
        repeat' walk_at "e"
        refine ⟨ty_own (.tail _ (.tail _ (.tail _ (.tail _ (.tail _ (.head _)))))), ?_⟩
        repeat' walk_at "e"
        refine m_app (List.perm_middle (l₁ := [BnI C_Bench ab dxb vs2 s.b s.n g2 pd pu, StL pd d, StL pu (un ++ [p]), Box bx row (k4 + 1), SeL pb (l ++ [s])]) (a := SeL ph beh) (l₂ := O')) (Nat.lt_of_le_of_lt (show _ ≤ 100000 by rw [hhl]; omega) (by decide)) ?_
        refine s_seq (s_asg (w_pop ?_))
        repeat' walk_at "e"
        rw [eF]
        refine ⟨pb, _, _, _, rfl, (List.perm_middle (l₁ := [_, _, _, _, _]) (a := _) (l₂ := O')), ?_⟩
        have eH : (ph, OD.lst ((beh.map fun s => SD.dat (steD s)) ++ [SD.dat (steD cur)])) = SeL ph (beh ++ [cur]) := by
          unfold SeL
          rw [List.map_append]
          rfl
        rw [eH]
        refine s_cv (Cv.perm perm6) ?_
        refine s_asg ?_
        repeat' walk_at "e"
        refine ⟨cur, s, 100 + i, 100 + i, rfl, hL.cu, ids, ?_⟩
        rw [hg]
        exact hB.nx _ _ ⟨s, l, beh ++ [cur], d, un ++ [p], pd, pu, pb, ph, vs2, g2, _, O', _, _, _, _, LawI.mono (f := 100 + i) ⟨ids, fun x hx => hL.be x (List.mem_append_left _ hx), fun x hx => (List.mem_append.mp hx).elim (hL.bh x) fun e => by rw [List.mem_singleton.mp e]; exact hL.cu, hd, .snoc hL.u hk⟩ (by omega), by simp only [List.length_append, List.length_cons, List.length_nil] at *; omega, by omega, by omega, rfl, rfl⟩
    refine s_if ?_
    repeat' walk_at "e"
    · refine s_cv (Cv.perm rot1) ?_
      rcases hL.u.inv with ⟨rfl, rfl⟩ | ⟨l, d, s, p, rfl, rfl, hd, hk⟩
      · refine s_seq (s_if ?_)
        repeat' walk_at "e"
        refine w_meth ?_
        repeat' walk_at "e"
        refine ⟨ab, dxb, _, _, _, rfl, List.mem_cons_self, by decide, w_nil ?_⟩
        refine ⟨ab, dxb, vs, g, pd, pu, cur.n, cur.b, dn, [], _, rfl, rfl, hcb, by omega, by omega, by omega, by decide, fun _ => ?_, fun l s e => absurd (congrArg List.length e) (by simp)⟩
        repeat' walk_at "e"
        refine g_lenO (.tail _ (.tail _ (.tail _ (.tail _ (.tail _ (.head _)))))) ?_
        repeat' walk_at "e"
        · rename_i z
          exact absurd rfl z
        refine s_next ?_
        refine s_if ?_
        repeat' walk_at "e"
        refine g_lenO (.tail _ (.tail _ (.tail _ (.tail _ (.tail _ (.head _)))))) ?_
        repeat' walk_at "e"
        · rename_i z
          exact absurd z (by decide)
        refine s_cv (Cv.perm rot1.symm) ?_
        refine s_next ?_
        exact hB.nx _ _ ⟨cur, bef, [], dn, [], pd, pu, pb, ph, vs, g, _, O', _, _, _, _, hL.mono (by omega), by omega, by omega, by omega, rfl, rfl⟩
      · have hls : ((l ++ [s]).map fun s => SD.dat (steD s)).length = l.length + 1 := by rw [List.length_map, List.length_append]; simp
        have ids := hL.bh s (List.mem_append_right _ List.mem_cons_self)
        have eF : SeL ph (l ++ [s]) = (ph, .lst ((l.map fun s => SD.dat (steD s)) ++ [.dat (steD s)])) := by
          unfold SeL
          rw [List.map_append]
          rfl
        refine s_seq (s_if ?_)
        repeat' walk_at "e"
        refine w_meth ?_
        repeat' walk_at "e"
        refine ⟨ab, dxb, _, _, _, rfl, List.mem_cons_self, by decide, w_nil ?_⟩
        refine redo_st (f := 100 + i) ids hL.cu hk (by simp only [List.length_append, List.length_cons, List.length_nil] at *; omega) (by simp only [List.length_append, List.length_cons, List.length_nil] at *; omega) fun vs2 => ?_
        generalize hg : ((cntB cur.b s.b s.n (wy cur s) s.b.length : Nat) : Int) = g2
        repeat' walk_at "e"
        refine g_lenO (.tail _ (.tail _ (.tail _ (.tail _ (.tail _ (.head _)))))) ?_
        rw [hls]
        repeat' walk_at "e"
        · rename_i z
          rw [decide_eq_true (show (0 : Int) < ((l.length + 1 : Nat) : Int) by omega)] at z
          exact absurd rfl z
        refine s_next ?_
        refine s_if ?_
        repeat' walk_at "e"
        refine g_lenO (.tail _ (.tail _ (.tail _ (.tail _ (.tail _ (.head _)))))) ?_
        rw [hls]
        repeat' walk_at "e"
        rotate_left 1
        · rename_i z
          exact absurd (by omega) z
        refine s_seq (s_drop (w_bm ?_))
        repeat' walk_at "e"
        refine ⟨ty_own (.tail _ (.tail _ (.tail _ (.tail _ (.head _))))), ?_⟩
        repeat' walk_at "e"
        refine m_app (List.perm_middle (l₁ := [BnI C_Bench ab dxb vs2 s.b s.n g2 pd pu, StL pd (dn ++ [p]), StL pu d, Box bx row (k4 + 1)]) (a := SeL pb bef) (l₂ := SeL ph (l ++ [s]) :: O')) (Nat.lt_of_le_of_lt (show _ ≤ 100000 by rw [hbl]; omega) (by decide)) ?_
        refine s_seq (s_asg (w_pop ?_))
        repeat' walk_at "e"
        rw [eF]
        refine ⟨ph, _, _, _, rfl, (List.perm_middle (l₁ := [_, _, _, _, _]) (a := _) (l₂ := O')), ?_⟩
        have eH : (pb, OD.lst ((bef.map fun s => SD.dat (steD s)) ++ [SD.dat (steD cur)])) = SeL pb (bef ++ [cur]) := by
          unfold SeL
          rw [List.map_append]
          rfl
        rw [eH]
        refine s_cv (Cv.perm ((List.Perm.swap ..).trans perm6)) ?_
        refine s_asg ?_
        repeat' walk_at "e"
        refine ⟨cur, s, 100 + i, 100 + i, rfl, hL.cu, ids, ?_⟩
        rw [hg]
        exact hB.nx _ _ ⟨s, bef ++ [cur], l, dn ++ [p], d, pd, pu, pb, ph, vs2, g2, _, O', _, _, _, _, LawI.mono (f := 100 + i) ⟨ids, fun x hx => (List.mem_append.mp hx).elim (hL.be x) fun e => by rw [List.mem_singleton.mp e]; exact hL.cu, fun x hx => hL.bh x (List.mem_append_left _ hx), .snoc hL.d hk, hd⟩ (by omega), by simp only [List.length_append, List.length_cons, List.length_nil] at *; omega, by omega, by omega, rfl, rfl⟩
    refine s_seq (s_asg ?_)
    repeat' walk_at "e"
    refine ⟨bx, row, k4 + 1, cur, 100 + i, _, rfl, rfl, hrow, by omega, by omega, hL.cu, fun c rs2 cs2 k5 hx h5 h6 => ?_⟩
    have et : toldD cur.b.length cur.n dn.length c = .none := (told_ok hx.due).trans (if_neg (by omega))
    refine s_seq (s_if ?_)
    repeat' walk_at "e"
    refine w_callN ?_
    repeat' walk_at "e"
    refine ⟨ab, dxb, vs, g, pd, pu, cur.n, cur.b, dn, un, _, c, rfl, rot1, hcb, hcn, hcm, by omega, hx.ok, fun z => absurd et z, fun _ vs2 pu2 => ?_⟩
    rw [hx.fo, hx.ba]
    have hid2 := hx.id
    obtain ⟨t, ht⟩ : ∃ t : Ste, t = ⟨afB cur.b c, afN cur.n c, rs2, cs2⟩ := ⟨_, rfl⟩
    have t1 : afB cur.b c = t.b := by rw [ht]
    have t2 : afN cur.n c = t.n := by rw [ht]
    have t3 : rs2 = t.rs := by rw [ht]
    have t4 : cs2 = t.cs := by rw [ht]
    rw [← ht] at hid2
    rw [t1, t2, t3, t4]
    clear ht hx
    generalize hg : ((cntB cur.b t.b t.n (wy cur t) t.b.length : Nat) : Int) = g2
    repeat' walk_at "e"
    refine s_next ?_
    refine s_seq (s_drop (w_bm ?_))
    repeat' walk_at "e"
    refine ⟨ty_own (.tail _ (.tail _ (.tail _ (.tail _ (.head _))))), ?_⟩
    repeat' walk_at "e"
    refine m_app (List.perm_middle (l₁ := [_, _, _, _]) (a := SeL pb bef) (l₂ := SeL ph beh :: O')) (Nat.lt_of_le_of_lt (show _ ≤ 100000 by rw [hbl]; omega) (by decide)) ?_
    have eH : (pb, OD.lst ((bef.map fun s => SD.dat (steD s)) ++ [SD.dat (steD cur)])) = SeL pb (bef ++ [cur]) := by
      unfold SeL
      rw [List.map_append]
      rfl
    rw [eH]
    refine s_seq (s_asg (w_lstO ?_))
    repeat' walk_at "e"
    refine ⟨by decide, fun ph2 => ?_⟩
    refine s_seq (s_asg ?_)
    repeat' walk_at "e"
    obtain ⟨htb, htn, htm⟩ := nd_of hid2
    refine ⟨t.n, t.b, t.rs, t.cs, rfl, htb, by omega, by omega, ?_⟩
    refine s_cv (Cv.perm ((List.Perm.swap ..).trans perm6)) ?_
    refine s_asg ?_
    repeat' walk_at "e"
    refine ⟨cur, t, 100 + i, 100 + i + 1, rfl, hL.cu, hid2, ?_⟩
    rw [hg]
    exact hB.nx _ _ ⟨t, bef ++ [cur], [], dn ++ [⟨cur.b, wy t cur, t.b, wy cur t⟩], [], pd, pu2, pb, ph2, vs2, g2, k5, SeL ph beh :: O', _, _, _, _, LawI.mono (f := 100 + i + 1) ⟨hid2, fun y hy => (List.mem_append.mp hy).elim (fun e => (hL.be y e).mono (by omega)) fun e => by rw [List.mem_singleton.mp e]; exact hL.cu.mono (by omega), fun _ h => absurd h List.not_mem_nil, .snoc hL.d ⟨rfl, rfl, rfl, rfl⟩, .nil _⟩ (by omega), by simp only [List.length_append, List.length_cons, List.length_nil] at *; omega, by omega, by omega, rfl, rfl⟩
  obtain ⟨cur, bef, beh, dn, un, pd, pu, pb, ph, vs, g, k3, O', y3, y9, y10, y11, hL, hlen, h0, h1, rfl, rfl⟩ := hI
  obtain ⟨hcb, hcn, hcm⟩ := nd_of hL.cu
  refine s_ret ?_
  repeat' walk_at "e"
  refine ⟨ab, dxb, vs, g, _, _, cur, rfl, (.tail _ (.head _)), hcb, hcn, hcm, ?_⟩
  exact q _
end
theorem all_mk {l : PySem.W.OpenLaw} {w : World} {K : PySem.W.Frag} {h : Heap} {mg : Str → Option Value} {fa : Addr} (X : K.In h) (G : h.Ns mainGlobals mg) (hfa : mg "law" = some (.ref fa))
    {C_Bench : Addr}
    {od_0 an_0 : Option Addr} {sl_0 : Array (Option Value)} {oc_0 kV_0 dc_0 pm_0 cd_0 ct_0 : Value} {f_0 : Addr}
    {od_1 an_1 : Option Addr} {sl_1 : Array (Option Value)} {oc_1 kV_1 dc_1 pm_1 cd_1 ct_1 : Value} {f_1 : Addr}
    {od_2 an_2 : Option Addr} {sl_2 : Array (Option Value)} {oc_2 kV_2 dc_2 pm_2 cd_2 ct_2 : Value} {f_2 : Addr}
    {od_3 an_3 : Option Addr} {sl_3 : Array (Option Value)} {oc_3 kV_3 dc_3 pm_3 cd_3 ct_3 : Value} {f_3 : Addr}
    {od_4 an_4 : Option Addr} {sl_4 : Array (Option Value)} {oc_4 kV_4 dc_4 pm_4 cd_4 ct_4 : Value} {f_4 : Addr}
    {od_5 an_5 : Option Addr} {sl_5 : Array (Option Value)} {oc_5 kV_5 dc_5 pm_5 cd_5 ct_5 : Value} {f_5 : Addr}
    {od_6 an_6 : Option Addr} {sl_6 : Array (Option Value)} {oc_6 kV_6 dc_6 pm_6 cd_6 ct_6 : Value} {f_6 : Addr}
    {od_7 an_7 : Option Addr} {sl_7 : Array (Option Value)} {oc_7 kV_7 dc_7 pm_7 cd_7 ct_7 : Value} {f_7 : Addr}
    {od_8 an_8 : Option Addr} {sl_8 : Array (Option Value)} {oc_8 kV_8 dc_8 pm_8 cd_8 ct_8 : Value} {f_8 : Addr}
    {od_9 an_9 : Option Addr} {sl_9 : Array (Option Value)} {oc_9 kV_9 dc_9 pm_9 cd_9 ct_9 : Value} {f_9 : Addr}
    {od_10 an_10 : Option Addr} {sl_10 : Array (Option Value)} {oc_10 kV_10 dc_10 pm_10 cd_10 ct_10 : Value} {f_10 : Addr}
    {od_11 an_11 : Option Addr} {sl_11 : Array (Option Value)} {oc_11 kV_11 dc_11 pm_11 cd_11 ct_11 : Value} {f_11 : Addr}
    {od_12 an_12 : Option Addr} {sl_12 : Array (Option Value)} {oc_12 kV_12 dc_12 pm_12 cd_12 ct_12 : Value} {f_12 : Addr}
    {od_13 an_13 : Option Addr} {sl_13 : Array (Option Value)} {oc_13 kV_13 dc_13 pm_13 cd_13 ct_13 : Value} {f_13 : Addr}
    {od_14 an_14 : Option Addr} {sl_14 : Array (Option Value)} {oc_14 kV_14 dc_14 pm_14 cd_14 ct_14 : Value} {f_14 : Addr}
    {od_15 an_15 : Option Addr} {sl_15 : Array (Option Value)} {oc_15 kV_15 dc_15 pm_15 cd_15 ct_15 : Value} {f_15 : Addr}
    {od_16 an_16 : Option Addr} {sl_16 : Array (Option Value)} {oc_16 kV_16 dc_16 pm_16 cd_16 ct_16 : Value} {f_16 : Addr}
    {od_17 an_17 : Option Addr} {sl_17 : Array (Option Value)} {oc_17 kV_17 dc_17 pm_17 cd_17 ct_17 : Value} {f_17 : Addr}
    {od_18 an_18 : Option Addr} {sl_18 : Array (Option Value)} {oc_18 kV_18 dc_18 pm_18 cd_18 ct_18 : Value} {f_18 : Addr}
    {od_19 an_19 : Option Addr} {sl_19 : Array (Option Value)} {oc_19 kV_19 dc_19 pm_19 cd_19 ct_19 : Value} {f_19 : Addr}
    {od_20 an_20 : Option Addr} {sl_20 : Array (Option Value)} {oc_20 kV_20 dc_20 pm_20 cd_20 ct_20 : Value} {f_20 : Addr}
    {od_21 an_21 : Option Addr} {sl_21 : Array (Option Value)} {oc_21 kV_21 dc_21 pm_21 cd_21 ct_21 : Value} {f_21 : Addr}
    {od_22 an_22 : Option Addr} {sl_22 : Array (Option Value)} {oc_22 kV_22 dc_22 pm_22 cd_22 ct_22 : Value} {f_22 : Addr}
    {od_23 an_23 : Option Addr} {sl_23 : Array (Option Value)} {oc_23 kV_23 dc_23 pm_23 cd_23 ct_23 : Value} {f_23 : Addr}
    {od_24 an_24 : Option Addr} {sl_24 : Array (Option Value)} {oc_24 kV_24 dc_24 pm_24 cd_24 ct_24 : Value} {f_24 : Addr}
    {od_25 an_25 : Option Addr} {sl_25 : Array (Option Value)} {oc_25 kV_25 dc_25 pm_25 cd_25 ct_25 : Value} {f_25 : Addr}
    {od_26 an_26 : Option Addr} {sl_26 : Array (Option Value)} {oc_26 kV_26 dc_26 pm_26 cd_26 ct_26 : Value} {f_26 : Addr}
    {od_27 an_27 : Option Addr} {sl_27 : Array (Option Value)} {oc_27 kV_27 dc_27 pm_27 cd_27 ct_27 : Value} {f_27 : Addr}
    {od_28 an_28 : Option Addr} {sl_28 : Array (Option Value)} {oc_28 kV_28 dc_28 pm_28 cd_28 ct_28 : Value} {f_28 : Addr}
    {od_29 an_29 : Option Addr} {sl_29 : Array (Option Value)} {oc_29 kV_29 dc_29 pm_29 cd_29 ct_29 : Value} {f_29 : Addr}
    {od_30 an_30 : Option Addr} {sl_30 : Array (Option Value)} {oc_30 kV_30 dc_30 pm_30 cd_30 ct_30 : Value} {f_30 : Addr}
    {od_31 an_31 : Option Addr} {sl_31 : Array (Option Value)} {oc_31 kV_31 dc_31 pm_31 cd_31 ct_31 : Value} {f_31 : Addr}
    {od_32 an_32 : Option Addr} {sl_32 : Array (Option Value)} {oc_32 kV_32 dc_32 pm_32 cd_32 ct_32 : Value} {f_32 : Addr}
    {od_33 an_33 : Option Addr} {sl_33 : Array (Option Value)} {oc_33 kV_33 dc_33 pm_33 cd_33 ct_33 : Value} {f_33 : Addr}
    {od_34 an_34 : Option Addr} {sl_34 : Array (Option Value)} {oc_34 kV_34 dc_34 pm_34 cd_34 ct_34 : Value} {f_34 : Addr}
    {od_35 an_35 : Option Addr} {sl_35 : Array (Option Value)} {oc_35 kV_35 dc_35 pm_35 cd_35 ct_35 : Value} {f_35 : Addr}
    {od_36 an_36 : Option Addr} {sl_36 : Array (Option Value)} {oc_36 kV_36 dc_36 pm_36 cd_36 ct_36 : Value} {f_36 : Addr}
    {od_37 an_37 : Option Addr} {sl_37 : Array (Option Value)} {oc_37 kV_37 dc_37 pm_37 cd_37 ct_37 : Value} {f_37 : Addr}
    {od_38 an_38 : Option Addr} {sl_38 : Array (Option Value)} {oc_38 kV_38 dc_38 pm_38 cd_38 ct_38 : Value} {f_38 : Addr}
    {od_39 an_39 : Option Addr} {sl_39 : Array (Option Value)} {oc_39 kV_39 dc_39 pm_39 cd_39 ct_39 : Value} {f_39 : Addr}
    {od_40 an_40 : Option Addr} {sl_40 : Array (Option Value)} {oc_40 kV_40 dc_40 pm_40 cd_40 ct_40 : Value} {f_40 : Addr}
    {od_41 an_41 : Option Addr} {sl_41 : Array (Option Value)} {oc_41 kV_41 dc_41 pm_41 cd_41 ct_41 : Value} {f_41 : Addr}
    {od_42 an_42 : Option Addr} {sl_42 : Array (Option Value)} {oc_42 kV_42 dc_42 pm_42 cd_42 ct_42 : Value} {f_42 : Addr}
    {od_43 an_43 : Option Addr} {sl_43 : Array (Option Value)} {oc_43 kV_43 dc_43 pm_43 cd_43 ct_43 : Value} {f_43 : Addr}
    {od_44 an_44 : Option Addr} {sl_44 : Array (Option Value)} {oc_44 kV_44 dc_44 pm_44 cd_44 ct_44 : Value} {f_44 : Addr}
    {od_45 an_45 : Option Addr} {sl_45 : Array (Option Value)} {oc_45 kV_45 dc_45 pm_45 cd_45 ct_45 : Value} {f_45 : Addr}
    {od_46 an_46 : Option Addr} {sl_46 : Array (Option Value)} {oc_46 kV_46 dc_46 pm_46 cd_46 ct_46 : Value} {f_46 : Addr}
    {od_47 an_47 : Option Addr} {sl_47 : Array (Option Value)} {oc_47 kV_47 dc_47 pm_47 cd_47 ct_47 : Value} {f_47 : Addr}
    {od_48 an_48 : Option Addr} {sl_48 : Array (Option Value)} {oc_48 kV_48 dc_48 pm_48 cd_48 ct_48 : Value} {f_48 : Addr}
    {od_49 an_49 : Option Addr} {sl_49 : Array (Option Value)} {oc_49 kV_49 dc_49 pm_49 cd_49 ct_49 : Value} {f_49 : Addr}
    {od_50 an_50 : Option Addr} {sl_50 : Array (Option Value)} {oc_50 kV_50 dc_50 pm_50 cd_50 ct_50 : Value} {f_50 : Addr}
    {t_MOST_CHANGES : Tok}
    {t_MOST_LINES : Tok}
    {t_GREATEST_AMOUNT : Tok}
    {C_NoSuchColumn : Addr}
    {C_NoSuchCorner : Addr}
    {C_NoSuchRow : Addr}
    {C_TooManyChanges : Addr}
    {C_WalkhandsError : Addr}
    {C_WrongAmounts : Addr}
    {C_WrongSize : Addr}
    (a_0 : PySem.W.nsIn K mainGlobals "_law_draws" = some (some (.ref f_0)))
    (l_0 : K.lookup f_0 = some ⟨oc_0, od_0, .func (PySem.W.fnOf "_law_draws" "_law_draws" (defArgs s_law_draws) (defBody s_law_draws) (defScope s_law_draws) .none kV_0 dc_0 pm_0 an_0 cd_0 ct_0), sl_0⟩)
    (c_0 : PySem.W.codeIn K cd_0 "_law_draws" = true)
    (k_0 : PySem.W.keepIn K (.ref f_0) = true)
    (a_1 : PySem.W.nsIn K mainGlobals "_law_box" = some (some (.ref f_1)))
    (l_1 : K.lookup f_1 = some ⟨oc_1, od_1, .func (PySem.W.fnOf "_law_box" "_law_box" (defArgs s_law_box) (defBody s_law_box) (defScope s_law_box) .none kV_1 dc_1 pm_1 an_1 cd_1 ct_1), sl_1⟩)
    (c_1 : PySem.W.codeIn K cd_1 "_law_box" = true)
    (k_1 : PySem.W.keepIn K (.ref f_1) = true)
    (a_2 : PySem.W.nsIn K mainGlobals "_law_next" = some (some (.ref f_2)))
    (l_2 : K.lookup f_2 = some ⟨oc_2, od_2, .func (PySem.W.fnOf "_law_next" "_law_next" (defArgs s_law_next) (defBody s_law_next) (defScope s_law_next) .none kV_2 dc_2 pm_2 an_2 cd_2 ct_2), sl_2⟩)
    (c_2 : PySem.W.codeIn K cd_2 "_law_next" = true)
    (k_2 : PySem.W.keepIn K (.ref f_2) = true)
    (a_3 : PySem.W.nsIn K mainGlobals "_law_board" = some (some (.ref f_3)))
    (l_3 : K.lookup f_3 = some ⟨oc_3, od_3, .func (PySem.W.fnOf "_law_board" "_law_board" (defArgs s_law_board) (defBody s_law_board) (defScope s_law_board) .none kV_3 dc_3 pm_3 an_3 cd_3 ct_3), sl_3⟩)
    (c_3 : PySem.W.codeIn K cd_3 "_law_board" = true)
    (k_3 : PySem.W.keepIn K (.ref f_3) = true)
    (a_4 : PySem.W.nsIn K mainGlobals "_law_part" = some (some (.ref f_4)))
    (l_4 : K.lookup f_4 = some ⟨oc_4, od_4, .func (PySem.W.fnOf "_law_part" "_law_part" (defArgs s_law_part) (defBody s_law_part) (defScope s_law_part) .none kV_4 dc_4 pm_4 an_4 cd_4 ct_4), sl_4⟩)
    (c_4 : PySem.W.codeIn K cd_4 "_law_part" = true)
    (k_4 : PySem.W.keepIn K (.ref f_4) = true)
    (a_5 : PySem.W.nsIn K mainGlobals "_law_grow" = some (some (.ref f_5)))
    (l_5 : K.lookup f_5 = some ⟨oc_5, od_5, .func (PySem.W.fnOf "_law_grow" "_law_grow" (defArgs s_law_grow) (defBody s_law_grow) (defScope s_law_grow) .none kV_5 dc_5 pm_5 an_5 cd_5 ct_5), sl_5⟩)
    (c_5 : PySem.W.codeIn K cd_5 "_law_grow" = true)
    (k_5 : PySem.W.keepIn K (.ref f_5) = true)
    (a_6 : PySem.W.nsIn K mainGlobals "_law_shapes" = some (some (.ref f_6)))
    (l_6 : K.lookup f_6 = some ⟨oc_6, od_6, .func (PySem.W.fnOf "_law_shapes" "_law_shapes" (defArgs s_law_shapes) (defBody s_law_shapes) (defScope s_law_shapes) .none kV_6 dc_6 pm_6 an_6 cd_6 ct_6), sl_6⟩)
    (c_6 : PySem.W.codeIn K cd_6 "_law_shapes" = true)
    (k_6 : PySem.W.keepIn K (.ref f_6) = true)
    (a_7 : PySem.W.nsIn K mainGlobals "_law_state" = some (some (.ref f_7)))
    (l_7 : K.lookup f_7 = some ⟨oc_7, od_7, .func (PySem.W.fnOf "_law_state" "_law_state" (defArgs s_law_state) (defBody s_law_state) (defScope s_law_state) .none kV_7 dc_7 pm_7 an_7 cd_7 ct_7), sl_7⟩)
    (c_7 : PySem.W.codeIn K cd_7 "_law_state" = true)
    (k_7 : PySem.W.keepIn K (.ref f_7) = true)
    (a_8 : PySem.W.findIn K (.ref C_Bench) "_size" = some (some (.ref f_8)))
    (y_8 : PySem.W.isFn K (.ref f_8) = true)
    (l_8 : K.lookup f_8 = some ⟨oc_8, od_8, .func (PySem.W.fnOf "_size" "Bench._size" (defArgs s_Bench_size) (defBody s_Bench_size) (defScope s_Bench_size) .none kV_8 dc_8 pm_8 an_8 cd_8 ct_8), sl_8⟩)
    (c_8 : PySem.W.codeIn K cd_8 "Bench._size" = true)
    (k_8 : PySem.W.keepIn K (.ref f_8) = true)
    (a_9 : PySem.W.nsIn K mainGlobals "_without_zeros" = some (some (.ref f_9)))
    (l_9 : K.lookup f_9 = some ⟨oc_9, od_9, .func (PySem.W.fnOf "_without_zeros" "_without_zeros" (defArgs s_without_zeros) (defBody s_without_zeros) (defScope s_without_zeros) .none kV_9 dc_9 pm_9 an_9 cd_9 ct_9), sl_9⟩)
    (c_9 : PySem.W.codeIn K cd_9 "_without_zeros" = true)
    (k_9 : PySem.W.keepIn K (.ref f_9) = true)
    (a_10 : PySem.W.nsIn K mainGlobals "part" = some (some (.ref f_10)))
    (l_10 : K.lookup f_10 = some ⟨oc_10, od_10, .func (PySem.W.fnOf "part" "part" (defArgs s_part) (defBody s_part) (defScope s_part) .none kV_10 dc_10 pm_10 an_10 cd_10 ct_10), sl_10⟩)
    (c_10 : PySem.W.codeIn K cd_10 "part" = true)
    (k_10 : PySem.W.keepIn K (.ref f_10) = true)
    (a_11 : PySem.W.nsIn K mainGlobals "_greater" = some (some (.ref f_11)))
    (l_11 : K.lookup f_11 = some ⟨oc_11, od_11, .func (PySem.W.fnOf "_greater" "_greater" (defArgs s_greater) (defBody s_greater) (defScope s_greater) .none kV_11 dc_11 pm_11 an_11 cd_11 ct_11), sl_11⟩)
    (c_11 : PySem.W.codeIn K cd_11 "_greater" = true)
    (k_11 : PySem.W.keepIn K (.ref f_11) = true)
    (a_12 : PySem.W.nsIn K mainGlobals "_across" = some (some (.ref f_12)))
    (l_12 : K.lookup f_12 = some ⟨oc_12, od_12, .func (PySem.W.fnOf "_across" "_across" (defArgs s_across) (defBody s_across) (defScope s_across) .none kV_12 dc_12 pm_12 an_12 cd_12 ct_12), sl_12⟩)
    (c_12 : PySem.W.codeIn K cd_12 "_across" = true)
    (k_12 : PySem.W.keepIn K (.ref f_12) = true)
    (a_13 : PySem.W.nsIn K mainGlobals "local_rule" = some (some (.ref f_13)))
    (l_13 : K.lookup f_13 = some ⟨oc_13, od_13, .func (PySem.W.fnOf "local_rule" "local_rule" (defArgs s_local_rule) (defBody s_local_rule) (defScope s_local_rule) .none kV_13 dc_13 pm_13 an_13 cd_13 ct_13), sl_13⟩)
    (c_13 : PySem.W.codeIn K cd_13 "local_rule" = true)
    (k_13 : PySem.W.keepIn K (.ref f_13) = true)
    (a_14 : PySem.W.nsIn K mainGlobals "_row_below" = some (some (.ref f_14)))
    (l_14 : K.lookup f_14 = some ⟨oc_14, od_14, .func (PySem.W.fnOf "_row_below" "_row_below" (defArgs s_row_below) (defBody s_row_below) (defScope s_row_below) .none kV_14 dc_14 pm_14 an_14 cd_14 ct_14), sl_14⟩)
    (c_14 : PySem.W.codeIn K cd_14 "_row_below" = true)
    (k_14 : PySem.W.keepIn K (.ref f_14) = true)
    (a_15 : PySem.W.nsIn K mainGlobals "shapes_of" = some (some (.ref f_15)))
    (l_15 : K.lookup f_15 = some ⟨oc_15, od_15, .func (PySem.W.fnOf "shapes_of" "shapes_of" (defArgs s_shapes_of) (defBody s_shapes_of) (defScope s_shapes_of) .none kV_15 dc_15 pm_15 an_15 cd_15 ct_15), sl_15⟩)
    (c_15 : PySem.W.codeIn K cd_15 "shapes_of" = true)
    (k_15 : PySem.W.keepIn K (.ref f_15) = true)
    (a_16 : PySem.W.findIn K (.ref C_Bench) "__init__" = some (some (.ref f_16)))
    (y_16 : PySem.W.isFn K (.ref f_16) = true)
    (l_16 : K.lookup f_16 = some ⟨oc_16, od_16, .func (PySem.W.fnOf "__init__" "Bench.__init__" (defArgs s_Bench_init) (defBody s_Bench_init) (defScope s_Bench_init) .none kV_16 dc_16 pm_16 an_16 cd_16 ct_16), sl_16⟩)
    (c_16 : PySem.W.codeIn K cd_16 "Bench.__init__" = true)
    (k_16 : PySem.W.keepIn K (.ref f_16) = true)
    (a_17 : PySem.W.findIn K (.ref C_Bench) "board" = some (some (.ref f_17)))
    (y_17 : PySem.W.isFn K (.ref f_17) = true)
    (l_17 : K.lookup f_17 = some ⟨oc_17, od_17, .func (PySem.W.fnOf "board" "Bench.board" (defArgs s_Bench_board) (defBody s_Bench_board) (defScope s_Bench_board) .none kV_17 dc_17 pm_17 an_17 cd_17 ct_17), sl_17⟩)
    (c_17 : PySem.W.codeIn K cd_17 "Bench.board" = true)
    (k_17 : PySem.W.keepIn K (.ref f_17) = true)
    (a_18 : PySem.W.findIn K (.ref C_Bench) "grown" = some (some (.ref f_18)))
    (y_18 : PySem.W.isFn K (.ref f_18) = true)
    (l_18 : K.lookup f_18 = some ⟨oc_18, od_18, .func (PySem.W.fnOf "grown" "Bench.grown" (defArgs s_Bench_grown) (defBody s_Bench_grown) (defScope s_Bench_grown) .none kV_18 dc_18 pm_18 an_18 cd_18 ct_18), sl_18⟩)
    (c_18 : PySem.W.codeIn K cd_18 "Bench.grown" = true)
    (k_18 : PySem.W.keepIn K (.ref f_18) = true)
    (a_19 : PySem.W.findIn K (.ref C_Bench) "shape" = some (some (.ref f_19)))
    (y_19 : PySem.W.isFn K (.ref f_19) = true)
    (l_19 : K.lookup f_19 = some ⟨oc_19, od_19, .func (PySem.W.fnOf "shape" "Bench.shape" (defArgs s_Bench_shape) (defBody s_Bench_shape) (defScope s_Bench_shape) .none kV_19 dc_19 pm_19 an_19 cd_19 ct_19), sl_19⟩)
    (c_19 : PySem.W.codeIn K cd_19 "Bench.shape" = true)
    (k_19 : PySem.W.keepIn K (.ref f_19) = true)
    (a_20 : PySem.W.findIn K (.ref C_Bench) "most" = some (some (.ref f_20)))
    (y_20 : PySem.W.isFn K (.ref f_20) = true)
    (l_20 : K.lookup f_20 = some ⟨oc_20, od_20, .func (PySem.W.fnOf "most" "Bench.most" (defArgs s_Bench_most) (defBody s_Bench_most) (defScope s_Bench_most) .none kV_20 dc_20 pm_20 an_20 cd_20 ct_20), sl_20⟩)
    (c_20 : PySem.W.codeIn K cd_20 "Bench.most" = true)
    (k_20 : PySem.W.keepIn K (.ref f_20) = true)
    (a_21 : PySem.W.nsIn K mainGlobals "_law_right" = some (some (.ref f_21)))
    (l_21 : K.lookup f_21 = some ⟨oc_21, od_21, .func (PySem.W.fnOf "_law_right" "_law_right" (defArgs s_law_right) (defBody s_law_right) (defScope s_law_right) .none kV_21 dc_21 pm_21 an_21 cd_21 ct_21), sl_21⟩)
    (c_21 : PySem.W.codeIn K cd_21 "_law_right" = true)
    (k_21 : PySem.W.keepIn K (.ref f_21) = true)
    (a_22 : PySem.W.findIn K (.ref C_Bench) "changes" = some (some (.ref f_22)))
    (y_22 : PySem.W.isFn K (.ref f_22) = true)
    (l_22 : K.lookup f_22 = some ⟨oc_22, od_22, .func (PySem.W.fnOf "changes" "Bench.changes" (defArgs s_Bench_changes) (defBody s_Bench_changes) (defScope s_Bench_changes) .none kV_22 dc_22 pm_22 an_22 cd_22 ct_22), sl_22⟩)
    (c_22 : PySem.W.codeIn K cd_22 "Bench.changes" = true)
    (k_22 : PySem.W.keepIn K (.ref f_22) = true)
    (a_23 : PySem.W.findIn K (.ref C_Bench) "undone" = some (some (.ref f_23)))
    (y_23 : PySem.W.isFn K (.ref f_23) = true)
    (l_23 : K.lookup f_23 = some ⟨oc_23, od_23, .func (PySem.W.fnOf "undone" "Bench.undone" (defArgs s_Bench_undone) (defBody s_Bench_undone) (defScope s_Bench_undone) .none kV_23 dc_23 pm_23 an_23 cd_23 ct_23), sl_23⟩)
    (c_23 : PySem.W.codeIn K cd_23 "Bench.undone" = true)
    (k_23 : PySem.W.keepIn K (.ref f_23) = true)
    (a_24 : PySem.W.findIn K (.ref C_Bench) "_square" = some (some (.ref f_24)))
    (y_24 : PySem.W.isFn K (.ref f_24) = true)
    (l_24 : K.lookup f_24 = some ⟨oc_24, od_24, .func (PySem.W.fnOf "_square" "Bench._square" (defArgs s_Bench_square) (defBody s_Bench_square) (defScope s_Bench_square) .none kV_24 dc_24 pm_24 an_24 cd_24 ct_24), sl_24⟩)
    (c_24 : PySem.W.codeIn K cd_24 "Bench._square" = true)
    (k_24 : PySem.W.keepIn K (.ref f_24) = true)
    (a_25 : PySem.W.findIn K (.ref C_Bench) "_row_below" = some (some (.ref f_25)))
    (y_25 : PySem.W.isFn K (.ref f_25) = true)
    (l_25 : K.lookup f_25 = some ⟨oc_25, od_25, .func (PySem.W.fnOf "_row_below" "Bench._row_below" (defArgs s_Bench_row_below) (defBody s_Bench_row_below) (defScope s_Bench_row_below) .none kV_25 dc_25 pm_25 an_25 cd_25 ct_25), sl_25⟩)
    (c_25 : PySem.W.codeIn K cd_25 "Bench._row_below" = true)
    (k_25 : PySem.W.keepIn K (.ref f_25) = true)
    (a_26 : PySem.W.findIn K (.ref C_Bench) "_become" = some (some (.ref f_26)))
    (y_26 : PySem.W.isFn K (.ref f_26) = true)
    (l_26 : K.lookup f_26 = some ⟨oc_26, od_26, .func (PySem.W.fnOf "_become" "Bench._become" (defArgs s_Bench_become) (defBody s_Bench_become) (defScope s_Bench_become) .none kV_26 dc_26 pm_26 an_26 cd_26 ct_26), sl_26⟩)
    (c_26 : PySem.W.codeIn K cd_26 "Bench._become" = true)
    (k_26 : PySem.W.keepIn K (.ref f_26) = true)
    (a_27 : PySem.W.findIn K (.ref C_Bench) "undo" = some (some (.ref f_27)))
    (y_27 : PySem.W.isFn K (.ref f_27) = true)
    (l_27 : K.lookup f_27 = some ⟨oc_27, od_27, .func (PySem.W.fnOf "undo" "Bench.undo" (defArgs s_Bench_undo) (defBody s_Bench_undo) (defScope s_Bench_undo) .none kV_27 dc_27 pm_27 an_27 cd_27 ct_27), sl_27⟩)
    (c_27 : PySem.W.codeIn K cd_27 "Bench.undo" = true)
    (k_27 : PySem.W.keepIn K (.ref f_27) = true)
    (a_28 : PySem.W.nsIn K mainGlobals "_law_square" = some (some (.ref f_28)))
    (l_28 : K.lookup f_28 = some ⟨oc_28, od_28, .func (PySem.W.fnOf "_law_square" "_law_square" (defArgs s_law_square) (defBody s_law_square) (defScope s_law_square) .none kV_28 dc_28 pm_28 an_28 cd_28 ct_28), sl_28⟩)
    (c_28 : PySem.W.codeIn K cd_28 "_law_square" = true)
    (k_28 : PySem.W.keepIn K (.ref f_28) = true)
    (a_29 : PySem.W.nsIn K mainGlobals "_law_grown" = some (some (.ref f_29)))
    (l_29 : K.lookup f_29 = some ⟨oc_29, od_29, .func (PySem.W.fnOf "_law_grown" "_law_grown" (defArgs s_law_grown) (defBody s_law_grown) (defScope s_law_grown) .none kV_29 dc_29 pm_29 an_29 cd_29 ct_29), sl_29⟩)
    (c_29 : PySem.W.codeIn K cd_29 "_law_grown" = true)
    (k_29 : PySem.W.keepIn K (.ref f_29) = true)
    (a_30 : PySem.W.findIn K (.ref C_Bench) "redo" = some (some (.ref f_30)))
    (y_30 : PySem.W.isFn K (.ref f_30) = true)
    (l_30 : K.lookup f_30 = some ⟨oc_30, od_30, .func (PySem.W.fnOf "redo" "Bench.redo" (defArgs s_Bench_redo) (defBody s_Bench_redo) (defScope s_Bench_redo) .none kV_30 dc_30 pm_30 an_30 cd_30 ct_30), sl_30⟩)
    (c_30 : PySem.W.codeIn K cd_30 "Bench.redo" = true)
    (k_30 : PySem.W.keepIn K (.ref f_30) = true)
    (a_31 : PySem.W.nsIn K mainGlobals "_law_change" = some (some (.ref f_31)))
    (l_31 : K.lookup f_31 = some ⟨oc_31, od_31, .func (PySem.W.fnOf "_law_change" "_law_change" (defArgs s_law_change) (defBody s_law_change) (defScope s_law_change) .none kV_31 dc_31 pm_31 an_31 cd_31 ct_31), sl_31⟩)
    (c_31 : PySem.W.codeIn K cd_31 "_law_change" = true)
    (k_31 : PySem.W.keepIn K (.ref f_31) = true)
    (a_32 : PySem.W.findIn K (.ref C_Bench) "_change" = some (some (.ref f_32)))
    (y_32 : PySem.W.isFn K (.ref f_32) = true)
    (l_32 : K.lookup f_32 = some ⟨oc_32, od_32, .func (PySem.W.fnOf "_change" "Bench._change" (defArgs s_Bench_change) (defBody s_Bench_change) (defScope s_Bench_change) .none kV_32 dc_32 pm_32 an_32 cd_32 ct_32), sl_32⟩)
    (c_32 : PySem.W.codeIn K cd_32 "Bench._change" = true)
    (k_32 : PySem.W.keepIn K (.ref f_32) = true)
    (a_33 : PySem.W.nsIn K mainGlobals "_check_column" = some (some (.ref f_33)))
    (l_33 : K.lookup f_33 = some ⟨oc_33, od_33, .func (PySem.W.fnOf "_check_column" "_check_column" (defArgs s_check_column) (defBody s_check_column) (defScope s_check_column) .none kV_33 dc_33 pm_33 an_33 cd_33 ct_33), sl_33⟩)
    (c_33 : PySem.W.codeIn K cd_33 "_check_column" = true)
    (k_33 : PySem.W.keepIn K (.ref f_33) = true)
    (a_34 : PySem.W.nsIn K mainGlobals "_check_size" = some (some (.ref f_34)))
    (l_34 : K.lookup f_34 = some ⟨oc_34, od_34, .func (PySem.W.fnOf "_check_size" "_check_size" (defArgs s_check_size) (defBody s_check_size) (defScope s_check_size) .none kV_34 dc_34 pm_34 an_34 cd_34 ct_34), sl_34⟩)
    (c_34 : PySem.W.codeIn K cd_34 "_check_size" = true)
    (k_34 : PySem.W.keepIn K (.ref f_34) = true)
    (a_35 : PySem.W.nsIn K mainGlobals "_all_stay" = some (some (.ref f_35)))
    (l_35 : K.lookup f_35 = some ⟨oc_35, od_35, .func (PySem.W.fnOf "_all_stay" "_all_stay" (defArgs s_all_stay) (defBody s_all_stay) (defScope s_all_stay) .none kV_35 dc_35 pm_35 an_35 cd_35 ct_35), sl_35⟩)
    (c_35 : PySem.W.codeIn K cd_35 "_all_stay" = true)
    (k_35 : PySem.W.keepIn K (.ref f_35) = true)
    (a_36 : PySem.W.nsIn K mainGlobals "_without_line" = some (some (.ref f_36)))
    (l_36 : K.lookup f_36 = some ⟨oc_36, od_36, .func (PySem.W.fnOf "_without_line" "_without_line" (defArgs s_without_line) (defBody s_without_line) (defScope s_without_line) .none kV_36 dc_36 pm_36 an_36 cd_36 ct_36), sl_36⟩)
    (c_36 : PySem.W.codeIn K cd_36 "_without_line" = true)
    (k_36 : PySem.W.keepIn K (.ref f_36) = true)
    (a_37 : PySem.W.nsIn K mainGlobals "_one_goes" = some (some (.ref f_37)))
    (l_37 : K.lookup f_37 = some ⟨oc_37, od_37, .func (PySem.W.fnOf "_one_goes" "_one_goes" (defArgs s_one_goes) (defBody s_one_goes) (defScope s_one_goes) .none kV_37 dc_37 pm_37 an_37 cd_37 ct_37), sl_37⟩)
    (c_37 : PySem.W.codeIn K cd_37 "_one_goes" = true)
    (k_37 : PySem.W.keepIn K (.ref f_37) = true)
    (a_38 : PySem.W.nsIn K mainGlobals "_with_line" = some (some (.ref f_38)))
    (l_38 : K.lookup f_38 = some ⟨oc_38, od_38, .func (PySem.W.fnOf "_with_line" "_with_line" (defArgs s_with_line) (defBody s_with_line) (defScope s_with_line) .none kV_38 dc_38 pm_38 an_38 cd_38 ct_38), sl_38⟩)
    (c_38 : PySem.W.codeIn K cd_38 "_with_line" = true)
    (k_38 : PySem.W.keepIn K (.ref f_38) = true)
    (a_39 : PySem.W.nsIn K mainGlobals "_one_comes" = some (some (.ref f_39)))
    (l_39 : K.lookup f_39 = some ⟨oc_39, od_39, .func (PySem.W.fnOf "_one_comes" "_one_comes" (defArgs s_one_comes) (defBody s_one_comes) (defScope s_one_comes) .none kV_39 dc_39 pm_39 an_39 cd_39 ct_39), sl_39⟩)
    (c_39 : PySem.W.codeIn K cd_39 "_one_comes" = true)
    (k_39 : PySem.W.keepIn K (.ref f_39) = true)
    (a_40 : PySem.W.findIn K (.ref C_Bench) "remove_column" = some (some (.ref f_40)))
    (y_40 : PySem.W.isFn K (.ref f_40) = true)
    (l_40 : K.lookup f_40 = some ⟨oc_40, od_40, .func (PySem.W.fnOf "remove_column" "Bench.remove_column" (defArgs s_Bench_remove_column) (defBody s_Bench_remove_column) (defScope s_Bench_remove_column) .none kV_40 dc_40 pm_40 an_40 cd_40 ct_40), sl_40⟩)
    (c_40 : PySem.W.codeIn K cd_40 "Bench.remove_column" = true)
    (k_40 : PySem.W.keepIn K (.ref f_40) = true)
    (a_41 : PySem.W.nsIn K mainGlobals "_check_row" = some (some (.ref f_41)))
    (l_41 : K.lookup f_41 = some ⟨oc_41, od_41, .func (PySem.W.fnOf "_check_row" "_check_row" (defArgs s_check_row) (defBody s_check_row) (defScope s_check_row) .none kV_41 dc_41 pm_41 an_41 cd_41 ct_41), sl_41⟩)
    (c_41 : PySem.W.codeIn K cd_41 "_check_row" = true)
    (k_41 : PySem.W.keepIn K (.ref f_41) = true)
    (a_42 : PySem.W.nsIn K mainGlobals "_check_amounts" = some (some (.ref f_42)))
    (l_42 : K.lookup f_42 = some ⟨oc_42, od_42, .func (PySem.W.fnOf "_check_amounts" "_check_amounts" (defArgs s_check_amounts) (defBody s_check_amounts) (defScope s_check_amounts) .none kV_42 dc_42 pm_42 an_42 cd_42 ct_42), sl_42⟩)
    (c_42 : PySem.W.codeIn K cd_42 "_check_amounts" = true)
    (k_42 : PySem.W.keepIn K (.ref f_42) = true)
    (a_43 : PySem.W.nsIn K mainGlobals "_replaced" = some (some (.ref f_43)))
    (l_43 : K.lookup f_43 = some ⟨oc_43, od_43, .func (PySem.W.fnOf "_replaced" "_replaced" (defArgs s_replaced) (defBody s_replaced) (defScope s_replaced) .none kV_43 dc_43 pm_43 an_43 cd_43 ct_43), sl_43⟩)
    (c_43 : PySem.W.codeIn K cd_43 "_replaced" = true)
    (k_43 : PySem.W.keepIn K (.ref f_43) = true)
    (a_44 : PySem.W.findIn K (.ref C_Bench) "put" = some (some (.ref f_44)))
    (y_44 : PySem.W.isFn K (.ref f_44) = true)
    (l_44 : K.lookup f_44 = some ⟨oc_44, od_44, .func (PySem.W.fnOf "put" "Bench.put" (defArgs s_Bench_put) (defBody s_Bench_put) (defScope s_Bench_put) .none kV_44 dc_44 pm_44 an_44 cd_44 ct_44), sl_44⟩)
    (c_44 : PySem.W.codeIn K cd_44 "Bench.put" = true)
    (k_44 : PySem.W.keepIn K (.ref f_44) = true)
    (a_45 : PySem.W.findIn K (.ref C_Bench) "insert_row" = some (some (.ref f_45)))
    (y_45 : PySem.W.isFn K (.ref f_45) = true)
    (l_45 : K.lookup f_45 = some ⟨oc_45, od_45, .func (PySem.W.fnOf "insert_row" "Bench.insert_row" (defArgs s_Bench_insert_row) (defBody s_Bench_insert_row) (defScope s_Bench_insert_row) .none kV_45 dc_45 pm_45 an_45 cd_45 ct_45), sl_45⟩)
    (c_45 : PySem.W.codeIn K cd_45 "Bench.insert_row" = true)
    (k_45 : PySem.W.keepIn K (.ref f_45) = true)
    (a_46 : PySem.W.findIn K (.ref C_Bench) "remove_row" = some (some (.ref f_46)))
    (y_46 : PySem.W.isFn K (.ref f_46) = true)
    (l_46 : K.lookup f_46 = some ⟨oc_46, od_46, .func (PySem.W.fnOf "remove_row" "Bench.remove_row" (defArgs s_Bench_remove_row) (defBody s_Bench_remove_row) (defScope s_Bench_remove_row) .none kV_46 dc_46 pm_46 an_46 cd_46 ct_46), sl_46⟩)
    (c_46 : PySem.W.codeIn K cd_46 "Bench.remove_row" = true)
    (k_46 : PySem.W.keepIn K (.ref f_46) = true)
    (a_47 : PySem.W.findIn K (.ref C_Bench) "insert_column" = some (some (.ref f_47)))
    (y_47 : PySem.W.isFn K (.ref f_47) = true)
    (l_47 : K.lookup f_47 = some ⟨oc_47, od_47, .func (PySem.W.fnOf "insert_column" "Bench.insert_column" (defArgs s_Bench_insert_column) (defBody s_Bench_insert_column) (defScope s_Bench_insert_column) .none kV_47 dc_47 pm_47 an_47 cd_47 ct_47), sl_47⟩)
    (c_47 : PySem.W.codeIn K cd_47 "Bench.insert_column" = true)
    (k_47 : PySem.W.keepIn K (.ref f_47) = true)
    (a_48 : PySem.W.nsIn K mainGlobals "_law_do" = some (some (.ref f_48)))
    (l_48 : K.lookup f_48 = some ⟨oc_48, od_48, .func (PySem.W.fnOf "_law_do" "_law_do" (defArgs s_law_do) (defBody s_law_do) (defScope s_law_do) .none kV_48 dc_48 pm_48 an_48 cd_48 ct_48), sl_48⟩)
    (c_48 : PySem.W.codeIn K cd_48 "_law_do" = true)
    (k_48 : PySem.W.keepIn K (.ref f_48) = true)
    (a_49 : PySem.W.nsIn K mainGlobals "_law_refused" = some (some (.ref f_49)))
    (l_49 : K.lookup f_49 = some ⟨oc_49, od_49, .func (PySem.W.fnOf "_law_refused" "_law_refused" (defArgs s_law_refused) (defBody s_law_refused) (defScope s_law_refused) .none kV_49 dc_49 pm_49 an_49 cd_49 ct_49), sl_49⟩)
    (c_49 : PySem.W.codeIn K cd_49 "_law_refused" = true)
    (k_49 : PySem.W.keepIn K (.ref f_49) = true)
    (a_50 : PySem.W.nsIn K mainGlobals "law" = some (some (.ref f_50)))
    (l_50 : K.lookup f_50 = some ⟨oc_50, od_50, .func (PySem.W.fnOf "law" "law" (defArgs s_law) (defBody s_law) (defScope s_law) .none kV_50 dc_50 pm_50 an_50 cd_50 ct_50), sl_50⟩)
    (c_50 : PySem.W.codeIn K cd_50 "law" = true)
    (k_50 : PySem.W.keepIn K (.ref f_50) = true)
    (z_int : PySem.W.nsIn K mainGlobals "int" = some none)
    (z_range : PySem.W.nsIn K mainGlobals "range" = some none)
    (z_len : PySem.W.nsIn K mainGlobals "len" = some none)
    (z_tuple : PySem.W.nsIn K mainGlobals "tuple" = some none)
    (z_max : PySem.W.nsIn K mainGlobals "max" = some none)
    (z_min : PySem.W.nsIn K mainGlobals "min" = some none)
    (z_enumerate : PySem.W.nsIn K mainGlobals "enumerate" = some none)
    (z_sum : PySem.W.nsIn K mainGlobals "sum" = some none)
    (z_zip : PySem.W.nsIn K mainGlobals "zip" = some none)
    (z_MOST_CHANGES : PySem.W.nsIn K mainGlobals "MOST_CHANGES" = some (some (.int 100 t_MOST_CHANGES)))
    (z_MOST_LINES : PySem.W.nsIn K mainGlobals "MOST_LINES" = some (some (.int 8 t_MOST_LINES)))
    (z_GREATEST_AMOUNT : PySem.W.nsIn K mainGlobals "GREATEST_AMOUNT" = some (some (.int 1000 t_GREATEST_AMOUNT)))
    (ya_Bench : PySem.W.nsIn K mainGlobals "Bench" = some (some (.ref C_Bench)))
    (yp_Bench : PySem.W.plainGet K C_Bench Str.empty = true)
    (yh_Bench : PySem.W.hasDictIn K C_Bench = true)
    (yo_Bench : PySem.W.plainOver K C_Bench = true)
    (ys_Bench : PySem.W.findIn K (.ref C_Bench) "__setattr__" = some (some (.builtin "object.__setattr__")))
    (ym_Bench : PySem.W.makesIn K C_Bench = true)
    (yk_Bench : PySem.W.keepIn K (.ref C_Bench) = true)
    (na_Bench_board : PySem.W.findIn K (.ref C_Bench) "_board" = some none)
    (na_Bench_corners : PySem.W.findIn K (.ref C_Bench) "_corners" = some none)
    (na_Bench_done : PySem.W.findIn K (.ref C_Bench) "_done" = some none)
    (na_Bench_grown : PySem.W.findIn K (.ref C_Bench) "_grown" = some none)
    (na_Bench_undone : PySem.W.findIn K (.ref C_Bench) "_undone" = some none)
    (xa_NoSuchColumn : PySem.W.nsIn K mainGlobals "NoSuchColumn" = some (some (.ref C_NoSuchColumn)))
    (xk_NoSuchColumn : PySem.W.keepIn K (.ref C_NoSuchColumn) = true)
    (xhg_NoSuchColumn : PySem.W.findIn K (.ref C_NoSuchColumn) "__getattribute__" = some (some (.builtin "BaseException.__getattribute__")))
    (xhk_NoSuchColumn : PySem.W.findIn K (.ref C_NoSuchColumn) "__getattr__" = some none)
    (xhs_NoSuchColumn : PySem.W.subIn K (.ref C_NoSuchColumn) (.type "BaseException") = some true)
    (xhd_NoSuchColumn : PySem.W.hasDictIn K C_NoSuchColumn = true)
    (xha_NoSuchColumn : PySem.W.findIn K (.ref C_NoSuchColumn) "__class__" = some (some (.builtin "object.__class__")))
    (xhm_NoSuchColumn : PySem.W.mroIn K C_NoSuchColumn (.type "object") = some true)
    (xty_NoSuchColumn : PySem.W.typeIn K (.ref C_NoSuchColumn) = some (.type "type"))
    (xn_NoSuchColumn : PySem.W.excIn K C_NoSuchColumn veAll "ValueError.__new__" = true)
    (xa_NoSuchCorner : PySem.W.nsIn K mainGlobals "NoSuchCorner" = some (some (.ref C_NoSuchCorner)))
    (xk_NoSuchCorner : PySem.W.keepIn K (.ref C_NoSuchCorner) = true)
    (xhg_NoSuchCorner : PySem.W.findIn K (.ref C_NoSuchCorner) "__getattribute__" = some (some (.builtin "BaseException.__getattribute__")))
    (xhk_NoSuchCorner : PySem.W.findIn K (.ref C_NoSuchCorner) "__getattr__" = some none)
    (xhs_NoSuchCorner : PySem.W.subIn K (.ref C_NoSuchCorner) (.type "BaseException") = some true)
    (xhd_NoSuchCorner : PySem.W.hasDictIn K C_NoSuchCorner = true)
    (xha_NoSuchCorner : PySem.W.findIn K (.ref C_NoSuchCorner) "__class__" = some (some (.builtin "object.__class__")))
    (xhm_NoSuchCorner : PySem.W.mroIn K C_NoSuchCorner (.type "object") = some true)
    (xty_NoSuchCorner : PySem.W.typeIn K (.ref C_NoSuchCorner) = some (.type "type"))
    (xn_NoSuchCorner : PySem.W.excIn K C_NoSuchCorner veAll "ValueError.__new__" = true)
    (xa_NoSuchRow : PySem.W.nsIn K mainGlobals "NoSuchRow" = some (some (.ref C_NoSuchRow)))
    (xk_NoSuchRow : PySem.W.keepIn K (.ref C_NoSuchRow) = true)
    (xhg_NoSuchRow : PySem.W.findIn K (.ref C_NoSuchRow) "__getattribute__" = some (some (.builtin "BaseException.__getattribute__")))
    (xhk_NoSuchRow : PySem.W.findIn K (.ref C_NoSuchRow) "__getattr__" = some none)
    (xhs_NoSuchRow : PySem.W.subIn K (.ref C_NoSuchRow) (.type "BaseException") = some true)
    (xhd_NoSuchRow : PySem.W.hasDictIn K C_NoSuchRow = true)
    (xha_NoSuchRow : PySem.W.findIn K (.ref C_NoSuchRow) "__class__" = some (some (.builtin "object.__class__")))
    (xhm_NoSuchRow : PySem.W.mroIn K C_NoSuchRow (.type "object") = some true)
    (xty_NoSuchRow : PySem.W.typeIn K (.ref C_NoSuchRow) = some (.type "type"))
    (xn_NoSuchRow : PySem.W.excIn K C_NoSuchRow veAll "ValueError.__new__" = true)
    (xa_TooManyChanges : PySem.W.nsIn K mainGlobals "TooManyChanges" = some (some (.ref C_TooManyChanges)))
    (xk_TooManyChanges : PySem.W.keepIn K (.ref C_TooManyChanges) = true)
    (xhg_TooManyChanges : PySem.W.findIn K (.ref C_TooManyChanges) "__getattribute__" = some (some (.builtin "BaseException.__getattribute__")))
    (xhk_TooManyChanges : PySem.W.findIn K (.ref C_TooManyChanges) "__getattr__" = some none)
    (xhs_TooManyChanges : PySem.W.subIn K (.ref C_TooManyChanges) (.type "BaseException") = some true)
    (xhd_TooManyChanges : PySem.W.hasDictIn K C_TooManyChanges = true)
    (xha_TooManyChanges : PySem.W.findIn K (.ref C_TooManyChanges) "__class__" = some (some (.builtin "object.__class__")))
    (xhm_TooManyChanges : PySem.W.mroIn K C_TooManyChanges (.type "object") = some true)
    (xty_TooManyChanges : PySem.W.typeIn K (.ref C_TooManyChanges) = some (.type "type"))
    (xn_TooManyChanges : PySem.W.excIn K C_TooManyChanges veAll "ValueError.__new__" = true)
    (xa_WalkhandsError : PySem.W.nsIn K mainGlobals "WalkhandsError" = some (some (.ref C_WalkhandsError)))
    (xk_WalkhandsError : PySem.W.keepIn K (.ref C_WalkhandsError) = true)
    (xhg_WalkhandsError : PySem.W.findIn K (.ref C_WalkhandsError) "__getattribute__" = some (some (.builtin "BaseException.__getattribute__")))
    (xhk_WalkhandsError : PySem.W.findIn K (.ref C_WalkhandsError) "__getattr__" = some none)
    (xhs_WalkhandsError : PySem.W.subIn K (.ref C_WalkhandsError) (.type "BaseException") = some true)
    (xhd_WalkhandsError : PySem.W.hasDictIn K C_WalkhandsError = true)
    (xha_WalkhandsError : PySem.W.findIn K (.ref C_WalkhandsError) "__class__" = some (some (.builtin "object.__class__")))
    (xhm_WalkhandsError : PySem.W.mroIn K C_WalkhandsError (.type "object") = some true)
    (xty_WalkhandsError : PySem.W.typeIn K (.ref C_WalkhandsError) = some (.type "type"))
    (xa_WrongAmounts : PySem.W.nsIn K mainGlobals "WrongAmounts" = some (some (.ref C_WrongAmounts)))
    (xk_WrongAmounts : PySem.W.keepIn K (.ref C_WrongAmounts) = true)
    (xhg_WrongAmounts : PySem.W.findIn K (.ref C_WrongAmounts) "__getattribute__" = some (some (.builtin "BaseException.__getattribute__")))
    (xhk_WrongAmounts : PySem.W.findIn K (.ref C_WrongAmounts) "__getattr__" = some none)
    (xhs_WrongAmounts : PySem.W.subIn K (.ref C_WrongAmounts) (.type "BaseException") = some true)
    (xhd_WrongAmounts : PySem.W.hasDictIn K C_WrongAmounts = true)
    (xha_WrongAmounts : PySem.W.findIn K (.ref C_WrongAmounts) "__class__" = some (some (.builtin "object.__class__")))
    (xhm_WrongAmounts : PySem.W.mroIn K C_WrongAmounts (.type "object") = some true)
    (xty_WrongAmounts : PySem.W.typeIn K (.ref C_WrongAmounts) = some (.type "type"))
    (xn_WrongAmounts : PySem.W.excIn K C_WrongAmounts veAll "ValueError.__new__" = true)
    (xa_WrongSize : PySem.W.nsIn K mainGlobals "WrongSize" = some (some (.ref C_WrongSize)))
    (xk_WrongSize : PySem.W.keepIn K (.ref C_WrongSize) = true)
    (xhg_WrongSize : PySem.W.findIn K (.ref C_WrongSize) "__getattribute__" = some (some (.builtin "BaseException.__getattribute__")))
    (xhk_WrongSize : PySem.W.findIn K (.ref C_WrongSize) "__getattr__" = some none)
    (xhs_WrongSize : PySem.W.subIn K (.ref C_WrongSize) (.type "BaseException") = some true)
    (xhd_WrongSize : PySem.W.hasDictIn K C_WrongSize = true)
    (xha_WrongSize : PySem.W.findIn K (.ref C_WrongSize) "__class__" = some (some (.builtin "object.__class__")))
    (xhm_WrongSize : PySem.W.mroIn K C_WrongSize (.type "object") = some true)
    (xty_WrongSize : PySem.W.typeIn K (.ref C_WrongSize) = some (.type "type"))
    (xn_WrongSize : PySem.W.excIn K C_WrongSize veAll "ValueError.__new__" = true)
    (xspec : PySem.W.specialIn K (.builtin "object.__class__") "__get__" = some (some (.builtin "getset_descriptor.__get__")))
    (xtakes : PySem.W.takesIn K (.builtin "object.__class__") = some true)
    (xs_NoSuchColumn_WalkhandsError : PySem.W.subIn K (.ref C_NoSuchColumn) (.ref C_WalkhandsError) = some true)
    (xs_NoSuchRow_WalkhandsError : PySem.W.subIn K (.ref C_NoSuchRow) (.ref C_WalkhandsError) = some true)
    (xs_TooManyChanges_WalkhandsError : PySem.W.subIn K (.ref C_TooManyChanges) (.ref C_WalkhandsError) = some true)
    (xs_WrongAmounts_WalkhandsError : PySem.W.subIn K (.ref C_WrongAmounts) (.ref C_WalkhandsError) = some true)
    (xs_WrongSize_WalkhandsError : PySem.W.subIn K (.ref C_WrongSize) (.ref C_WalkhandsError) = some true)
    : ∃ fd : FuncData, (∀ (s : Shared) (v : Value), BindsTo s fd ⟨[v], []⟩ [("script", v)]) ∧ ∀ base : Heap, K.In base → base.Ns mainGlobals mg → FnOk l.prog w K mg base CX0 11 fa fd ["script"] (spW K pre_law) := by
  have e := hfa.symm.trans (PySem.W.mg_of X G a_50)
  cases e
  refine ⟨PySem.W.fnOf "law" "law" (defArgs s_law) (defBody s_law) (defScope s_law) .none kV_50 dc_50 pm_50 an_50 cd_50 ct_50, fun s v => .of_eq rfl, fun base _ _ => ?_⟩
  have B_Bench : Cls K C_Bench := ⟨yp_Bench, yh_Bench, yo_Bench, ys_Bench⟩
  have S_NoSuchColumn : ExS K mg "NoSuchColumn" C_NoSuchColumn := ⟨PySem.W.mg_of X G xa_NoSuchColumn, xk_NoSuchColumn, ⟨xhg_NoSuchColumn, xhk_NoSuchColumn, xhs_NoSuchColumn, xhd_NoSuchColumn, xha_NoSuchColumn, xspec, xtakes, xhm_NoSuchColumn⟩, xty_NoSuchColumn⟩
  have N_NoSuchColumn : ExN K mg "NoSuchColumn" C_NoSuchColumn := ⟨S_NoSuchColumn, xn_NoSuchColumn⟩
  have S_NoSuchCorner : ExS K mg "NoSuchCorner" C_NoSuchCorner := ⟨PySem.W.mg_of X G xa_NoSuchCorner, xk_NoSuchCorner, ⟨xhg_NoSuchCorner, xhk_NoSuchCorner, xhs_NoSuchCorner, xhd_NoSuchCorner, xha_NoSuchCorner, xspec, xtakes, xhm_NoSuchCorner⟩, xty_NoSuchCorner⟩
  have N_NoSuchCorner : ExN K mg "NoSuchCorner" C_NoSuchCorner := ⟨S_NoSuchCorner, xn_NoSuchCorner⟩
  have S_NoSuchRow : ExS K mg "NoSuchRow" C_NoSuchRow := ⟨PySem.W.mg_of X G xa_NoSuchRow, xk_NoSuchRow, ⟨xhg_NoSuchRow, xhk_NoSuchRow, xhs_NoSuchRow, xhd_NoSuchRow, xha_NoSuchRow, xspec, xtakes, xhm_NoSuchRow⟩, xty_NoSuchRow⟩
  have N_NoSuchRow : ExN K mg "NoSuchRow" C_NoSuchRow := ⟨S_NoSuchRow, xn_NoSuchRow⟩
  have S_TooManyChanges : ExS K mg "TooManyChanges" C_TooManyChanges := ⟨PySem.W.mg_of X G xa_TooManyChanges, xk_TooManyChanges, ⟨xhg_TooManyChanges, xhk_TooManyChanges, xhs_TooManyChanges, xhd_TooManyChanges, xha_TooManyChanges, xspec, xtakes, xhm_TooManyChanges⟩, xty_TooManyChanges⟩
  have N_TooManyChanges : ExN K mg "TooManyChanges" C_TooManyChanges := ⟨S_TooManyChanges, xn_TooManyChanges⟩
  have S_WalkhandsError : ExS K mg "WalkhandsError" C_WalkhandsError := ⟨PySem.W.mg_of X G xa_WalkhandsError, xk_WalkhandsError, ⟨xhg_WalkhandsError, xhk_WalkhandsError, xhs_WalkhandsError, xhd_WalkhandsError, xha_WalkhandsError, xspec, xtakes, xhm_WalkhandsError⟩, xty_WalkhandsError⟩
  have S_WrongAmounts : ExS K mg "WrongAmounts" C_WrongAmounts := ⟨PySem.W.mg_of X G xa_WrongAmounts, xk_WrongAmounts, ⟨xhg_WrongAmounts, xhk_WrongAmounts, xhs_WrongAmounts, xhd_WrongAmounts, xha_WrongAmounts, xspec, xtakes, xhm_WrongAmounts⟩, xty_WrongAmounts⟩
  have N_WrongAmounts : ExN K mg "WrongAmounts" C_WrongAmounts := ⟨S_WrongAmounts, xn_WrongAmounts⟩
  have S_WrongSize : ExS K mg "WrongSize" C_WrongSize := ⟨PySem.W.mg_of X G xa_WrongSize, xk_WrongSize, ⟨xhg_WrongSize, xhk_WrongSize, xhs_WrongSize, xhd_WrongSize, xha_WrongSize, xspec, xtakes, xhm_WrongSize⟩, xty_WrongSize⟩
  have N_WrongSize : ExN K mg "WrongSize" C_WrongSize := ⟨S_WrongSize, xn_WrongSize⟩
  have e_NoSuchColumn_WalkhandsError := S_WalkhandsError.exm xs_NoSuchColumn_WalkhandsError
  have e_NoSuchRow_WalkhandsError := S_WalkhandsError.exm xs_NoSuchRow_WalkhandsError
  have e_TooManyChanges_WalkhandsError := S_WalkhandsError.exm xs_TooManyChanges_WalkhandsError
  have e_WrongAmounts_WalkhandsError := S_WalkhandsError.exm xs_WrongAmounts_WalkhandsError
  have e_WrongSize_WalkhandsError := S_WalkhandsError.exm xs_WrongSize_WalkhandsError
  have K_law_draws := ok_law_draws (P := l.prog) (w := w) (mg := mg) (base := base) ⟨_, _, fun_mk (st := s_law_draws) l_0 c_0 k_0, PySem.W.mg_of X G a_0⟩ (PySem.W.mg_none_of X G z_int) (PySem.W.mg_none_of X G z_range)
  have K_law_box := ok_law_box (P := l.prog) (w := w) (mg := mg) (base := base) ⟨_, _, fun_mk (st := s_law_box) l_1 c_1 k_1, PySem.W.mg_of X G a_1⟩ K_law_draws (PySem.W.mg_none_of X G z_len)
  have K_law_next := ok_law_next (P := l.prog) (w := w) (mg := mg) (base := base) ⟨_, _, fun_mk (st := s_law_next) l_2 c_2 k_2, PySem.W.mg_of X G a_2⟩ (PySem.W.mg_none_of X G z_int) (PySem.W.mg_none_of X G z_len)
  have K_law_board := ok_law_board (P := l.prog) (w := w) (mg := mg) (base := base) ⟨_, _, fun_mk (st := s_law_board) l_3 c_3 k_3, PySem.W.mg_of X G a_3⟩ K_law_next (PySem.W.mg_none_of X G z_range) (PySem.W.mg_none_of X G z_tuple)
  have K_law_part := ok_law_part (P := l.prog) (w := w) (mg := mg) (base := base) ⟨_, _, fun_mk (st := s_law_part) l_4 c_4 k_4, PySem.W.mg_of X G a_4⟩ (PySem.W.mg_none_of X G z_len)
  have K_law_grow := ok_law_grow (P := l.prog) (w := w) (mg := mg) (base := base) ⟨_, _, fun_mk (st := s_law_grow) l_5 c_5 k_5, PySem.W.mg_of X G a_5⟩ K_law_part (PySem.W.mg_none_of X G z_len) (PySem.W.mg_none_of X G z_max) (PySem.W.mg_none_of X G z_min) (PySem.W.mg_none_of X G z_range) (PySem.W.mg_none_of X G z_tuple)
  have K_law_shapes := ok_law_shapes (P := l.prog) (w := w) (mg := mg) (base := base) ⟨_, _, fun_mk (st := s_law_shapes) l_6 c_6 k_6, PySem.W.mg_of X G a_6⟩ K_law_grow (PySem.W.mg_none_of X G z_len) (PySem.W.mg_none_of X G z_range)
  have K_law_state := ok_law_state (P := l.prog) (w := w) (mg := mg) (base := base) ⟨_, _, fun_mk (st := s_law_state) l_7 c_7 k_7, PySem.W.mg_of X G a_7⟩ K_law_shapes
  have K_Bench_size := ok_Bench_size (P := l.prog) (w := w) (mg := mg) (base := base) ⟨_, _, fun_mk (st := s_Bench_size) l_8 c_8 k_8, ⟨a_8, y_8, k_8⟩⟩ (PySem.W.mg_none_of X G z_len) B_Bench na_Bench_corners
  have K_without_zeros := ok_without_zeros (P := l.prog) (w := w) (mg := mg) (base := base) ⟨_, _, fun_mk (st := s_without_zeros) l_9 c_9 k_9, PySem.W.mg_of X G a_9⟩ (PySem.W.mg_none_of X G z_tuple)
  have K_part := ok_part (P := l.prog) (w := w) (mg := mg) (base := base) ⟨_, _, fun_mk (st := s_part) l_10 c_10 k_10, PySem.W.mg_of X G a_10⟩ (PySem.W.mg_none_of X G z_len)
  have K_greater := ok_greater (P := l.prog) (w := w) (mg := mg) (base := base) ⟨_, _, fun_mk (st := s_greater) l_11 c_11 k_11, PySem.W.mg_of X G a_11⟩ K_part (PySem.W.mg_none_of X G z_max)
  have K_across := ok_across (P := l.prog) (w := w) (mg := mg) (base := base) ⟨_, _, fun_mk (st := s_across) l_12 c_12 k_12, PySem.W.mg_of X G a_12⟩ K_part K_greater (PySem.W.mg_none_of X G z_min)
  have K_local_rule := ok_local_rule (P := l.prog) (w := w) (mg := mg) (base := base) ⟨_, _, fun_mk (st := s_local_rule) l_13 c_13 k_13, PySem.W.mg_of X G a_13⟩ K_without_zeros K_part K_greater K_across (PySem.W.mg_none_of X G z_len) (PySem.W.mg_none_of X G z_max) (PySem.W.mg_none_of X G z_range)
  have K_row_below := ok_row_below (P := l.prog) (w := w) (mg := mg) (base := base) ⟨_, _, fun_mk (st := s_row_below) l_14 c_14 k_14, PySem.W.mg_of X G a_14⟩ K_local_rule (PySem.W.mg_none_of X G z_enumerate)
  have K_shapes_of := ok_shapes_of (P := l.prog) (w := w) (mg := mg) (base := base) ⟨_, _, fun_mk (st := s_shapes_of) l_15 c_15 k_15, PySem.W.mg_of X G a_15⟩ K_row_below (PySem.W.mg_none_of X G z_len)
  have K_Bench_init := ok_Bench_init (P := l.prog) (w := w) (mg := mg) (base := base) ⟨_, _, fun_mk (st := s_Bench_init) l_16 c_16 k_16, ⟨ym_Bench, a_16, y_16, yk_Bench⟩, PySem.W.mg_of X G ya_Bench⟩ K_Bench_size K_shapes_of B_Bench na_Bench_board na_Bench_corners na_Bench_done na_Bench_grown na_Bench_undone
  have K_Bench_board := ok_Bench_board (P := l.prog) (w := w) (mg := mg) (base := base) ⟨_, _, fun_mk (st := s_Bench_board) l_17 c_17 k_17, ⟨a_17, y_17, k_17⟩⟩ B_Bench na_Bench_board
  have K_Bench_grown := ok_Bench_grown (P := l.prog) (w := w) (mg := mg) (base := base) ⟨_, _, fun_mk (st := s_Bench_grown) l_18 c_18 k_18, ⟨a_18, y_18, k_18⟩⟩ B_Bench na_Bench_grown
  have K_Bench_shape := ok_Bench_shape (P := l.prog) (w := w) (mg := mg) (base := base) ⟨_, _, fun_mk (st := s_Bench_shape) l_19 c_19 k_19, ⟨a_19, y_19, k_19⟩⟩ K_Bench_size B_Bench na_Bench_corners N_NoSuchCorner
  have K_Bench_most := ok_Bench_most (P := l.prog) (w := w) (mg := mg) (base := base) ⟨_, _, fun_mk (st := s_Bench_most) l_20 c_20 k_20, ⟨a_20, y_20, k_20⟩⟩ K_Bench_shape (PySem.W.mg_none_of X G z_max) (PySem.W.mg_none_of X G z_sum) B_Bench
  have K_law_right := ok_law_right (P := l.prog) (w := w) (mg := mg) (base := base) ⟨_, _, fun_mk (st := s_law_right) l_21 c_21 k_21, PySem.W.mg_of X G a_21⟩ K_Bench_board K_Bench_grown K_Bench_shape K_Bench_most (PySem.W.mg_none_of X G z_len) (PySem.W.mg_none_of X G z_range) (PySem.W.mg_none_of X G z_sum) B_Bench
  have K_Bench_changes := ok_Bench_changes (P := l.prog) (w := w) (mg := mg) (base := base) ⟨_, _, fun_mk (st := s_Bench_changes) l_22 c_22 k_22, ⟨a_22, y_22, k_22⟩⟩ (PySem.W.mg_none_of X G z_len) B_Bench na_Bench_done
  have K_Bench_undone := ok_Bench_undone (P := l.prog) (w := w) (mg := mg) (base := base) ⟨_, _, fun_mk (st := s_Bench_undone) l_23 c_23 k_23, ⟨a_23, y_23, k_23⟩⟩ (PySem.W.mg_none_of X G z_len) B_Bench na_Bench_undone
  have K_Bench_square := ok_Bench_square (P := l.prog) (w := w) (mg := mg) (base := base) ⟨_, _, fun_mk (st := s_Bench_square) l_24 c_24 k_24, ⟨a_24, y_24, k_24⟩⟩ B_Bench na_Bench_board na_Bench_corners
  have K_Bench_row_below := ok_Bench_row_below (P := l.prog) (w := w) (mg := mg) (base := base) ⟨_, _, fun_mk (st := s_Bench_row_below) l_25 c_25 k_25, ⟨a_25, y_25, k_25⟩⟩ K_local_rule K_Bench_square (PySem.W.mg_none_of X G z_enumerate) B_Bench na_Bench_corners
  have K_Bench_become := ok_Bench_become (P := l.prog) (w := w) (mg := mg) (base := base) ⟨_, _, fun_mk (st := s_Bench_become) l_26 c_26 k_26, ⟨a_26, y_26, k_26⟩⟩ K_Bench_row_below (PySem.W.mg_none_of X G z_enumerate) (PySem.W.mg_none_of X G z_len) B_Bench na_Bench_board na_Bench_corners na_Bench_grown
  have K_Bench_undo := ok_Bench_undo (P := l.prog) (w := w) (mg := mg) (base := base) ⟨_, _, fun_mk (st := s_Bench_undo) l_27 c_27 k_27, ⟨a_27, y_27, k_27⟩⟩ K_Bench_become (PySem.W.mg_none_of X G z_len) B_Bench na_Bench_done na_Bench_undone
  have K_law_square := ok_law_square (P := l.prog) (w := w) (mg := mg) (base := base) ⟨_, _, fun_mk (st := s_law_square) l_28 c_28 k_28, PySem.W.mg_of X G a_28⟩
  have K_law_grown := ok_law_grown (P := l.prog) (w := w) (mg := mg) (base := base) ⟨_, _, fun_mk (st := s_law_grown) l_29 c_29 k_29, PySem.W.mg_of X G a_29⟩ K_law_square (PySem.W.mg_none_of X G z_int) (PySem.W.mg_none_of X G z_len) (PySem.W.mg_none_of X G z_range)
  have K_Bench_redo := ok_Bench_redo (P := l.prog) (w := w) (mg := mg) (base := base) ⟨_, _, fun_mk (st := s_Bench_redo) l_30 c_30 k_30, ⟨a_30, y_30, k_30⟩⟩ K_Bench_become (PySem.W.mg_none_of X G z_len) B_Bench na_Bench_done na_Bench_undone
  have K_law_change := ok_law_change (P := l.prog) (w := w) (mg := mg) (base := base) ⟨_, _, fun_mk (st := s_law_change) l_31 c_31 k_31, PySem.W.mg_of X G a_31⟩ K_law_next (PySem.W.mg_none_of X G z_int) (PySem.W.mg_none_of X G z_len) (PySem.W.mg_none_of X G z_range) (PySem.W.mg_none_of X G z_tuple)
  have K_Bench_change := ok_Bench_change (P := l.prog) (w := w) (mg := mg) (base := base) ⟨_, _, fun_mk (st := s_Bench_change) l_32 c_32 k_32, ⟨a_32, y_32, k_32⟩⟩ K_Bench_become (PySem.W.mg_none_of X G z_len) B_Bench na_Bench_board na_Bench_done na_Bench_undone N_TooManyChanges (PySem.W.mg_of X G z_MOST_CHANGES)
  have K_check_column := ok_check_column (P := l.prog) (w := w) (mg := mg) (base := base) ⟨_, _, fun_mk (st := s_check_column) l_33 c_33 k_33, PySem.W.mg_of X G a_33⟩ N_NoSuchColumn
  have K_check_size := ok_check_size (P := l.prog) (w := w) (mg := mg) (base := base) ⟨_, _, fun_mk (st := s_check_size) l_34 c_34 k_34, PySem.W.mg_of X G a_34⟩ N_WrongSize (PySem.W.mg_of X G z_MOST_LINES)
  have K_all_stay := ok_all_stay (P := l.prog) (w := w) (mg := mg) (base := base) ⟨_, _, fun_mk (st := s_all_stay) l_35 c_35 k_35, PySem.W.mg_of X G a_35⟩ (PySem.W.mg_none_of X G z_range) (PySem.W.mg_none_of X G z_tuple)
  have K_without_line := ok_without_line (P := l.prog) (w := w) (mg := mg) (base := base) ⟨_, _, fun_mk (st := s_without_line) l_36 c_36 k_36, PySem.W.mg_of X G a_36⟩
  have K_one_goes := ok_one_goes (P := l.prog) (w := w) (mg := mg) (base := base) ⟨_, _, fun_mk (st := s_one_goes) l_37 c_37 k_37, PySem.W.mg_of X G a_37⟩ K_all_stay K_without_line
  have K_with_line := ok_with_line (P := l.prog) (w := w) (mg := mg) (base := base) ⟨_, _, fun_mk (st := s_with_line) l_38 c_38 k_38, PySem.W.mg_of X G a_38⟩
  have K_one_comes := ok_one_comes (P := l.prog) (w := w) (mg := mg) (base := base) ⟨_, _, fun_mk (st := s_one_comes) l_39 c_39 k_39, PySem.W.mg_of X G a_39⟩ K_all_stay K_with_line
  have K_Bench_remove_column := ok_Bench_remove_column (P := l.prog) (w := w) (mg := mg) (base := base) ⟨_, _, fun_mk (st := s_Bench_remove_column) l_40 c_40 k_40, ⟨a_40, y_40, k_40⟩⟩ K_Bench_size K_Bench_change K_check_column K_check_size K_all_stay K_without_line K_one_goes K_one_comes (PySem.W.mg_none_of X G z_tuple) B_Bench na_Bench_board
  have K_check_row := ok_check_row (P := l.prog) (w := w) (mg := mg) (base := base) ⟨_, _, fun_mk (st := s_check_row) l_41 c_41 k_41, PySem.W.mg_of X G a_41⟩ N_NoSuchRow
  have K_check_amounts := ok_check_amounts (P := l.prog) (w := w) (mg := mg) (base := base) ⟨_, _, fun_mk (st := s_check_amounts) l_42 c_42 k_42, PySem.W.mg_of X G a_42⟩ (PySem.W.mg_none_of X G z_len) N_WrongAmounts (PySem.W.mg_of X G z_GREATEST_AMOUNT)
  have K_replaced := ok_replaced (P := l.prog) (w := w) (mg := mg) (base := base) ⟨_, _, fun_mk (st := s_replaced) l_43 c_43 k_43, PySem.W.mg_of X G a_43⟩
  have K_Bench_put := ok_Bench_put (P := l.prog) (w := w) (mg := mg) (base := base) ⟨_, _, fun_mk (st := s_Bench_put) l_44 c_44 k_44, ⟨a_44, y_44, k_44⟩⟩ K_Bench_size K_Bench_change K_check_column K_all_stay K_check_row K_check_amounts K_replaced B_Bench na_Bench_board
  have K_Bench_insert_row := ok_Bench_insert_row (P := l.prog) (w := w) (mg := mg) (base := base) ⟨_, _, fun_mk (st := s_Bench_insert_row) l_45 c_45 k_45, ⟨a_45, y_45, k_45⟩⟩ K_Bench_size K_Bench_change K_check_size K_all_stay K_one_goes K_with_line K_one_comes K_check_row K_check_amounts B_Bench na_Bench_board
  have K_Bench_remove_row := ok_Bench_remove_row (P := l.prog) (w := w) (mg := mg) (base := base) ⟨_, _, fun_mk (st := s_Bench_remove_row) l_46 c_46 k_46, ⟨a_46, y_46, k_46⟩⟩ K_Bench_size K_Bench_change K_check_size K_all_stay K_without_line K_one_goes K_one_comes K_check_row B_Bench na_Bench_board
  have K_Bench_insert_column := ok_Bench_insert_column (P := l.prog) (w := w) (mg := mg) (base := base) ⟨_, _, fun_mk (st := s_Bench_insert_column) l_47 c_47 k_47, ⟨a_47, y_47, k_47⟩⟩ K_Bench_size K_Bench_change K_check_column K_check_size K_all_stay K_one_goes K_with_line K_one_comes K_check_amounts (PySem.W.mg_none_of X G z_tuple) (PySem.W.mg_none_of X G z_zip) B_Bench na_Bench_board
  have K_law_do := ok_law_do (P := l.prog) (w := w) (mg := mg) (base := base) ⟨_, _, fun_mk (st := s_law_do) l_48 c_48 k_48, PySem.W.mg_of X G a_48⟩ K_Bench_remove_column K_Bench_put K_Bench_insert_row K_Bench_remove_row K_Bench_insert_column B_Bench
  have K_law_refused := ok_law_refused (P := l.prog) (w := w) (mg := mg) (base := base) ⟨_, _, fun_mk (st := s_law_refused) l_49 c_49 k_49, PySem.W.mg_of X G a_49⟩ K_law_next K_law_do (PySem.W.mg_none_of X G z_len) S_NoSuchColumn S_NoSuchRow S_TooManyChanges S_WalkhandsError S_WrongAmounts S_WrongSize e_NoSuchRow_WalkhandsError e_NoSuchColumn_WalkhandsError e_WrongAmounts_WalkhandsError e_WrongSize_WalkhandsError e_TooManyChanges_WalkhandsError
  have K_law := ok_law (P := l.prog) (w := w) (mg := mg) (base := base) ⟨_, _, fun_mk (st := s_law) l_50 c_50 k_50, PySem.W.mg_of X G a_50⟩ K_law_box K_law_next K_law_board K_law_state K_Bench_init K_law_right K_Bench_changes K_Bench_undone K_Bench_undo K_law_grown K_Bench_redo K_law_change K_law_do K_law_refused (PySem.W.mg_none_of X G z_len) (PySem.W.mg_none_of X G z_min) (PySem.W.mg_none_of X G z_range) B_Bench
  exact callee_law K_law (PySem.W.mg_of X G a_50) (fun_mk (st := s_law) l_50 c_50 k_50)
end LW
open PySem PySem.W PyProof.Rows
set_option maxHeartbeats 0 in
theorem PySem.Challenge.cw_walkhands_k23_benches_of_boards_holds : PySem.Challenge.rw_walkhands_k23_benches_of_boards.Holds := by
  w_on; o_law; k_head; (case hw => w_witness2)
  k_fill
  refine L2.walk_of (l := PySem.Challenge.rw_walkhands_k23_benches_of_boards) (n := 63) (k := 11) (x := "script") (CX := fun _ => L2.CX0) (sp := fun w => Wk.spW _ LW.pre_law) rfl (by decide) rfl ⟨rfl, by decide, by decide⟩ (fun w h Y => PySem.W.kIn_of Y) ?F (fun _ H a ns hl ho hS => Wk.law_start hS (LW.law_pre hl)) (fun _ _ _ _ _ h => h)
  case F =>
    intro w mg fa h KX G hmg
    refine' LW.all_mk KX G hmg ?a_0 ?l_0 ?c_0 ?k_0 ?a_1 ?l_1 ?c_1 ?k_1 ?a_2 ?l_2 ?c_2 ?k_2 ?a_3 ?l_3 ?c_3 ?k_3 ?a_4 ?l_4 ?c_4 ?k_4 ?a_5 ?l_5 ?c_5 ?k_5 ?a_6 ?l_6 ?c_6 ?k_6 ?a_7 ?l_7 ?c_7 ?k_7 ?a_8 ?y_8 ?l_8 ?c_8 ?k_8 ?a_9 ?l_9 ?c_9 ?k_9 ?a_10 ?l_10 ?c_10 ?k_10 ?a_11 ?l_11 ?c_11 ?k_11 ?a_12 ?l_12 ?c_12 ?k_12 ?a_13 ?l_13 ?c_13 ?k_13 ?a_14 ?l_14 ?c_14 ?k_14 ?a_15 ?l_15 ?c_15 ?k_15 ?a_16 ?y_16 ?l_16 ?c_16 ?k_16 ?a_17 ?y_17 ?l_17 ?c_17 ?k_17 ?a_18 ?y_18 ?l_18 ?c_18 ?k_18 ?a_19 ?y_19 ?l_19 ?c_19 ?k_19 ?a_20 ?y_20 ?l_20 ?c_20 ?k_20 ?a_21 ?l_21 ?c_21 ?k_21 ?a_22 ?y_22 ?l_22 ?c_22 ?k_22 ?a_23 ?y_23 ?l_23 ?c_23 ?k_23 ?a_24 ?y_24 ?l_24 ?c_24 ?k_24 ?a_25 ?y_25 ?l_25 ?c_25 ?k_25 ?a_26 ?y_26 ?l_26 ?c_26 ?k_26 ?a_27 ?y_27 ?l_27 ?c_27 ?k_27 ?a_28 ?l_28 ?c_28 ?k_28 ?a_29 ?l_29 ?c_29 ?k_29 ?a_30 ?y_30 ?l_30 ?c_30 ?k_30 ?a_31 ?l_31 ?c_31 ?k_31 ?a_32 ?y_32 ?l_32 ?c_32 ?k_32 ?a_33 ?l_33 ?c_33 ?k_33 ?a_34 ?l_34 ?c_34 ?k_34 ?a_35 ?l_35 ?c_35 ?k_35 ?a_36 ?l_36 ?c_36 ?k_36 ?a_37 ?l_37 ?c_37 ?k_37 ?a_38 ?l_38 ?c_38 ?k_38 ?a_39 ?l_39 ?c_39 ?k_39 ?a_40 ?y_40 ?l_40 ?c_40 ?k_40 ?a_41 ?l_41 ?c_41 ?k_41 ?a_42 ?l_42 ?c_42 ?k_42 ?a_43 ?l_43 ?c_43 ?k_43 ?a_44 ?y_44 ?l_44 ?c_44 ?k_44 ?a_45 ?y_45 ?l_45 ?c_45 ?k_45 ?a_46 ?y_46 ?l_46 ?c_46 ?k_46 ?a_47 ?y_47 ?l_47 ?c_47 ?k_47 ?a_48 ?l_48 ?c_48 ?k_48 ?a_49 ?l_49 ?c_49 ?k_49 ?a_50 ?l_50 ?c_50 ?k_50 ?z_int ?z_range ?z_len ?z_tuple ?z_max ?z_min ?z_enumerate ?z_sum ?z_zip ?z_MOST_CHANGES ?z_MOST_LINES ?z_GREATEST_AMOUNT ?ya_Bench ?yp_Bench ?yh_Bench ?yo_Bench ?ys_Bench ?ym_Bench ?yk_Bench ?na_Bench_board ?na_Bench_corners ?na_Bench_done ?na_Bench_grown ?na_Bench_undone ?xa_NoSuchColumn ?xk_NoSuchColumn ?xhg_NoSuchColumn ?xhk_NoSuchColumn ?xhs_NoSuchColumn ?xhd_NoSuchColumn ?xha_NoSuchColumn ?xhm_NoSuchColumn ?xty_NoSuchColumn ?xn_NoSuchColumn ?xa_NoSuchCorner ?xk_NoSuchCorner ?xhg_NoSuchCorner ?xhk_NoSuchCorner ?xhs_NoSuchCorner ?xhd_NoSuchCorner ?xha_NoSuchCorner ?xhm_NoSuchCorner ?xty_NoSuchCorner ?xn_NoSuchCorner ?xa_NoSuchRow ?xk_NoSuchRow ?xhg_NoSuchRow ?xhk_NoSuchRow ?xhs_NoSuchRow ?xhd_NoSuchRow ?xha_NoSuchRow ?xhm_NoSuchRow ?xty_NoSuchRow ?xn_NoSuchRow ?xa_TooManyChanges ?xk_TooManyChanges ?xhg_TooManyChanges ?xhk_TooManyChanges ?xhs_TooManyChanges ?xhd_TooManyChanges ?xha_TooManyChanges ?xhm_TooManyChanges ?xty_TooManyChanges ?xn_TooManyChanges ?xa_WalkhandsError ?xk_WalkhandsError ?xhg_WalkhandsError ?xhk_WalkhandsError ?xhs_WalkhandsError ?xhd_WalkhandsError ?xha_WalkhandsError ?xhm_WalkhandsError ?xty_WalkhandsError ?xa_WrongAmounts ?xk_WrongAmounts ?xhg_WrongAmounts ?xhk_WrongAmounts ?xhs_WrongAmounts ?xhd_WrongAmounts ?xha_WrongAmounts ?xhm_WrongAmounts ?xty_WrongAmounts ?xn_WrongAmounts ?xa_WrongSize ?xk_WrongSize ?xhg_WrongSize ?xhk_WrongSize ?xhs_WrongSize ?xhd_WrongSize ?xha_WrongSize ?xhm_WrongSize ?xty_WrongSize ?xn_WrongSize ?xspec ?xtakes ?xs_NoSuchColumn_WalkhandsError ?xs_NoSuchRow_WalkhandsError ?xs_TooManyChanges_WalkhandsError ?xs_WrongAmounts_WalkhandsError ?xs_WrongSize_WalkhandsError
    (case ya_Bench => k_is); (case yp_Bench => k_is); (case yh_Bench => k_is); (case yo_Bench => k_is); (case ys_Bench => k_is); (case ym_Bench => k_is); (case yk_Bench => k_is); (case a_0 => k_is); (case l_0 => k_is); (case c_0 => k_is); (case k_0 => k_is); (case a_1 => k_is); (case l_1 => k_is); (case c_1 => k_is); (case k_1 => k_is); (case a_2 => k_is); (case l_2 => k_is); (case c_2 => k_is); (case k_2 => k_is); (case a_3 => k_is); (case l_3 => k_is); (case c_3 => k_is); (case k_3 => k_is); (case a_4 => k_is); (case l_4 => k_is); (case c_4 => k_is); (case k_4 => k_is); (case a_5 => k_is); (case l_5 => k_is); (case c_5 => k_is); (case k_5 => k_is); (case a_6 => k_is); (case l_6 => k_is); (case c_6 => k_is); (case k_6 => k_is); (case a_7 => k_is); (case l_7 => k_is); (case c_7 => k_is); (case k_7 => k_is); (case a_8 => k_is); (case l_8 => k_is); (case c_8 => k_is); (case k_8 => k_is); (case y_8 => k_is); (case a_9 => k_is); (case l_9 => k_is); (case c_9 => k_is); (case k_9 => k_is); (case a_10 => k_is); (case l_10 => k_is); (case c_10 => k_is); (case k_10 => k_is); (case a_11 => k_is); (case l_11 => k_is); (case c_11 => k_is); (case k_11 => k_is); (case a_12 => k_is); (case l_12 => k_is); (case c_12 => k_is); (case k_12 => k_is); (case a_13 => k_is); (case l_13 => k_is); (case c_13 => k_is); (case k_13 => k_is); (case a_14 => k_is); (case l_14 => k_is); (case c_14 => k_is); (case k_14 => k_is); (case a_15 => k_is); (case l_15 => k_is); (case c_15 => k_is); (case k_15 => k_is); (case a_16 => k_is); (case l_16 => k_is); (case c_16 => k_is); (case k_16 => k_is); (case y_16 => k_is); (case a_17 => k_is); (case l_17 => k_is); (case c_17 => k_is); (case k_17 => k_is); (case y_17 => k_is); (case a_18 => k_is); (case l_18 => k_is); (case c_18 => k_is); (case k_18 => k_is); (case y_18 => k_is); (case a_19 => k_is); (case l_19 => k_is); (case c_19 => k_is); (case k_19 => k_is); (case y_19 => k_is); (case a_20 => k_is); (case l_20 => k_is); (case c_20 => k_is); (case k_20 => k_is); (case y_20 => k_is); (case a_21 => k_is); (case l_21 => k_is); (case c_21 => k_is); (case k_21 => k_is); (case a_22 => k_is); (case l_22 => k_is); (case c_22 => k_is); (case k_22 => k_is); (case y_22 => k_is); (case a_23 => k_is); (case l_23 => k_is); (case c_23 => k_is); (case k_23 => k_is); (case y_23 => k_is); (case a_24 => k_is); (case l_24 => k_is); (case c_24 => k_is); (case k_24 => k_is); (case y_24 => k_is); (case a_25 => k_is); (case l_25 => k_is); (case c_25 => k_is); (case k_25 => k_is); (case y_25 => k_is); (case a_26 => k_is); (case l_26 => k_is); (case c_26 => k_is); (case k_26 => k_is); (case y_26 => k_is); (case a_27 => k_is); (case l_27 => k_is); (case c_27 => k_is); (case k_27 => k_is); (case y_27 => k_is); (case a_28 => k_is); (case l_28 => k_is); (case c_28 => k_is); (case k_28 => k_is); (case a_29 => k_is); (case l_29 => k_is); (case c_29 => k_is); (case k_29 => k_is); (case a_30 => k_is); (case l_30 => k_is); (case c_30 => k_is); (case k_30 => k_is); (case y_30 => k_is); (case a_31 => k_is); (case l_31 => k_is); (case c_31 => k_is); (case k_31 => k_is); (case a_32 => k_is); (case l_32 => k_is); (case c_32 => k_is); (case k_32 => k_is); (case y_32 => k_is); (case a_33 => k_is); (case l_33 => k_is); (case c_33 => k_is); (case k_33 => k_is); (case a_34 => k_is); (case l_34 => k_is); (case c_34 => k_is); (case k_34 => k_is); (case a_35 => k_is); (case l_35 => k_is); (case c_35 => k_is); (case k_35 => k_is); (case a_36 => k_is); (case l_36 => k_is); (case c_36 => k_is); (case k_36 => k_is); (case a_37 => k_is); (case l_37 => k_is); (case c_37 => k_is); (case k_37 => k_is); (case a_38 => k_is); (case l_38 => k_is); (case c_38 => k_is); (case k_38 => k_is); (case a_39 => k_is); (case l_39 => k_is); (case c_39 => k_is); (case k_39 => k_is); (case a_40 => k_is); (case l_40 => k_is); (case c_40 => k_is); (case k_40 => k_is); (case y_40 => k_is); (case a_41 => k_is); (case l_41 => k_is); (case c_41 => k_is); (case k_41 => k_is); (case a_42 => k_is); (case l_42 => k_is); (case c_42 => k_is); (case k_42 => k_is); (case a_43 => k_is); (case l_43 => k_is); (case c_43 => k_is); (case k_43 => k_is); (case a_44 => k_is); (case l_44 => k_is); (case c_44 => k_is); (case k_44 => k_is); (case y_44 => k_is); (case a_45 => k_is); (case l_45 => k_is); (case c_45 => k_is); (case k_45 => k_is); (case y_45 => k_is); (case a_46 => k_is); (case l_46 => k_is); (case c_46 => k_is); (case k_46 => k_is); (case y_46 => k_is); (case a_47 => k_is); (case l_47 => k_is); (case c_47 => k_is); (case k_47 => k_is); (case y_47 => k_is); (case a_48 => k_is); (case l_48 => k_is); (case c_48 => k_is); (case k_48 => k_is); (case a_49 => k_is); (case l_49 => k_is); (case c_49 => k_is); (case k_49 => k_is); (case a_50 => k_is); (case l_50 => k_is); (case c_50 => k_is); (case k_50 => k_is); (case z_int => k_is); (case z_range => k_is); (case z_len => k_is); (case z_tuple => k_is); (case z_max => k_is); (case z_min => k_is); (case z_enumerate => k_is); (case z_sum => k_is); (case z_zip => k_is); (case z_MOST_CHANGES => k_is); (case z_MOST_LINES => k_is); (case z_GREATEST_AMOUNT => k_is); (case na_Bench_board => k_is); (case na_Bench_corners => k_is); (case na_Bench_done => k_is); (case na_Bench_grown => k_is); (case na_Bench_undone => k_is); (case xa_NoSuchColumn => k_is); (case xk_NoSuchColumn => k_is); (case xhg_NoSuchColumn => k_is); (case xhk_NoSuchColumn => k_is); (case xhs_NoSuchColumn => k_is); (case xhd_NoSuchColumn => k_is); (case xha_NoSuchColumn => k_is); (case xhm_NoSuchColumn => k_is); (case xty_NoSuchColumn => k_is); (case xn_NoSuchColumn => k_exc); (case xa_NoSuchCorner => k_is); (case xk_NoSuchCorner => k_is); (case xhg_NoSuchCorner => k_is); (case xhk_NoSuchCorner => k_is); (case xhs_NoSuchCorner => k_is); (case xhd_NoSuchCorner => k_is); (case xha_NoSuchCorner => k_is); (case xhm_NoSuchCorner => k_is); (case xty_NoSuchCorner => k_is); (case xn_NoSuchCorner => k_exc); (case xa_NoSuchRow => k_is); (case xk_NoSuchRow => k_is); (case xhg_NoSuchRow => k_is); (case xhk_NoSuchRow => k_is); (case xhs_NoSuchRow => k_is); (case xhd_NoSuchRow => k_is); (case xha_NoSuchRow => k_is); (case xhm_NoSuchRow => k_is); (case xty_NoSuchRow => k_is); (case xn_NoSuchRow => k_exc); (case xa_TooManyChanges => k_is); (case xk_TooManyChanges => k_is); (case xhg_TooManyChanges => k_is); (case xhk_TooManyChanges => k_is); (case xhs_TooManyChanges => k_is); (case xhd_TooManyChanges => k_is); (case xha_TooManyChanges => k_is); (case xhm_TooManyChanges => k_is); (case xty_TooManyChanges => k_is); (case xn_TooManyChanges => k_exc); (case xa_WalkhandsError => k_is); (case xk_WalkhandsError => k_is); (case xhg_WalkhandsError => k_is); (case xhk_WalkhandsError => k_is); (case xhs_WalkhandsError => k_is); (case xhd_WalkhandsError => k_is); (case xha_WalkhandsError => k_is); (case xhm_WalkhandsError => k_is); (case xty_WalkhandsError => k_is); (case xa_WrongAmounts => k_is); (case xk_WrongAmounts => k_is); (case xhg_WrongAmounts => k_is); (case xhk_WrongAmounts => k_is); (case xhs_WrongAmounts => k_is); (case xhd_WrongAmounts => k_is); (case xha_WrongAmounts => k_is); (case xhm_WrongAmounts => k_is); (case xty_WrongAmounts => k_is); (case xn_WrongAmounts => k_exc); (case xa_WrongSize => k_is); (case xk_WrongSize => k_is); (case xhg_WrongSize => k_is); (case xhk_WrongSize => k_is); (case xhs_WrongSize => k_is); (case xhd_WrongSize => k_is); (case xha_WrongSize => k_is); (case xhm_WrongSize => k_is); (case xty_WrongSize => k_is); (case xn_WrongSize => k_exc); (case xspec => k_is); (case xtakes => k_is); (case xs_NoSuchColumn_WalkhandsError => first | rfl | k_is); (case xs_NoSuchRow_WalkhandsError => first | rfl | k_is); (case xs_TooManyChanges_WalkhandsError => first | rfl | k_is); (case xs_WrongAmounts_WalkhandsError => first | rfl | k_is); (case xs_WrongSize_WalkhandsError => first | rfl | k_is)
