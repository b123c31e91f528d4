import PyProof.Rows.All
import Wide.All
import OpenK.AllK
import Wide.FinOn
import HandS.ForMost
import HandS.TupAny
import HandS.TupMul
import HandS.Style
import HandS.SortInts
import HandS.IsInst
import KE.GoesMore
import KE.KTupSum
import HandS.ForExc
import HandS.ExcInit
import HandS.ExcField
import HandS.DictComp
import HandS.ExcIs
import KE.KExcIs
import HandS.FStr
import HandS.RaiseMore
import HandS.ExcValue
import HandS.Small
import PySem.Challenge.RW_walkhands_k37_errors
set_option Elab.async false
set_option linter.all false
set_option maxRecDepth 100000
set_option maxHeartbeats 4000000
namespace Wk
open PySem PySem.Spec PyProof.Rows L2

/-! ## data that stands in a heap -/
mutual
inductive Da (H : Hp) : V → PyData → Prop
  | non : Da H .non .none
  | bl (b : Bool) : Da H (.bl b) (.bool b)
  | int (i : Int) : Da H (.int i) (.int i)
  | str (x : Str) : Da H (.str x) (.str x)
  | lst {a : Addr} {xs : List V} {ds : List PyData} : H a = some (.lst xs) → DaAll H xs ds → Da H (.ref a) (.list ds)
  | tup {a : Addr} {xs : List V} {ds : List PyData} : H a = some (.tup xs) → DaAll H xs ds → Da H (.ref a) (.tuple ds)
inductive DaAll (H : Hp) : List V → List PyData → Prop
  | nil : DaAll H [] []
  | cons {v : V} {vs : List V} {d : PyData} {ds : List PyData} : Da H v d → DaAll H vs ds → DaAll H (v :: vs) (d :: ds)
end
mutual
theorem Da.mono {H H' : Hp} (e : Same H H') : ∀ {v : V} {d : PyData}, Da H v d → Da H' v d
  | _, _, .non => .non
  | _, _, .bl b => .bl b
  | _, _, .int i => .int i
  | _, _, .str x => .str x
  | _, _, .lst h r => .lst (e _ _ h) (DaAll.mono e r)
  | _, _, .tup h r => .tup (e _ _ h) (DaAll.mono e r)
theorem DaAll.mono {H H' : Hp} (e : Same H H') : ∀ {vs : List V} {ds : List PyData}, DaAll H vs ds → DaAll H' vs ds
  | _, _, .nil => .nil
  | _, _, .cons h r => .cons (Da.mono e h) (DaAll.mono e r)
end
mutual
theorem Da.dp {K : PySem.W.Frag} {H : Hp} : ∀ {v : V} {d : PyData}, Da H v d → Dp K H v d
  | _, _, .non => .non
  | _, _, .bl b => .bl b
  | _, _, .int i => .int i
  | _, _, .str x => .str x
  | _, _, .lst h r => .lst (.inl (.inl h)) (DaAll.dp r)
  | _, _, .tup h r => .tup (.inl (.inl h)) (DaAll.dp r)
theorem DaAll.dp {K : PySem.W.Frag} {H : Hp} : ∀ {vs : List V} {ds : List PyData}, DaAll H vs ds → DpAll K H vs ds
  | _, _, .nil => .nil
  | _, _, .cons h r => .cons (Da.dp h) (DaAll.dp r)
end
theorem DaAll.length {H : Hp} : ∀ {vs : List V} {ds : List PyData}, DaAll H vs ds → vs.length = ds.length
  | _, _, .nil => rfl
  | _, _, .cons _ r => by rw [List.length_cons, List.length_cons, DaAll.length r]
theorem DaAll.get {H : Hp} : ∀ {vs : List V} {ds : List PyData} {i : Nat} {d : PyData}, DaAll H vs ds → ds[i]? = some d → ∃ v, vs[i]? = some v ∧ Da H v d
  | _, _, _, _, .nil, e => by simp at e
  | _, _, 0, _, .cons h _, e => by
    simp at e; subst e; exact ⟨_, rfl, h⟩
  | _, _, i + 1, _, .cons _ r, e => by
    obtain ⟨v, h1, h2⟩ := DaAll.get (i := i) r (by simpa using e)
    exact ⟨v, by simpa using h1, h2⟩
theorem DaAll.getV {H : Hp} : ∀ {vs : List V} {ds : List PyData} {i : Nat} {v : V}, DaAll H vs ds → vs[i]? = some v → ∃ d, ds[i]? = some d ∧ Da H v d
  | _, _, _, _, .nil, e => by simp at e
  | _, _, 0, _, .cons h _, e => by
    simp at e; subst e; exact ⟨_, rfl, h⟩
  | _, _, i + 1, _, .cons _ r, e => by
    obtain ⟨v, h1, h2⟩ := DaAll.getV (i := i) r (by simpa using e)
    exact ⟨v, by simpa using h1, h2⟩
theorem DaAll.append {H : Hp} : ∀ {vs ws : List V} {ds es : List PyData}, DaAll H vs ds → DaAll H ws es → DaAll H (vs ++ ws) (ds ++ es)
  | _, _, _, _, .nil, s => s
  | _, _, _, _, .cons h r, s => .cons h (DaAll.append r s)
theorem DaAll.take {H : Hp} : ∀ {vs : List V} {ds : List PyData} (n : Nat), DaAll H vs ds → DaAll H (vs.take n) (ds.take n)
  | _, _, 0, _ => .nil
  | _, _, _ + 1, .nil => .nil
  | _, _, n + 1, .cons h r => .cons h (DaAll.take n r)
theorem DaAll.drop {H : Hp} : ∀ {vs : List V} {ds : List PyData} (n : Nat), DaAll H vs ds → DaAll H (vs.drop n) (ds.drop n)
  | _, _, 0, r => r
  | _, _, _ + 1, .nil => .nil
  | _, _, n + 1, .cons _ r => DaAll.drop n r
theorem DaAll.reverse {H : Hp} : ∀ {vs : List V} {ds : List PyData}, DaAll H vs ds → DaAll H vs.reverse ds.reverse
  | _, _, .nil => .nil
  | _, _, .cons h r => by
    rw [List.reverse_cons, List.reverse_cons]
    exact DaAll.append (DaAll.reverse r) (.cons h .nil)
theorem DaAll.ints {H : Hp} : ∀ {vs : List V} {ns : List Int}, DaAll H vs (ns.map PyData.int) → vs = ns.map V.int
  | _, [], h => by cases h; rfl
  | _, n :: ns, h => by
    cases h with
    | cons h r => cases h; rw [DaAll.ints r]; rfl
theorem DaAll.of_ints {H : Hp} : ∀ (ns : List Int), DaAll H (ns.map V.int) (ns.map PyData.int)
  | [] => .nil
  | n :: ns => .cons (.int n) (DaAll.of_ints ns)
/-- a tuple, a list of ints -/
abbrev tI (ns : List Int) : PyData := .tuple (ns.map PyData.int)
abbrev lI (ns : List Int) : PyData := .list (ns.map PyData.int)

/-! ## what is said of a value: nothing, the data that it is, its address, the script -/
inductive SD where
  | non
  | dat (d : PyData)
  | ad (a : Addr)
  | scr (ns : List Int)
  | ty (n : String)
  | dic (kvs : List (Key × PyData))
  | exc (a : Addr) (cls : Value) (d : Option Addr) (C : Addr) (fs : Option (Str × PyData))
  | xob (C : Addr) (fs : Option (Str × PyData))
abbrev iV (i : Int) : SD := .dat (.int i)
abbrev bV (b : Bool) : SD := .dat (.bool b)
section
variable (K : PySem.W.Frag)
/-- an exception: its class, its own dict -/
def XDok (Hk : Hp) (cls : Value) (d : Option Addr) (C : Addr) (fs : Option (Str × PyData)) : Prop :=
  cls = .ref C ∧ match fs with
    | none => d = none
    | some (f, x) => ∃ (dd : Addr) (v : V), d = some dd ∧ Hk dd = some (.xd [(f, v)]) ∧ Da Hk v x
/-- an exception as a value -/
def XOok (Hk : Hp) (a C : Addr) (fs : Option (Str × PyData)) : Prop :=
  match fs with
    | none => Hk a = some (ExO (.ref C) a)
    | some (f, x) => ∃ (d : Addr) (v : V), Hk a = some (exo a C (some d)) ∧ Hk d = some (exd d [(f, v)]) ∧ Da Hk v x
theorem XOok.mono {H H' : Hp} (e : Same H H') {a C : Addr} : ∀ {fs : Option (Str × PyData)}, XOok H a C fs → XOok H' a C fs
  | none, h => e _ _ h
  | some (f, x), ⟨d, v, h2, h3, h4⟩ => ⟨d, v, e _ _ h2, e _ _ h3, Da.mono e h4⟩
theorem XDok.mono {H H' : Hp} (e : Same H H') {cls : Value} {d : Option Addr} {C : Addr} : ∀ {fs : Option (Str × PyData)}, XDok H cls d C fs → XDok H' cls d C fs
  | none, h => h
  | some (f, x), ⟨h1, dd, v, h2, h3, h4⟩ => ⟨h1, dd, v, h2, e _ _ h3, Da.mono e h4⟩
def SDok (Hk : Hp) (v : V) : SD → Prop
  | .non => True
  | .dat d => Da Hk v d
  | .ad a => v = .ref a
  | .scr ns => ∃ a, v = .ref a ∧ SqL K Hk a (ns.map V.int)
  | .ty n => v = .ty n
  | .dic kvs => ∃ (a : Addr) (vs : List (Key × V)), v = .ref a ∧ Hk a = some (.dK vs) ∧ vs.map (·.1) = kvs.map (·.1) ∧ DaAll Hk (vs.map (·.2)) (kvs.map (·.2))
  | .exc a cls d C fs => v = .ref a ∧ XDok Hk cls d C fs
  | .xob C fs => ∃ a, v = .ref a ∧ XOok Hk a C fs
theorem SDok.mono {K : PySem.W.Frag} {H H' : Hp} (e : Same H H') {v : V} : ∀ {r : SD}, SDok K H v r → SDok K H' v r
  | .non, _ => trivial
  | .dat _, h => Da.mono e h
  | .ad _, h => h
  | .scr _, ⟨a, h1, h2⟩ => ⟨a, h1, e.seq h2⟩
  | .ty _, h => h
  | .dic _, ⟨a, vs, h1, h2, h3, h4⟩ => ⟨a, vs, h1, e _ _ h2, h3, DaAll.mono e h4⟩
  | .exc .., ⟨h1, h2⟩ => ⟨h1, h2.mono e⟩
  | .xob .., ⟨a, h1, h2⟩ => ⟨a, h1, h2.mono e⟩
inductive SDall (Hk : Hp) : List V → List SD → Prop
  | nil : SDall Hk [] []
  | cons {v : V} {vs : List V} {r : SD} {rs : List SD} : SDok K Hk v r → SDall Hk vs rs → SDall Hk (v :: vs) (r :: rs)
section
variable {K} {H H' : Hp}
theorem SDall.mono (e : Same H H') : ∀ {vs : List V} {rs : List SD}, SDall K H vs rs → SDall K H' vs rs
  | _, _, .nil => .nil
  | _, _, .cons h r => .cons (h.mono e) (SDall.mono e r)
theorem SDall.length : ∀ {vs : List V} {rs : List SD}, SDall K H vs rs → vs.length = rs.length
  | _, _, .nil => rfl
  | _, _, .cons _ r => by rw [List.length_cons, List.length_cons, SDall.length r]
theorem SDall.append : ∀ {vs ws : List V} {ds es : List SD}, SDall K H vs ds → SDall K H ws es → SDall K H (vs ++ ws) (ds ++ es)
  | _, _, _, _, .nil, s => s
  | _, _, _, _, .cons h r, s => .cons h (SDall.append r s)
theorem SDall.get : ∀ {vs : List V} {ds : List SD} {i : Nat} {d : SD}, SDall K H vs ds → ds[i]? = some d → ∃ v, vs[i]? = some v ∧ SDok K H v d
  | _, _, _, _, .nil, e => by simp at e
  | _, _, 0, _, .cons h _, e => by
    simp at e; subst e; exact ⟨_, rfl, h⟩
  | _, _, i + 1, _, .cons _ r, e => by
    obtain ⟨v, h1, h2⟩ := SDall.get (i := i) r (by simpa using e)
    exact ⟨v, by simpa using h1, h2⟩
theorem SDall.set {v : V} {r : SD} (h : SDok K H v r) : ∀ {vs : List V} {rs : List SD} (j : Nat), SDall K H vs rs → SDall K H (vs.set j v) (rs.set j r)
  | _, _, _, .nil => .nil
  | _, _, 0, .cons _ t => .cons h t
  | _, _, j + 1, .cons q t => .cons q (SDall.set h j t)
theorem SDall.take : ∀ {vs : List V} {ds : List SD} (n : Nat), SDall K H vs ds → SDall K H (vs.take n) (ds.take n)
  | _, _, 0, _ => .nil
  | _, _, _ + 1, .nil => .nil
  | _, _, n + 1, .cons h r => .cons h (SDall.take n r)
theorem SDall.drop : ∀ {vs : List V} {ds : List SD} (n : Nat), SDall K H vs ds → SDall K H (vs.drop n) (ds.drop n)
  | _, _, 0, r => r
  | _, _, _ + 1, .nil => .nil
  | _, _, n + 1, .cons _ r => SDall.drop n r
theorem SDall.dats : ∀ {vs : List V} {ds : List PyData}, SDall K H vs (ds.map SD.dat) → DaAll H vs ds
  | _, [], h => by cases h; exact .nil
  | _, d :: ds, h => by
    cases h with
    | cons h r => exact .cons h (SDall.dats r)
theorem SDall.of_dats : ∀ {vs : List V} {ds : List PyData}, DaAll H vs ds → SDall K H vs (ds.map SD.dat)
  | _, _, .nil => .nil
  | _, _, .cons h r => .cons h (SDall.of_dats r)
end

/-! ## what is owned: lists (and dicts with text keys) that nothing else knows -/
inductive OD where
  | lst (rs : List SD)
  | dK (kvs : List (Key × SD))
  | tup (rs : List SD)
  | lstX (vs : List V) (rs : List SD)
abbrev Own := List (Addr × OD)
def ODok (Hk H : Hp) (a : Addr) : OD → Prop
  | .lst rs => ∃ vs, H a = some (.lst vs) ∧ SDall K Hk vs rs
  | .dK kvs => ∃ vs : List (Key × V), H a = some (.dK vs) ∧ vs.map (·.1) = kvs.map (·.1) ∧ SDall K Hk (vs.map (·.2)) (kvs.map (·.2))
  | .tup rs => ∃ vs, H a = some (.tup vs) ∧ SDall K Hk vs rs
  | .lstX vs rs => H a = some (.lst vs) ∧ SDall K Hk vs rs
structure Hold (Hk : Hp) (O : Own) (H : Hp) : Prop where
  kn : Same Hk H
  ow : ∀ p ∈ O, ODok K Hk H p.1 p.2 ∧ Hk p.1 = none
  nd : (O.map (·.1)).Nodup
structure Pt (Hk : Hp) (O : Own) (ds : List SD) (σ : L2.St) (H : Hp) : Prop where
  hold : Hold K Hk O H
  len : σ.length = ds.length
  env : ∀ (i : Nat) (r : SD), ds[i]? = some r → r = .non ∨ ∃ v, σ[i]? = some (some v) ∧ SDok K Hk v r
end
section
variable {K : PySem.W.Frag} {Hk Hk' H H' : Hp} {O O' : Own} {ds : List SD} {σ : L2.St}
theorem ODok.some {a : Addr} {x : OD} (h : ODok K Hk H a x) : ∃ o, H a = some o := by
  cases x with
  | lst rs => obtain ⟨vs, h, _⟩ := h; exact ⟨_, h⟩
  | dK rs => obtain ⟨vs, h, _⟩ := h; exact ⟨_, h⟩
  | tup rs => obtain ⟨vs, h, _⟩ := h; exact ⟨_, h⟩
  | lstX vs rs => obtain ⟨h, _⟩ := h; exact ⟨_, h⟩
theorem ODok.mono {a : Addr} {x : OD} (e : Same Hk Hk') (h : ODok K Hk H a x) (ha : H' a = H a) : ODok K Hk' H' a x := by
  cases x with
  | lst rs => obtain ⟨vs, h, q⟩ := h; exact ⟨vs, ha.trans h, q.mono e⟩
  | dK rs => obtain ⟨vs, h, k, q⟩ := h; exact ⟨vs, ha.trans h, k, q.mono e⟩
  | tup rs => obtain ⟨vs, h, q⟩ := h; exact ⟨vs, ha.trans h, q.mono e⟩
  | lstX vs rs => obtain ⟨h, q⟩ := h; exact ⟨ha.trans h, q.mono e⟩
theorem Hold.free_own (h : Hold K Hk O H) {p : Addr} (hp : H p = none) : p ∉ O.map (·.1) := fun z => by
  obtain ⟨q, hq, e⟩ := List.mem_map.mp z
  obtain ⟨o, ho⟩ := (h.ow q hq).1.some
  rw [e, hp] at ho
  cases ho
theorem same_new {H : Hp} {p : Addr} {o : HO} (h : H p = none) : Same H (upd H p o) := fun b x e => by
  rw [upd_ne (ne_of_none e h)]
  exact e
/-- a new object that is known at once -/
theorem Hold.know (h : Hold K Hk O H) {p : Addr} {o : HO} (hp : H p = none) : Hold K (upd Hk p o) O (upd H p o) := by
  have kp : Hk p = none := h.kn.free hp
  refine ⟨fun b x e => ?_, fun q hq => ?_, h.nd⟩
  · by_cases hb : b = p
    · subst hb
      rw [upd_same] at e ⊢
      exact e
    · rw [upd_ne hb] at e ⊢
      exact h.kn b x e
  · have ne : q.1 ≠ p := fun z => h.free_own hp (z ▸ List.mem_map.mpr ⟨q, hq, rfl⟩)
    obtain ⟨h1, h2⟩ := h.ow q hq
    exact ⟨h1.mono (same_new kp) (upd_ne ne), by rw [upd_ne ne]; exact h2⟩
/-- a new list that is owned -/
theorem Hold.own (h : Hold K Hk O H) {p : Addr} {vs : List V} {rs : List SD} (hp : H p = none) (hv : SDall K Hk vs rs) : Hold K Hk ((p, .lst rs) :: O) (upd H p (.lst vs)) := by
  have kp : Hk p = none := h.kn.free hp
  refine ⟨fun b x e => ?_, fun q hq => ?_, ?_⟩
  · rw [upd_ne (ne_of_none e kp)]
    exact h.kn b x e
  · rcases List.mem_cons.mp hq with rfl | hq
    · exact ⟨⟨vs, upd_same, hv⟩, kp⟩
    · have ne : q.1 ≠ p := fun z => h.free_own hp (z ▸ List.mem_map.mpr ⟨q, hq, rfl⟩)
      obtain ⟨h1, h2⟩ := h.ow q hq
      exact ⟨h1.mono (Same.refl _) (upd_ne ne), h2⟩
  · rw [List.map_cons, List.nodup_cons]
    exact ⟨h.free_own hp, h.nd⟩
/-- a new object that is owned -/
theorem Hold.ownG (h : Hold K Hk O H) {p : Addr} {o : HO} {x : OD} (hp : H p = none) (hx : ODok K Hk (upd H p o) p x) : Hold K Hk ((p, x) :: O) (upd H p o) := by
  have kp : Hk p = none := h.kn.free hp
  refine ⟨fun b y e => ?_, fun q hq => ?_, ?_⟩
  · rw [upd_ne (ne_of_none e kp)]
    exact h.kn b y e
  · rcases List.mem_cons.mp hq with rfl | hq
    · exact ⟨hx, kp⟩
    · have ne : q.1 ≠ p := fun z => h.free_own hp (z ▸ List.mem_map.mpr ⟨q, hq, rfl⟩)
      obtain ⟨h1, h2⟩ := h.ow q hq
      exact ⟨h1.mono (Same.refl _) (upd_ne ne), h2⟩
  · rw [List.map_cons, List.nodup_cons]
    exact ⟨h.free_own hp, h.nd⟩
/-- an owned object, said otherwise -/
theorem Hold.tell {a : Addr} {x y : OD} (h : Hold K Hk ((a, x) :: O) H) (hy : ODok K Hk H a y) : Hold K Hk ((a, y) :: O) H := by
  have nd := h.nd
  rw [List.map_cons] at nd
  refine ⟨h.kn, fun q hq => ?_, by rw [List.map_cons]; exact nd⟩
  rcases List.mem_cons.mp hq with rfl | hq
  · exact ⟨hy, (h.ow (a, x) List.mem_cons_self).2⟩
  · exact h.ow q (List.mem_cons_of_mem _ hq)
/-- an owned object is written -/
theorem Hold.writeG {a : Addr} {x y : OD} {o : HO} (h : Hold K Hk ((a, x) :: O) H) (hy : ODok K Hk (upd H a o) a y) : Hold K Hk ((a, y) :: O) (upd H a o) := by
  have ka : Hk a = none := (h.ow (a, x) List.mem_cons_self).2
  have nd := h.nd
  rw [List.map_cons, List.nodup_cons] at nd
  refine ⟨fun b z e => ?_, fun q hq => ?_, ?_⟩
  · rw [upd_ne (ne_of_none e ka)]
    exact h.kn b z e
  · rcases List.mem_cons.mp hq with rfl | hq
    · exact ⟨hy, ka⟩
    · have ne : q.1 ≠ a := fun z => nd.1 (z ▸ List.mem_map.mpr ⟨q, hq, rfl⟩)
      obtain ⟨h1, h2⟩ := h.ow q (List.mem_cons_of_mem _ hq)
      exact ⟨h1.mono (Same.refl _) (upd_ne ne), h2⟩
  · rw [List.map_cons, List.nodup_cons]
    exact nd
theorem Hold.perm (h : Hold K Hk O H) (p : O.Perm O') : Hold K Hk O' H :=
  ⟨h.kn, fun q hq => h.ow q (p.mem_iff.mpr hq), (p.map _).nodup_iff.mp h.nd⟩
theorem Hold.sub (h : Hold K Hk O H) (s : List.Sublist O' O) : Hold K Hk O' H :=
  ⟨h.kn, fun q hq => h.ow q (s.subset hq), (s.map _).nodup h.nd⟩
/-- an owned list is written -/
theorem Hold.write {a : Addr} {x : OD} {vs : List V} {rs : List SD} (h : Hold K Hk ((a, x) :: O) H) (hv : SDall K Hk vs rs) : Hold K Hk ((a, .lst rs) :: O) (upd H a (.lst vs)) := by
  have ka : Hk a = none := (h.ow (a, x) List.mem_cons_self).2
  have nd := h.nd
  rw [List.map_cons, List.nodup_cons] at nd
  refine ⟨fun b y e => ?_, fun q hq => ?_, ?_⟩
  · rw [upd_ne (ne_of_none e ka)]
    exact h.kn b y e
  · rcases List.mem_cons.mp hq with rfl | hq
    · exact ⟨⟨vs, upd_same, hv⟩, ka⟩
    · have ne : q.1 ≠ a := fun z => nd.1 (z ▸ List.mem_map.mpr ⟨q, hq, rfl⟩)
      obtain ⟨h1, h2⟩ := h.ow q (List.mem_cons_of_mem _ hq)
      exact ⟨h1.mono (Same.refl _) (upd_ne ne), h2⟩
  · rw [List.map_cons, List.nodup_cons]
    exact nd
/-- an owned list of data becomes known -/
theorem Hold.freeze {a : Addr} {es : List PyData} (h : Hold K Hk ((a, .lst (es.map .dat)) :: O) H) : ∃ Hk', Same Hk Hk' ∧ Hold K Hk' O H ∧ Da Hk' (.ref a) (.list es) := by
  obtain ⟨⟨vs, ha, hv⟩, ka⟩ := h.ow (a, .lst (es.map .dat)) List.mem_cons_self
  have nd := h.nd
  rw [List.map_cons, List.nodup_cons] at nd
  have sm : Same Hk (upd Hk a (.lst vs)) := same_new ka
  refine ⟨upd Hk a (.lst vs), sm, ⟨fun b y e => ?_, fun q hq => ?_, nd.2⟩, .lst upd_same (DaAll.mono sm hv.dats)⟩
  · by_cases hb : b = a
    · subst hb
      rw [upd_same] at e
      rw [ha]
      exact e
    · rw [upd_ne hb] at e
      exact h.kn b y e
  · have ne : q.1 ≠ a := fun z => nd.1 (z ▸ List.mem_map.mpr ⟨q, hq, rfl⟩)
    obtain ⟨h1, h2⟩ := h.ow q (List.mem_cons_of_mem _ hq)
    exact ⟨h1.mono sm rfl, by rw [upd_ne ne]; exact h2⟩
theorem Pt.ext (p : Pt K Hk O ds σ H) (e : Same Hk Hk') (h : Hold K Hk' O' H') : Pt K Hk' O' ds σ H' :=
  ⟨h, p.len, fun i r hr => (p.env i r hr).imp id fun ⟨v, h1, h2⟩ => ⟨v, h1, h2.mono e⟩⟩
theorem Pt.set {v : V} {r : SD} {j : Nat} (p : Pt K Hk O ds σ H) (h : SDok K Hk v r) : Pt K Hk O (ds.set j r) (σ.set j (some v)) H :=
  ⟨p.hold, by rw [List.length_set, List.length_set, p.len], fun i q hq => by
    by_cases hi : i = j
    · subst hi
      have hl : i < (ds.set i r).length := (List.getElem?_eq_some_iff.mp hq).1
      rw [List.length_set] at hl
      rw [List.getElem?_set_self hl] at hq
      cases hq
      exact .inr ⟨v, List.getElem?_set_self (by rw [p.len]; exact hl), h⟩
    · rw [List.getElem?_set_ne (Ne.symm hi)] at hq
      rw [List.getElem?_set_ne (Ne.symm hi)]
      exact p.env i q hq⟩
theorem Pt.weak {ds' : List SD} (p : Pt K Hk O ds σ H) (hl : ds'.length = ds.length) (h : ∀ (i : Nat) (r : SD), ds'[i]? = some r → r = .non ∨ ds[i]? = some r) : Pt K Hk O ds' σ H :=
  ⟨p.hold, by rw [p.len, hl], fun i r hr => (h i r hr).elim .inl (p.env i r)⟩
end
end Wk
namespace Wk
open PySem PySem.Spec PyProof.Rows L2
/-- descriptions that are data, all of them -/
inductive Dats : List SD → List PyData → Prop
  | nil : Dats [] []
  | cons {d : PyData} {rs : List SD} {ds : List PyData} : Dats rs ds → Dats (.dat d :: rs) (d :: ds)
theorem Dats.eq : ∀ {rs : List SD} {ds : List PyData}, Dats rs ds → rs = ds.map .dat
  | _, _, .nil => rfl
  | _, _, .cons h => by rw [Dats.eq h]; rfl
theorem Dats.map : ∀ (ds : List PyData), Dats (ds.map .dat) ds
  | [] => .nil
  | _ :: r => .cons (Dats.map r)
theorem Dats.ints : ∀ (ns : List Int), Dats (ns.map fun n => iV n) (ns.map .int)
  | [] => .nil
  | _ :: r => .cons (Dats.ints r)
theorem Dats.append : ∀ {rs qs : List SD} {ds es : List PyData}, Dats rs ds → Dats qs es → Dats (rs ++ qs) (ds ++ es)
  | _, _, _, _, .nil, h => h
  | _, _, _, _, .cons h, k => .cons (Dats.append h k)
section
variable (K : PySem.W.Frag)
/-- what is wanted of a value, met -/
def Kont (Hk : Hp) (Q : SD → Own → Prop) (Q' : VK) : Prop :=
  ∀ v r O2 Hk2 H2, Same Hk Hk2 → Hold K Hk2 O2 H2 → SDok K Hk2 v r → Q r O2 → Q' v H2
def EvW (t : TE) (O : Own) (ds : List SD) (Q : SD → Own → Prop) : Prop :=
  ∀ Hk σ H, Pt K Hk O ds σ H → ∀ Q' : VK, Kont K Hk Q Q' → t σ H Q'
def AvW (t : TA) (O : Own) (ds : List SD) (Q : List SD → Own → Prop) : Prop :=
  ∀ Hk σ H, Pt K Hk O ds σ H → ∀ Q' : List V → Hp → Prop, (∀ vs rs O2 Hk2 H2, Same Hk Hk2 → Hold K Hk2 O2 H2 → SDall K Hk2 vs rs → Q rs O2 → Q' vs H2) → t σ H Q'
def TvW (t : TT) (O : Own) (ds : List SD) (Q : Bool → Own → Prop) : Prop :=
  ∀ Hk σ H, Pt K Hk O ds σ H → ∀ Q' : Bool → Hp → Prop, (∀ b O2 Hk2 H2, Same Hk Hk2 → Hold K Hk2 O2 H2 → Q b O2 → Q' b H2) → t σ H Q'
def IvW (t : TO) (O : Own) (ds : List SD) (Q : Option Int → Own → Prop) : Prop :=
  ∀ Hk σ H, Pt K Hk O ds σ H → ∀ Q' : Option Int → Hp → Prop, (∀ b O2 Hk2 H2, Same Hk Hk2 → Hold K Hk2 O2 H2 → Q b O2 → Q' b H2) → t σ H Q'
def OpW (r : R2) (x y : SD) (O : Own) (Q : SD → Own → Prop) : Prop :=
  ∀ Hk H, Hold K Hk O H → ∀ u v, SDok K Hk u x → SDok K Hk v y → ∀ Q' : VK, Kont K Hk Q Q' → r u v H Q'
def UnW (r : V → Hp → VK → Prop) (x : SD) (O : Own) (Q : SD → Own → Prop) : Prop :=
  ∀ Hk H, Hold K Hk O H → ∀ u, SDok K Hk u x → ∀ Q' : VK, Kont K Hk Q Q' → r u H Q'
def CbW (r : List V → Hp → VK → Prop) (xs : List SD) (O : Own) (Q : SD → Own → Prop) : Prop :=
  ∀ Hk H, Hold K Hk O H → ∀ us, SDall K Hk us xs → ∀ Q' : VK, Kont K Hk Q Q' → r us H Q'
def MbW (r : V → List V → Hp → VK → Prop) (x : SD) (xs : List SD) (O : Own) (Q : SD → Own → Prop) : Prop :=
  ∀ Hk H, Hold K Hk O H → ∀ u us, SDok K Hk u x → SDall K Hk us xs → ∀ Q' : VK, Kont K Hk Q Q' → r u us H Q'
def SlW (r : V → Option Int → Option Int → Hp → VK → Prop) (x : SD) (lo hi : Option Int) (O : Own) (Q : SD → Own → Prop) : Prop :=
  ∀ Hk H, Hold K Hk O H → ∀ u, SDok K Hk u x → ∀ Q' : VK, Kont K Hk Q Q' → r u lo hi H Q'
/-- a def's promise, by what it wants -/
def spW (pre : List SD → Own → (SD → Own → Prop) → Prop) : Sp := fun vs H Q' _ =>
  ∃ Hk O rs Q, Hold K Hk O H ∧ SDall K Hk vs rs ∧ pre rs O Q ∧ Kont K Hk Q Q'
def Xt (Hk : Hp) (P : Hp → Prop) : Prop := ∀ Hk', Same Hk Hk' → P Hk'
structure AE where
  nx : Own → List SD → Prop
  rt : SD → Own → Prop
  bk : Own → List SD → Prop := fun _ _ => False
  ct : Own → List SD → Prop := fun _ _ => False
  xt : Hp → Prop := fun _ => True
def Post (Hk : Hp) (P : Own → List SD → Prop) (P' : L2.St → Hp → Prop) : Prop := ∀ O2 ds2 Hk2 σ2 H2, Same Hk Hk2 → Pt K Hk2 O2 ds2 σ2 H2 → P O2 ds2 → P' σ2 H2
structure Lnk (Hk : Hp) (A : AE) (D : Ends) : Prop where
  nx : Post K Hk A.nx D.nx
  rt : Kont K Hk A.rt D.rt
  bk : Post K Hk A.bk D.bk
  ct : Post K Hk A.ct D.ct
  xt : Xt Hk A.xt
def StW (t : TS) (O : Own) (ds : List SD) (A : AE) : Prop := ∀ Hk σ H (D : Ends), Pt K Hk O ds σ H → Lnk K Hk A D → t D σ H
end
section
variable {K : PySem.W.Frag} {Hk Hk' H H' : Hp} {O O' : Own} {ds : List SD} {σ : L2.St} {Q : SD → Own → Prop} {Q' : VK} {r : R2} {x y : SD} {A : AE} {D : Ends}
theorem Kont.ext (k : Kont K Hk Q Q') (e : Same Hk Hk') : Kont K Hk' Q Q' := fun v r O2 Hk2 H2 e2 => k v r O2 Hk2 H2 (e.trans e2)
theorem Kont.now (k : Kont K Hk Q Q') (h : Hold K Hk O H) {v : V} {r : SD} (hv : SDok K Hk v r) (q : Q r O) : Q' v H := k v r O Hk H (Same.refl _) h hv q
theorem Post.ext {P : Own → List SD → Prop} {P' : L2.St → Hp → Prop} (k : Post K Hk P P') (e : Same Hk Hk') : Post K Hk' P P' := fun O2 ds2 Hk2 σ2 H2 e2 => k O2 ds2 Hk2 σ2 H2 (e.trans e2)
theorem Xt.ext {P : Hp → Prop} (k : Xt Hk P) (e : Same Hk Hk') : Xt Hk' P := fun Hk2 e2 => k Hk2 (e.trans e2)
theorem Lnk.ext (k : Lnk K Hk A D) (e : Same Hk Hk') : Lnk K Hk' A D := ⟨k.nx.ext e, k.rt.ext e, k.bk.ext e, k.ct.ext e, k.xt.ext e⟩

/-! ### expressions -/
theorem w_var {i : Nat} {r : SD} (h : ds[i]? = some r) (hn : r ≠ .non) (q : Q r O) : EvW K (tVar i) O ds Q := fun Hk σ H p Q' k => by
  rcases p.env i r h with e | ⟨v, hv, hs⟩
  · exact absurd e hn
  · exact ⟨v, hv, k.now p.hold hs q⟩
theorem w_vD {i : Nat} {d : PyData} (h : ds[i]? = some (.dat d)) (q : Q (.dat d) O) : EvW K (tVar i) O ds Q := w_var h (fun z => nomatch z) q
theorem w_vA {i : Nat} {a : Addr} (h : ds[i]? = some (.ad a)) (q : Q (.ad a) O) : EvW K (tVar i) O ds Q := w_var h (fun z => nomatch z) q
theorem w_vS {i : Nat} {ns : List Int} (h : ds[i]? = some (.scr ns)) (q : Q (.scr ns) O) : EvW K (tVar i) O ds Q := w_var h (fun z => nomatch z) q
theorem w_int {i : Int} (q : Q (iV i) O) : EvW K (tC (.int i)) O ds Q := fun Hk σ H p Q' k => k.now p.hold (r := iV i) (.int i) q
theorem w_bl {b : Bool} (q : Q (bV b) O) : EvW K (tC (.bl b)) O ds Q := fun Hk σ H p Q' k => k.now p.hold (r := bV b) (.bl b) q
theorem w_str {b : Str} (q : Q (.dat (.str b)) O) : EvW K (tC (.str b)) O ds Q := fun Hk σ H p Q' k => k.now p.hold (r := .dat (.str b)) (.str b) q
theorem w_none (q : Q (.dat .none) O) : EvW K (tC .non) O ds Q := fun Hk σ H p Q' k => k.now p.hold (r := .dat .none) .non q
theorem w_op {ta tb : TE} (h : EvW K ta O ds fun r1 O1 => EvW K tb O1 ds fun r2 O2 => OpW K r r1 r2 O2 Q) : EvW K (tOp r ta tb) O ds Q := fun Hk σ H p Q' k =>
  h Hk σ H p _ fun v1 r1 O1 Hk1 H1 e1 h1 s1 q1 => q1 Hk1 σ H1 (p.ext e1 h1) _ fun v2 r2 O2 Hk2 H2 e2 h2 s2 q2 =>
    q2 Hk2 H2 h2 v1 v2 (s1.mono e2) s2 Q' (k.ext (e1.trans e2))
theorem w_un {ta : TE} {r : V → Hp → VK → Prop} (h : EvW K ta O ds fun r1 O1 => UnW K r r1 O1 Q) : EvW K (tUn r ta) O ds Q := fun Hk σ H p Q' k =>
  h Hk σ H p _ fun v1 r1 O1 Hk1 H1 e1 h1 s1 q1 => q1 Hk1 H1 h1 v1 s1 Q' (k.ext e1)
theorem w_if {t : TT} {ta tb : TE} (h : TvW K t O ds fun b O1 => (b = true → EvW K ta O1 ds Q) ∧ (b = false → EvW K tb O1 ds Q)) : EvW K (tIf t ta tb) O ds Q := fun Hk σ H p Q' k =>
  h Hk σ H p _ fun b O1 Hk1 H1 e1 h1 q1 => by
    cases b with
    | true => exact q1.1 rfl Hk1 σ H1 (p.ext e1 h1) Q' (k.ext e1)
    | false => exact q1.2 rfl Hk1 σ H1 (p.ext e1 h1) Q' (k.ext e1)
theorem w_nil {Q : List SD → Own → Prop} (q : Q [] O) : AvW K tNil O ds Q := fun Hk σ H p Q' k => k [] [] O Hk H (Same.refl _) p.hold .nil q
theorem w_cons {ta : TE} {tr : TA} {Q : List SD → Own → Prop} (h : EvW K ta O ds fun r1 O1 => AvW K tr O1 ds fun rs O2 => Q (r1 :: rs) O2) : AvW K (tCons ta tr) O ds Q := fun Hk σ H p Q' k =>
  h Hk σ H p _ fun v1 r1 O1 Hk1 H1 e1 h1 s1 q1 => q1 Hk1 σ H1 (p.ext e1 h1) _ fun vs rs O2 Hk2 H2 e2 h2 s2 q2 =>
    k (v1 :: vs) (r1 :: rs) O2 Hk2 H2 (e1.trans e2) h2 (.cons (s1.mono e2) s2) q2
theorem w_cb {r : List V → Hp → VK → Prop} {ta : TA} (h : AvW K ta O ds fun rs O1 => CbW K r rs O1 Q) : EvW K (tCB r ta) O ds Q := fun Hk σ H p Q' k =>
  h Hk σ H p _ fun vs rs O1 Hk1 H1 e1 h1 s1 q1 => q1 Hk1 H1 h1 vs s1 Q' (k.ext e1)
theorem w_call {pre : List SD → Own → (SD → Own → Prop) → Prop} {E : XK} {ta : TA} (h : AvW K ta O ds fun rs O1 => pre rs O1 Q) : EvW K (tCall (spW K pre) [] E ta) O ds Q := fun Hk σ H p Q' k =>
  h Hk σ H p _ fun vs rs O1 Hk1 H1 e1 h1 s1 q1 => by
    show spW K pre (vs ++ []) H1 Q' E
    rw [List.append_nil]
    exact ⟨Hk1, O1, rs, Q, h1, s1, q1, k.ext e1⟩
/-- a tuple of data -/
theorem w_tup {ta : TA} (h : AvW K ta O ds fun rs O1 => ∃ es : List PyData, Dats rs es ∧ es.length ≤ sizeLine ∧ Q (.dat (.tuple es)) O1) : EvW K (tTup ta) O ds Q := fun Hk σ H p Q' k =>
  h Hk σ H p _ fun vs rs O1 Hk1 H1 e1 h1 s1 q1 => by
    obtain ⟨es, hda, hl, q⟩ := q1
    obtain rfl := hda.eq
    have hd := s1.dats
    refine ⟨by rw [hd.length]; exact hl, fun l hp => ?_⟩
    have sm : Same Hk1 (upd Hk1 l (.tup vs)) := same_new (h1.kn.free hp)
    exact k _ (.dat (.tuple es)) O1 (upd Hk1 l (.tup vs)) _ (e1.trans sm) (h1.know hp) (.tup upd_same (DaAll.mono sm hd)) q
/-- a list display as data -/
theorem w_lst {ta : TA} (h : AvW K ta O ds fun rs O1 => ∃ es : List PyData, Dats rs es ∧ es.length ≤ sizeLine ∧ Q (.dat (.list es)) O1) : EvW K (tLst ta) O ds Q := fun Hk σ H p Q' k =>
  h Hk σ H p _ fun vs rs O1 Hk1 H1 e1 h1 s1 q1 => by
    obtain ⟨es, hda, hl, q⟩ := q1
    obtain rfl := hda.eq
    have hd := s1.dats
    refine ⟨by rw [hd.length]; exact hl, fun l hp => ?_⟩
    have sm : Same Hk1 (upd Hk1 l (.lst vs)) := same_new (h1.kn.free hp)
    exact k _ (.dat (.list es)) O1 (upd Hk1 l (.lst vs)) _ (e1.trans sm) (h1.know hp) (.lst upd_same (DaAll.mono sm hd)) q
/-- a list display that is owned, in front -/
theorem w_lstO {ta : TA} (h : AvW K ta O ds fun rs O1 => rs.length ≤ sizeLine ∧ ∀ l, Q (.ad l) ((l, .lst rs) :: O1)) : EvW K (tLst ta) O ds Q := fun Hk σ H p Q' k =>
  h Hk σ H p _ fun vs rs O1 Hk1 H1 e1 h1 s1 q1 => by
    obtain ⟨hl, q⟩ := q1
    refine ⟨by rw [s1.length]; exact hl, fun l hp => ?_⟩
    exact k _ (.ad l) _ Hk1 _ e1 (h1.own hp s1) rfl (q l)
/-- .. behind the first -/
theorem w_lstO1 {ta : TA} (h : AvW K ta O ds fun rs O1 => rs.length ≤ sizeLine ∧ ∃ a Oa, O1 = a :: Oa ∧ ∀ l, Q (.ad l) (a :: (l, .lst rs) :: Oa)) : EvW K (tLst ta) O ds Q := fun Hk σ H p Q' k =>
  h Hk σ H p _ fun vs rs O1 Hk1 H1 e1 h1 s1 q1 => by
    obtain ⟨hl, a, Oa, rfl, q⟩ := q1
    refine ⟨by rw [s1.length]; exact hl, fun l hp => ?_⟩
    exact k _ (.ad l) _ Hk1 _ e1 ((h1.own hp s1).perm (List.Perm.swap ..)) rfl (q l)
/-! ### what is owned, put otherwise -/
theorem w_perm {t : TE} (s : O.Perm O') (h : EvW K t O' ds Q) : EvW K t O ds Q := fun Hk σ H p => h Hk σ H ⟨p.hold.perm s, p.len, p.env⟩
theorem w_drop {t : TE} (s : List.Sublist O' O) (h : EvW K t O' ds Q) : EvW K t O ds Q := fun Hk σ H p => h Hk σ H ⟨p.hold.sub s, p.len, p.env⟩
theorem s_perm {t : TS} (s : O.Perm O') (h : StW K t O' ds A) : StW K t O ds A := fun Hk σ H D p => h Hk σ H D ⟨p.hold.perm s, p.len, p.env⟩
theorem s_dropO {t : TS} (s : List.Sublist O' O) (h : StW K t O' ds A) : StW K t O ds A := fun Hk σ H D p => h Hk σ H D ⟨p.hold.sub s, p.len, p.env⟩
/-- the value may be taken as known data, if it is an owned list of data -/
theorem w_frz {t : TE} {Q : SD → Own → Prop} (h : EvW K t O ds fun r O1 => ∃ a rs es Oa, r = .ad a ∧ O1.Perm ((a, .lst rs) :: Oa) ∧ Dats rs es ∧ Q (.dat (.list es)) Oa) : EvW K t O ds Q := fun Hk σ H p Q' k =>
  h Hk σ H p _ fun v r O1 Hk1 H1 e1 h1 s1 q1 => by
    obtain ⟨a, rs, es, Oa, rfl, hp, hda, q⟩ := q1
    obtain rfl := hda.eq
    cases (show v = .ref a from s1)
    obtain ⟨Hk2, e2, h2, d2⟩ := (h1.perm hp).freeze
    exact k _ (.dat (.list es)) Oa Hk2 H1 (e1.trans e2) h2 d2 q
theorem w_mono {t : TE} {Q R : SD → Own → Prop} (h : EvW K t O ds R) (k : ∀ r O, R r O → Q r O) : EvW K t O ds Q := fun Hk σ H p Q' kk =>
  h Hk σ H p Q' fun v r O2 Hk2 H2 e h2 s q => kk v r O2 Hk2 H2 e h2 s (k r O2 q)
theorem s_ds {t : TS} {ds' : List SD} (hl : ds'.length = ds.length) (hd : ∀ (i : Nat) (r : SD), ds'[i]? = some r → r = .non ∨ ds[i]? = some r) (h : StW K t O ds' A) : StW K t O ds A := fun Hk σ H D p => h Hk σ H D (p.weak hl hd)

/-! ### tests -/
theorem t_test {te : TE} {Q : Bool → Own → Prop} (h : EvW K te O ds fun r O1 => ∃ b, r = bV b ∧ Q b O1) : TvW K (tTest te) O ds Q := fun Hk σ H p Q' k =>
  h Hk σ H p _ fun v r O1 Hk1 H1 e1 h1 s1 q1 => by
    obtain ⟨b, rfl, q⟩ := q1
    cases (show Da Hk1 v (.bool b) from s1)
    exact ⟨b, rfl, k b O1 Hk1 H1 e1 h1 q⟩
theorem t_B {te : TE} {Q : Bool → Own → Prop} (h : EvW K te O ds fun r O1 => ∃ b, r = bV b ∧ Q b O1) : TvW K (tB te) O ds Q := fun Hk σ H p Q' k =>
  h Hk σ H p _ fun v r O1 Hk1 H1 e1 h1 s1 q1 => by
    obtain ⟨b, rfl, q⟩ := q1
    cases (show Da Hk1 v (.bool b) from s1)
    exact ⟨b, rfl, k b O1 Hk1 H1 e1 h1 q⟩
theorem t_and {t u : TT} {Q : Bool → Own → Prop} (h : TvW K t O ds fun b O1 => (b = true → TvW K u O1 ds Q) ∧ (b = false → Q false O1)) : TvW K (tAnd t u) O ds Q := fun Hk σ H p Q' k =>
  h Hk σ H p _ fun b O1 Hk1 H1 e1 h1 q1 => by
    cases b with
    | true => exact iteT (q1.1 rfl Hk1 σ H1 (p.ext e1 h1) Q' fun b O2 Hk2 H2 e2 => k b O2 Hk2 H2 (e1.trans e2))
    | false => exact iteF (k false O1 Hk1 H1 e1 h1 (q1.2 rfl))
theorem t_or {t u : TT} {Q : Bool → Own → Prop} (h : TvW K t O ds fun b O1 => (b = true → Q true O1) ∧ (b = false → TvW K u O1 ds Q)) : TvW K (tOr t u) O ds Q := fun Hk σ H p Q' k =>
  h Hk σ H p _ fun b O1 Hk1 H1 e1 h1 q1 => by
    cases b with
    | true => exact iteT (k true O1 Hk1 H1 e1 h1 (q1.1 rfl))
    | false => exact iteF (q1.2 rfl Hk1 σ H1 (p.ext e1 h1) Q' fun b O2 Hk2 H2 e2 => k b O2 Hk2 H2 (e1.trans e2))
theorem t_not {t : TT} {Q : Bool → Own → Prop} (h : TvW K t O ds fun b O1 => Q (!b) O1) : TvW K (tNot t) O ds Q := fun Hk σ H p Q' k =>
  h Hk σ H p _ fun b O1 Hk1 H1 e1 h1 q1 => k (!b) O1 Hk1 H1 e1 h1 q1
theorem t_yes {Q : Bool → Own → Prop} (q : Q true O) : TvW K tYes O ds Q := fun Hk σ H p Q' k => k true O Hk H (Same.refl _) p.hold q
theorem w_andV {ta tb : TE} (h : EvW K ta O ds fun r O1 => ∃ c, r = bV c ∧ (c = true → EvW K tb O1 ds Q) ∧ (c = false → Q (bV false) O1)) : EvW K (tAndV ta tb) O ds Q := fun Hk σ H p Q' k =>
  h Hk σ H p _ fun v r O1 Hk1 H1 e1 h1 s1 q1 => by
    obtain ⟨c, rfl, qt, qf⟩ := q1
    cases (show Da Hk1 v (.bool c) from s1)
    refine ⟨c, rfl, ?_⟩
    cases c with
    | true => exact iteT (qt rfl Hk1 σ H1 (p.ext e1 h1) Q' (k.ext e1))
    | false => exact iteF (k _ (bV false) O1 Hk1 H1 e1 h1 (.bl false) (qf rfl))
theorem w_orV {ta tb : TE} (h : EvW K ta O ds fun r O1 => ∃ c, r = bV c ∧ (c = true → Q (bV true) O1) ∧ (c = false → EvW K tb O1 ds Q)) : EvW K (tOrV ta tb) O ds Q := fun Hk σ H p Q' k =>
  h Hk σ H p _ fun v r O1 Hk1 H1 e1 h1 s1 q1 => by
    obtain ⟨c, rfl, qt, qf⟩ := q1
    cases (show Da Hk1 v (.bool c) from s1)
    refine ⟨c, rfl, ?_⟩
    cases c with
    | true => exact iteT (k _ (bV true) O1 Hk1 H1 e1 h1 (.bl true) (qt rfl))
    | false => exact iteF (qf rfl Hk1 σ H1 (p.ext e1 h1) Q' (k.ext e1))
theorem w_notV {ta : TE} (h : EvW K ta O ds fun r O1 => ∃ c, r = bV c ∧ Q (bV (!c)) O1) : EvW K (tNotV ta) O ds Q := fun Hk σ H p Q' k =>
  h Hk σ H p _ fun v r O1 Hk1 H1 e1 h1 s1 q1 => by
    obtain ⟨c, rfl, q⟩ := q1
    cases (show Da Hk1 v (.bool c) from s1)
    exact ⟨c, rfl, k _ (bV (!c)) O1 Hk1 H1 e1 h1 (.bl _) q⟩
/-! ### operators by values -/
theorem o_I0 {g : Int → Int → V} {i j : Int} {d : PyData} (hd : ∀ H, Da H (g i j) d) (q : Q (.dat d) O) : OpW K (rI0 g) (iV i) (iV j) O Q := fun Hk H h u v hu hv Q' k => by
  cases (show Da Hk u (.int i) from hu)
  cases (show Da Hk v (.int j) from hv)
  exact ⟨i, j, rfl, rfl, k.now h (r := .dat d) (hd Hk) q⟩
theorem o_I {C : Int → Int → Prop} {g : Int → Int → V} {i j : Int} {d : PyData} (hc : C i j) (hd : ∀ H, Da H (g i j) d) (q : Q (.dat d) O) : OpW K (rI C g) (iV i) (iV j) O Q := fun Hk H h u v hu hv Q' k => by
  cases (show Da Hk u (.int i) from hu)
  cases (show Da Hk v (.int j) from hv)
  exact ⟨i, j, rfl, rfl, hc, k.now h (r := .dat d) (hd Hk) q⟩
theorem o_add {i j : Int} (q : Q (iV (i + j)) O) : OpW K (rI0 fun i j => .int (i + j)) (iV i) (iV j) O Q := o_I0 (fun _ => .int _) q
theorem o_sub {i j : Int} (q : Q (iV (i - j)) O) : OpW K (rI0 fun i j => .int (i - j)) (iV i) (iV j) O Q := o_I0 (fun _ => .int _) q
theorem o_mul {i j : Int} (hc : CMul i j) (q : Q (iV (i * j)) O) : OpW K (rI CMul fun i j => .int (i * j)) (iV i) (iV j) O Q := o_I hc (fun _ => .int _) q
theorem cmul_l {i j : Int} (h1 : -(2 ^ 64) < i) (h2 : i < 2 ^ 64) : CMul i j := .inl ⟨h1, h2⟩
theorem cmul_r {i j : Int} (h1 : -(2 ^ 64) < j) (h2 : j < 2 ^ 64) : CMul i j := .inr ⟨h1, h2⟩
theorem o_mod {i j : Int} (hc : 0 < j) (q : Q (iV (i % j)) O) : OpW K (rI (fun _ j => 0 < j) fun i j => .int (i % j)) (iV i) (iV j) O Q := o_I (C := fun _ j => 0 < j) hc (fun _ => .int _) q
/-- the rest as a letter -/
theorem o_modB {i j : Int} (hc : 0 < j) (q : ∀ n : Int, 0 ≤ n → n < j → n = i % j → Q (iV n) O) : OpW K (rI (fun _ j => 0 < j) fun i j => .int (i % j)) (iV i) (iV j) O Q :=
  o_mod hc (q _ (Int.emod_nonneg _ (by omega)) (Int.emod_lt_of_pos _ hc) rfl)
theorem o_fdiv {i j : Int} (hc : 0 < j ∧ j < 1073741824) (q : Q (iV (i / j)) O) : OpW K (rI CDiv fun i j => .int (i / j)) (iV i) (iV j) O Q := o_I (C := CDiv) hc (fun _ => .int _) q
theorem o_pow {i j : Int} (hc : CPow i j) (q : Q (iV (i ^ j.toNat)) O) : OpW K (rI CPow fun i j => .int (i ^ j.toNat)) (iV i) (iV j) O Q := o_I hc (fun _ => .int _) q
theorem o_lt {i j : Int} (q : Q (bV (decide (i < j))) O) : OpW K (rI0 fun i j => .bl (decide (i < j))) (iV i) (iV j) O Q := o_I0 (fun _ => .bl _) q
theorem o_pow18 (q : Q (iV 1000000000000000000) O) : OpW K (rI CPow fun i j => .int (i ^ j.toNat)) (iV 10) (iV 18) O Q := o_pow ⟨by decide, by decide, by decide⟩ q
theorem o_gt {i j : Int} (q : Q (bV (decide (j < i))) O) : OpW K (rI0 fun i j => .bl (decide (j < i))) (iV i) (iV j) O Q := o_I0 (fun _ => .bl _) q
theorem o_ge {i j : Int} (q : Q (bV (decide (j ≤ i))) O) : OpW K (rI0 fun i j => .bl (decide (j ≤ i))) (iV i) (iV j) O Q := o_I0 (fun _ => .bl _) q
theorem o_le {i j : Int} (q : Q (bV (decide (i ≤ j))) O) : OpW K (rI0 fun i j => .bl (decide (i ≤ j))) (iV i) (iV j) O Q := o_I0 (fun _ => .bl _) q
theorem u_neg {i : Int} (q : Q (iV (-i)) O) : UnW K (rU fun i => .int (-i)) (iV i) O Q := fun Hk H h u hu Q' k => by
  cases (show Da Hk u (.int i) from hu)
  exact ⟨i, rfl, k.now h (r := iV (-i)) (.int _) q⟩
theorem o_eqI {i j : Int} (q : Q (bV (decide (i = j))) O) : OpW K rEq (iV i) (iV j) O Q := fun Hk H h u v hu hv Q' k => by
  cases (show Da Hk u (.int i) from hu)
  cases (show Da Hk v (.int j) from hv)
  refine ⟨rfl, ?_⟩
  have e : decide (V.int i = V.int j) = decide (i = j) := by
    by_cases z : i = j
    · rw [decide_eq_true z, decide_eq_true (congrArg V.int z)]
    · rw [decide_eq_false z, decide_eq_false fun q => z (V.int.inj q)]
  rw [e]
  exact k.now h (r := bV _) (.bl _) q
theorem o_neI {i j : Int} (q : Q (bV (!decide (i = j))) O) : OpW K rNe (iV i) (iV j) O Q := fun Hk H h u v hu hv Q' k => by
  cases (show Da Hk u (.int i) from hu)
  cases (show Da Hk v (.int j) from hv)
  refine ⟨rfl, ?_⟩
  have e : decide (V.int i = V.int j) = decide (i = j) := by
    by_cases z : i = j
    · rw [decide_eq_true z, decide_eq_true (congrArg V.int z)]
    · rw [decide_eq_false z, decide_eq_false fun q => z (V.int.inj q)]
  rw [e]
  exact k.now h (r := bV _) (.bl _) q
theorem o_eqB {i j : Bool} (q : Q (bV (decide (i = j))) O) : OpW K rEq (bV i) (bV j) O Q := fun Hk H h u v hu hv Q' k => by
  cases (show Da Hk u (.bool i) from hu)
  cases (show Da Hk v (.bool j) from hv)
  refine ⟨rfl, ?_⟩
  have e : decide (V.bl i = V.bl j) = decide (i = j) := by
    by_cases z : i = j
    · rw [decide_eq_true z, decide_eq_true (congrArg V.bl z)]
    · rw [decide_eq_false z, decide_eq_false fun q => z (V.bl.inj q)]
  rw [e]
  exact k.now h (r := bV _) (.bl _) q
theorem o_neB {i j : Bool} (q : Q (bV (!decide (i = j))) O) : OpW K rNe (bV i) (bV j) O Q := fun Hk H h u v hu hv Q' k => by
  cases (show Da Hk u (.bool i) from hu)
  cases (show Da Hk v (.bool j) from hv)
  refine ⟨rfl, ?_⟩
  have e : decide (V.bl i = V.bl j) = decide (i = j) := by
    by_cases z : i = j
    · rw [decide_eq_true z, decide_eq_true (congrArg V.bl z)]
    · rw [decide_eq_false z, decide_eq_false fun q => z (V.bl.inj q)]
  rw [e]
  exact k.now h (r := bV _) (.bl _) q
theorem o_isB {i j : Bool} (q : Q (bV (decide (i = j))) O) : OpW K rIsB (bV i) (bV j) O Q := fun Hk H h u v hu hv Q' k => by
  cases (show Da Hk u (.bool i) from hu)
  cases (show Da Hk v (.bool j) from hv)
  exact ⟨i, j, rfl, rfl, k.now h (r := bV _) (.bl _) q⟩
theorem o_notB {i j : Bool} (q : Q (bV (!decide (i = j))) O) : OpW K rNotB (bV i) (bV j) O Q := fun Hk H h u v hu hv Q' k => by
  cases (show Da Hk u (.bool i) from hu)
  cases (show Da Hk v (.bool j) from hv)
  exact ⟨i, j, rfl, rfl, k.now h (r := bV _) (.bl _) q⟩
/-- == and != of data -/
theorem o_eqD {d e : PyData} (h1 : SeqAt.shaped d = true) (h2 : SeqAt.shaped e = true) (q : Q (bV (PyData.eqv d e)) O) : OpW K (rEqD K) (.dat d) (.dat e) O Q := fun Hk H h u v hu hv Q' k =>
  ⟨d, e, (Da.mono h.kn hu).dp, (Da.mono h.kn hv).dp, h1, h2, k.now h (r := bV _) (.bl _) q⟩
theorem o_neD {d e : PyData} (h1 : SeqAt.shaped d = true) (h2 : SeqAt.shaped e = true) (q : Q (bV (!PyData.eqv d e)) O) : OpW K (rNeD K) (.dat d) (.dat e) O Q := fun Hk H h u v hu hv Q' k =>
  ⟨d, e, (Da.mono h.kn hu).dp, (Da.mono h.kn hv).dp, h1, h2, k.now h (r := bV _) (.bl _) q⟩
/-- an item of a tuple, of a list of data, of an owned list -/
theorem atI_get {α : Type} {xs : List α} {i : Int} {v : α} (h : atI xs i = some v) : ∃ j : Nat, ixN xs.length i = some j ∧ xs[j]? = some v := by
  unfold atI at h
  cases e : ixN xs.length i with
  | none => rw [e] at h; cases h
  | some j => rw [e] at h; exact ⟨j, rfl, h⟩
theorem atI_of {α : Type} {xs : List α} {i : Int} {v : α} {j : Nat} (h1 : ixN xs.length i = some j) (h2 : xs[j]? = some v) : atI xs i = some v := by
  unfold atI
  rw [h1]
  exact h2
theorem o_ixT {es : List PyData} {i : Int} {d : PyData} (ha : atI es i = some d) (q : Q (.dat d) O) : OpW K (rIxT K) (.dat (.tuple es)) (iV i) O Q := fun Hk H h u v hu hv Q' k => by
  cases (show Da Hk v (.int i) from hv)
  cases (show Da Hk u (.tuple es) from hu) with
  | tup h1 h2 =>
    obtain ⟨j, e1, e2⟩ := atI_get ha
    obtain ⟨w, g1, g2⟩ := h2.get e2
    exact ⟨_, _, i, w, rfl, rfl, .inl (.inl (h.kn _ _ h1)), atI_of (by rw [h2.length]; exact e1) g1, k.now h (r := .dat d) g2 q⟩
theorem o_ixL {es : List PyData} {i : Int} {d : PyData} (ha : atI es i = some d) (q : Q (.dat d) O) : OpW K (rIxL K) (.dat (.list es)) (iV i) O Q := fun Hk H h u v hu hv Q' k => by
  cases (show Da Hk v (.int i) from hv)
  cases (show Da Hk u (.list es) from hu) with
  | lst h1 h2 =>
    obtain ⟨j, e1, e2⟩ := atI_get ha
    obtain ⟨w, g1, g2⟩ := h2.get e2
    exact ⟨_, _, i, w, rfl, rfl, .inl (.inl (h.kn _ _ h1)), atI_of (by rw [h2.length]; exact e1) g1, k.now h (r := .dat d) g2 q⟩
theorem atI_in {α : Type} {xs : List α} {i : Int} (h0 : 0 ≤ i) (h1 : i < xs.length) : ∃ v, atI xs i = some v ∧ xs[i.toNat]? = some v ∧ v ∈ xs := by
  obtain ⟨j, rfl⟩ : ∃ j : Nat, i = (j : Int) := ⟨i.toNat, by omega⟩
  have hj : j < xs.length := by omega
  refine ⟨xs[j], atI_nat (List.getElem?_eq_getElem hj), ?_, List.getElem_mem hj⟩
  rw [Int.toNat_natCast]
  exact List.getElem?_eq_getElem hj
/-- an item at a place that is not known -/
theorem o_pickL {es : List PyData} {i : Int} (h0 : 0 ≤ i) (h1 : i < es.length) (q : ∀ d, d ∈ es → Q (.dat d) O) : OpW K (rIxL K) (.dat (.list es)) (iV i) O Q := by
  obtain ⟨d, h, _, hm⟩ := atI_in h0 h1
  exact o_ixL h (q d hm)
theorem o_pickT {es : List PyData} {i : Int} (h0 : 0 ≤ i) (h1 : i < es.length) (q : ∀ d, d ∈ es → Q (.dat d) O) : OpW K (rIxT K) (.dat (.tuple es)) (iV i) O Q := by
  obtain ⟨d, h, _, hm⟩ := atI_in h0 h1
  exact o_ixT h (q d hm)
/-- an item of ints -/
theorem o_nthL {ns : List Int} {i : Int} (h0 : 0 ≤ i) (h1 : i < ns.length) (q : Q (iV (ns.getD i.toNat 0)) O) : OpW K (rIxL K) (.dat (lI ns)) (iV i) O Q := by
  obtain ⟨d, h, e, hm⟩ := atI_in (xs := ns.map PyData.int) h0 (by rw [List.length_map]; exact h1)
  rw [List.getElem?_map] at e
  refine o_ixL h ?_
  cases z : ns[i.toNat]? with
  | none => rw [z] at e; cases e
  | some n =>
    rw [z] at e
    cases e
    rw [List.getD_eq_getElem?_getD, z] at q
    exact q
theorem o_nthT {ns : List Int} {i : Int} (h0 : 0 ≤ i) (h1 : i < ns.length) (q : Q (iV (ns.getD i.toNat 0)) O) : OpW K (rIxT K) (.dat (tI ns)) (iV i) O Q := by
  obtain ⟨d, h, e, hm⟩ := atI_in (xs := ns.map PyData.int) h0 (by rw [List.length_map]; exact h1)
  rw [List.getElem?_map] at e
  refine o_ixT h ?_
  cases z : ns[i.toNat]? with
  | none => rw [z] at e; cases e
  | some n =>
    rw [z] at e
    cases e
    rw [List.getD_eq_getElem?_getD, z] at q
    exact q
theorem o_pickI {ns : List Int} {i : Int} (h0 : 0 ≤ i) (h1 : i < ns.length) (q : ∀ v, v ∈ ns → Q (iV v) O) : OpW K (rIxL K) (.dat (lI ns)) (iV i) O Q :=
  o_pickL h0 (by rw [List.length_map]; exact h1) fun d hd => by
    obtain ⟨v, hv, rfl⟩ := List.mem_map.mp hd
    exact q v hv
theorem o_pickIT {ns : List Int} {i : Int} (h0 : 0 ≤ i) (h1 : i < ns.length) (q : ∀ v, v ∈ ns → Q (iV v) O) : OpW K (rIxT K) (.dat (tI ns)) (iV i) O Q :=
  o_pickT h0 (by rw [List.length_map]; exact h1) fun d hd => by
    obtain ⟨v, hv, rfl⟩ := List.mem_map.mp hd
    exact q v hv
theorem o_ixO {a : Addr} {rs : List SD} {i : Int} {d : SD} (hm : (a, OD.lst rs) ∈ O) (ha : atI rs i = some d) (q : Q d O) : OpW K (rIxL K) (.ad a) (iV i) O Q := fun Hk H h u v hu hv Q' k => by
  cases (show Da Hk v (.int i) from hv)
  cases (show u = .ref a from hu)
  obtain ⟨⟨vs, h1, h2⟩, _⟩ := h.ow _ hm
  obtain ⟨j, e1, e2⟩ := atI_get ha
  obtain ⟨w, g1, g2⟩ := h2.get e2
  exact ⟨a, vs, i, w, rfl, rfl, .inl (.inl h1), atI_of (by rw [h2.length]; exact e1) g1, k.now h g2 q⟩
end
end Wk
namespace Wk
open PySem PySem.Spec PyProof.Rows L2
section
variable {K : PySem.W.Frag} {Hk Hk' H H' : Hp} {O O' : Own} {ds : List SD} {σ : L2.St} {Q : SD → Own → Prop} {Q' : VK} {r : R2} {x y : SD} {A : AE} {D : Ends}
theorem w_ty {n : String} (q : Q (.ty n) O) : EvW K (tC (.ty n)) O ds Q := fun Hk σ H p Q' k => k.now p.hold (r := .ty n) rfl q
theorem w_ref {a : Addr} (q : Q (.ad a) O) : EvW K (tC (.ref a)) O ds Q := fun Hk σ H p Q' k => k.now p.hold (r := .ad a) rfl q
/-! ### built-ins by values -/
theorem all1 {H : Hp} {us : List V} {a : SD} (h : SDall K H us [a]) : ∃ u, us = [u] ∧ SDok K H u a := by
  cases h with
  | cons h r => cases r; exact ⟨_, rfl, h⟩
theorem all2 {H : Hp} {us : List V} {a b : SD} (h : SDall K H us [a, b]) : ∃ u v, us = [u, v] ∧ SDok K H u a ∧ SDok K H v b := by
  cases h with
  | cons h r => obtain ⟨v, rfl, hv⟩ := all1 r; exact ⟨_, v, rfl, h, hv⟩
theorem c_lenT {es : List PyData} (q : Q (iV es.length) O) : CbW K (fun xs H Q => ∃ p ys, xs = [.ref p] ∧ (SqL K H p ys ∨ SqT K H p ys) ∧ Q (.int ys.length) H) [.dat (.tuple es)] O Q := fun Hk H h us hus Q' k => by
  obtain ⟨u, rfl, hu⟩ := all1 hus
  cases (show Da Hk u (.tuple es) from hu) with
  | @tup a xs _ h1 h2 =>
    refine ⟨_, _, rfl, .inr (.inl (.inl (h.kn _ _ h1))), ?_⟩
    rw [h2.length]
    exact k.now h (r := iV _) (.int _) q
theorem c_lenL {es : List PyData} (q : Q (iV es.length) O) : CbW K (fun xs H Q => ∃ p ys, xs = [.ref p] ∧ (SqL K H p ys ∨ SqT K H p ys) ∧ Q (.int ys.length) H) [.dat (.list es)] O Q := fun Hk H h us hus Q' k => by
  obtain ⟨u, rfl, hu⟩ := all1 hus
  cases (show Da Hk u (.list es) from hu) with
  | @lst a xs _ h1 h2 =>
    refine ⟨_, _, rfl, .inl (.inl (.inl (h.kn _ _ h1))), ?_⟩
    rw [h2.length]
    exact k.now h (r := iV _) (.int _) q
theorem c_lenO {a : Addr} {rs : List SD} (hm : (a, OD.lst rs) ∈ O) (q : Q (iV rs.length) O) : CbW K (fun xs H Q => ∃ p ys, xs = [.ref p] ∧ (SqL K H p ys ∨ SqT K H p ys) ∧ Q (.int ys.length) H) [.ad a] O Q := fun Hk H h us hus Q' k => by
  obtain ⟨u, rfl, hu⟩ := all1 hus
  cases (show u = .ref a from hu)
  obtain ⟨⟨vs, h1, h2⟩, _⟩ := h.ow _ hm
  refine ⟨_, _, rfl, .inl (.inl (.inl h1)), ?_⟩
  rw [h2.length]
  exact k.now h (r := iV _) (.int _) q
theorem c_lenS {ns : List Int} (q : Q (iV ns.length) O) : CbW K (fun xs H Q => ∃ p ys, xs = [.ref p] ∧ (SqL K H p ys ∨ SqT K H p ys) ∧ Q (.int ys.length) H) [.scr ns] O Q := fun Hk H h us hus Q' k => by
  obtain ⟨u, rfl, hu⟩ := all1 hus
  obtain ⟨a, rfl, hs⟩ := hu
  refine ⟨_, _, rfl, .inl (h.kn.seq hs), ?_⟩
  rw [List.length_map]
  exact k.now h (r := iV _) (.int _) q
theorem c_max2 {i j : Int} (q : Q (iV (max i j)) O) : CbW K (fun xs H Q => ∃ i j, xs = [.int i, .int j] ∧ Q (.int (if j > i then j else i)) H) [iV i, iV j] O Q := fun Hk H h us hus Q' k => by
  obtain ⟨u, v, rfl, hu, hv⟩ := all2 hus
  cases (show Da Hk u (.int i) from hu)
  cases (show Da Hk v (.int j) from hv)
  refine ⟨i, j, rfl, ?_⟩
  rw [show (if j > i then j else i) = max i j by split <;> omega]
  exact k.now h (r := iV _) (.int _) q
theorem c_min2 {i j : Int} (q : Q (iV (min i j)) O) : CbW K (fun xs H Q => ∃ i j, xs = [.int i, .int j] ∧ Q (.int (if j < i then j else i)) H) [iV i, iV j] O Q := fun Hk H h us hus Q' k => by
  obtain ⟨u, v, rfl, hu, hv⟩ := all2 hus
  cases (show Da Hk u (.int i) from hu)
  cases (show Da Hk v (.int j) from hv)
  refine ⟨i, j, rfl, ?_⟩
  rw [show (if j < i then j else i) = min i j by split <;> omega]
  exact k.now h (r := iV _) (.int _) q
theorem c_int {i : Int} (q : Q (iV i) O) : CbW K (fun xs H Q => (∃ i, xs = [.int i] ∧ Q (.int i) H) ∨ ∃ k, xs = [.bl k] ∧ Q (.int (if k then 1 else 0)) H) [iV i] O Q := fun Hk H h us hus Q' k => by
  obtain ⟨u, rfl, hu⟩ := all1 hus
  cases (show Da Hk u (.int i) from hu)
  exact .inl ⟨i, rfl, k.now h (r := iV _) (.int _) q⟩
theorem c_intB {i : Bool} (q : Q (iV (if i then 1 else 0)) O) : CbW K (fun xs H Q => (∃ i, xs = [.int i] ∧ Q (.int i) H) ∨ ∃ k, xs = [.bl k] ∧ Q (.int (if k then 1 else 0)) H) [bV i] O Q := fun Hk H h us hus Q' k => by
  obtain ⟨u, rfl, hu⟩ := all1 hus
  cases (show Da Hk u (.bool i) from hu)
  exact .inr ⟨i, rfl, k.now h (r := iV _) (.int _) q⟩
theorem c_sum {ns : List Int} (q : Q (iV ns.sum) O) : CbW K (rSum K) [.dat (lI ns)] O Q := fun Hk H h us hus Q' k => by
  obtain ⟨u, rfl, hu⟩ := all1 hus
  cases (show Da Hk u (lI ns) from hu) with
  | @lst a xs _ h1 h2 =>
    rw [h2.ints] at h1
    exact ⟨_, ns, rfl, .inl (.inl (h.kn _ _ h1)), k.now h (r := iV _) (.int _) q⟩
theorem c_max {ns : List Int} (hn : 0 < ns.length) (q : ∀ m, m ∈ ns → (∀ y ∈ ns, y ≤ m) → Q (iV m) O) : CbW K (rMax K) [.dat (lI ns)] O Q := fun Hk H h us hus Q' k => by
  obtain ⟨u, rfl, hu⟩ := all1 hus
  cases (show Da Hk u (lI ns) from hu) with
  | @lst a xs _ h1 h2 =>
    rw [h2.ints] at h1
    exact ⟨_, ns, rfl, .inl (.inl (h.kn _ _ h1)), hn, fun m hm hl => k.now h (r := iV _) (.int _) (q m hm hl)⟩
/-- sorted, the list that comes is data; ordered ascending -/
theorem c_sorted {ns : List Int} (q : ∀ ms : List Int, ms.Perm ns → ms.Pairwise (· ≤ ·) → Q (.dat (lI ms)) O) : CbW K (rSortedI K) [.dat (lI ns)] O Q := fun Hk H h us hus Q' k => by
  obtain ⟨u, rfl, hu⟩ := all1 hus
  cases (show Da Hk u (lI ns) from hu) with
  | @lst a xs _ h1 h2 =>
    rw [h2.ints] at h1
    refine ⟨_, ns, rfl, .inl (.inl (h.kn _ _ h1)), fun ms p hp hs hf => ?_⟩
    have sm : Same Hk (upd Hk p (.lst (ms.map V.int))) := same_new (h.kn.free hf)
    exact k _ (.dat (lI ms)) O _ _ sm (h.know hf) (.lst upd_same (DaAll.of_ints ms)) (q ms hp hs)
/-- tuple(list), tuple(tuple), list(tuple), list(list): as data -/
theorem c_tupL {es : List PyData} (q : Q (.dat (.tuple es)) O) : CbW K (fun xs H Q => ∃ p ys, xs = [.ref p] ∧ ((SqL K H p ys ∧ ∀ l, H l = none → Q (.ref l) (upd H l (.tup ys))) ∨ (SqT K H p ys ∧ Q (.ref p) H))) [.dat (.list es)] O Q := fun Hk H h us hus Q' k => by
  obtain ⟨u, rfl, hu⟩ := all1 hus
  cases (show Da Hk u (.list es) from hu) with
  | @lst a xs _ h1 h2 =>
    refine ⟨_, _, rfl, .inl ⟨.inl (.inl (h.kn _ _ h1)), fun l hf => ?_⟩⟩
    have sm := same_new (o := .tup xs) (h.kn.free hf)
    exact k _ (.dat (.tuple es)) O _ _ sm (h.know hf) (.tup upd_same (DaAll.mono sm h2)) q
theorem c_tupT {es : List PyData} (q : Q (.dat (.tuple es)) O) : CbW K (fun xs H Q => ∃ p ys, xs = [.ref p] ∧ ((SqL K H p ys ∧ ∀ l, H l = none → Q (.ref l) (upd H l (.tup ys))) ∨ (SqT K H p ys ∧ Q (.ref p) H))) [.dat (.tuple es)] O Q := fun Hk H h us hus Q' k => by
  obtain ⟨u, rfl, hu⟩ := all1 hus
  have hu' := hu
  cases (show Da Hk u (.tuple es) from hu) with
  | @tup a xs _ h1 h2 => exact ⟨_, _, rfl, .inr ⟨.inl (.inl (h.kn _ _ h1)), k.now h (r := .dat (.tuple es)) hu' q⟩⟩
theorem c_listT {es : List PyData} (q : Q (.dat (.list es)) O) : CbW K (fun xs H Q => ∃ p ys, xs = [.ref p] ∧ (SqL K H p ys ∨ SqT K H p ys) ∧ ∀ l, H l = none → Q (.ref l) (upd H l (.lst ys))) [.dat (.tuple es)] O Q := fun Hk H h us hus Q' k => by
  obtain ⟨u, rfl, hu⟩ := all1 hus
  cases (show Da Hk u (.tuple es) from hu) with
  | @tup a xs _ h1 h2 =>
    refine ⟨_, _, rfl, .inr (.inl (.inl (h.kn _ _ h1))), fun l hf => ?_⟩
    have sm := same_new (o := .lst xs) (h.kn.free hf)
    exact k _ (.dat (.list es)) O _ _ sm (h.know hf) (.lst upd_same (DaAll.mono sm h2)) q
theorem c_listL {es : List PyData} (q : Q (.dat (.list es)) O) : CbW K (fun xs H Q => ∃ p ys, xs = [.ref p] ∧ (SqL K H p ys ∨ SqT K H p ys) ∧ ∀ l, H l = none → Q (.ref l) (upd H l (.lst ys))) [.dat (.list es)] O Q := fun Hk H h us hus Q' k => by
  obtain ⟨u, rfl, hu⟩ := all1 hus
  cases (show Da Hk u (.list es) from hu) with
  | @lst a xs _ h1 h2 =>
    refine ⟨_, _, rfl, .inl (.inl (.inl (h.kn _ _ h1))), fun l hf => ?_⟩
    have sm := same_new (o := .lst xs) (h.kn.free hf)
    exact k _ (.dat (.list es)) O _ _ sm (h.know hf) (.lst upd_same (DaAll.mono sm h2)) q
/-- .. as a list that is owned -/
theorem c_listTO {es : List PyData} (q : ∀ l, Q (.ad l) ((l, .lst (es.map .dat)) :: O)) : CbW K (fun xs H Q => ∃ p ys, xs = [.ref p] ∧ (SqL K H p ys ∨ SqT K H p ys) ∧ ∀ l, H l = none → Q (.ref l) (upd H l (.lst ys))) [.dat (.tuple es)] O Q := fun Hk H h us hus Q' k => by
  obtain ⟨u, rfl, hu⟩ := all1 hus
  cases (show Da Hk u (.tuple es) from hu) with
  | @tup a xs _ h1 h2 => exact ⟨_, _, rfl, .inr (.inl (.inl (h.kn _ _ h1))), fun l hf => k _ (.ad l) _ Hk _ (Same.refl _) (h.own hf (SDall.of_dats h2)) rfl (q l)⟩
theorem c_listLO {es : List PyData} (q : ∀ l, Q (.ad l) ((l, .lst (es.map .dat)) :: O)) : CbW K (fun xs H Q => ∃ p ys, xs = [.ref p] ∧ (SqL K H p ys ∨ SqT K H p ys) ∧ ∀ l, H l = none → Q (.ref l) (upd H l (.lst ys))) [.dat (.list es)] O Q := fun Hk H h us hus Q' k => by
  obtain ⟨u, rfl, hu⟩ := all1 hus
  cases (show Da Hk u (.list es) from hu) with
  | @lst a xs _ h1 h2 => exact ⟨_, _, rfl, .inl (.inl (.inl (h.kn _ _ h1))), fun l hf => k _ (.ad l) _ Hk _ (Same.refl _) (h.own hf (SDall.of_dats h2)) rfl (q l)⟩
/-- the type of data -/
def tyD : PyData → String
  | .none => "NoneType" | .bool _ => "bool" | .int _ => "int" | .str _ => "str" | .list _ => "list" | .tuple _ => "tuple" | .dict _ => "dict"
theorem tyX_of {v : V} {d : PyData} (h : Da H v d) : TyX K H v (.type (tyD d)) := by
  cases h with
  | non => exact .base .non
  | bl b => exact .base (.bl b)
  | int b => exact .base (.int b)
  | str b => exact .base (.str b)
  | lst h1 _ => exact .base (.lst h1)
  | tup h1 _ => exact .base (.tup h1)
theorem c_isi {d : PyData} {n : String} {b : Bool} (hb : kitB (tyD d) n = some b) (q : Q (bV b) O) : CbW K (rIsi K) [.dat d, .ty n] O Q := fun Hk H h us hus Q' k => by
  obtain ⟨u, v, rfl, hu, hv⟩ := all2 hus
  cases (show v = .ty n from hv)
  exact ⟨u, .ty n, _, _, b, rfl, .ty n, tyX_of (Da.mono h.kn hu), kit_ty hb, k.now h (r := bV _) (.bl _) q⟩
theorem c_isiO {a : Addr} {rs : List SD} {n : String} {b : Bool} (hm : (a, OD.lst rs) ∈ O) (hb : kitB "list" n = some b) (q : Q (bV b) O) : CbW K (rIsi K) [.ad a, .ty n] O Q := fun Hk H h us hus Q' k => by
  obtain ⟨u, v, rfl, hu, hv⟩ := all2 hus
  cases (show v = .ty n from hv)
  cases (show u = .ref a from hu)
  obtain ⟨⟨vs, h1, h2⟩, _⟩ := h.ow _ hm
  exact ⟨_, .ty n, _, _, b, rfl, .ty n, .base (.lst h1), kit_ty hb, k.now h (r := bV _) (.bl _) q⟩
/-! ### reversal, slices, sums of sequences -/
theorem w_rev {te : TE} (h : EvW K te O ds fun r O1 => ∃ es : List PyData, r = .dat (.list es) ∧ Q (.dat (.list es.reverse)) O1) : EvW K (tRevL K te) O ds Q := fun Hk σ H p Q' k =>
  h Hk σ H p _ fun v r O1 Hk1 H1 e1 h1 s1 q1 => by
    obtain ⟨es, rfl, q⟩ := q1
    cases (show Da Hk1 v (.list es) from s1) with
    | @lst a xs _ g1 g2 =>
      refine ⟨_, _, rfl, .inl (.inl (h1.kn _ _ g1)), fun l hf => ?_⟩
      have sm := same_new (o := .lst xs.reverse) (h1.kn.free hf)
      exact k _ (.dat (.list es.reverse)) O1 _ _ (e1.trans sm) (h1.know hf) (.lst upd_same (DaAll.mono sm g2.reverse)) q
def cut {α : Type} (xs : List α) (lo hi : Option Int) : List α := (xs.drop (HT.sIx xs.length 0 lo)).take (HT.sIx xs.length xs.length hi - HT.sIx xs.length 0 lo)
theorem DaAll.cut {vs : List V} {es : List PyData} (h : DaAll H vs es) (lo hi : Option Int) : DaAll H (cutV vs lo hi) (cut es lo hi) := by
  unfold cutV Wk.cut
  rw [h.length]
  exact (h.drop _).take _
theorem w_sl {r : V → Option Int → Option Int → Hp → VK → Prop} {te : TE} {tl th : TO} (h : EvW K te O ds fun x O1 => IvW K tl O1 ds fun lo O2 => IvW K th O2 ds fun hi O3 => SlW K r x lo hi O3 Q) : EvW K (tSl r te tl th) O ds Q := fun Hk σ H p Q' k =>
  h Hk σ H p _ fun v x O1 Hk1 H1 e1 h1 s1 q1 => q1 Hk1 σ H1 (p.ext e1 h1) _ fun lo O2 Hk2 H2 e2 h2 q2 => q2 Hk2 σ H2 ((p.ext e1 h1).ext e2 h2) _ fun hi O3 Hk3 H3 e3 h3 q3 =>
    q3 Hk3 H3 h3 v (s1.mono (e2.trans e3)) Q' (k.ext (e1.trans (e2.trans e3)))
theorem i_none {Q : Option Int → Own → Prop} (q : Q none O) : IvW K tNoPart O ds Q := fun Hk σ H p Q' k => k none O Hk H (Same.refl _) p.hold q
theorem i_some {te : TE} {Q : Option Int → Own → Prop} (h : EvW K te O ds fun r O1 => ∃ i, r = iV i ∧ Q (some i) O1) : IvW K (tPart te) O ds Q := fun Hk σ H p Q' k =>
  h Hk σ H p _ fun v r O1 Hk1 H1 e1 h1 s1 q1 => by
    obtain ⟨i, rfl, q⟩ := q1
    cases (show Da Hk1 v (.int i) from s1)
    exact ⟨i, rfl, k (some i) O1 Hk1 H1 e1 h1 q⟩
theorem sl_L {es : List PyData} {lo hi : Option Int} (q : Q (.dat (.list (cut es lo hi))) O) : SlW K (rSlL K) (.dat (.list es)) lo hi O Q := fun Hk H h u hu Q' k => by
  cases (show Da Hk u (.list es) from hu) with
  | @lst a xs _ h1 h2 =>
    refine ⟨_, _, rfl, .inl (.inl (h.kn _ _ h1)), fun l hf => ?_⟩
    have sm := same_new (o := .lst (cutV xs lo hi)) (h.kn.free hf)
    exact k _ (.dat (.list (cut es lo hi))) O _ _ sm (h.know hf) (.lst upd_same (DaAll.mono sm (h2.cut lo hi))) q
theorem cut_whole {α : Type} {xs : List α} {lo hi : Option Int} (h : HT.sIx xs.length 0 lo = 0 ∧ HT.sIx xs.length xs.length hi = xs.length) : cut xs lo hi = xs := by
  unfold cut
  rw [h.1, h.2]
  simp
theorem sl_T {es : List PyData} {lo hi : Option Int} (q : Q (.dat (.tuple (cut es lo hi))) O) : SlW K (rSlA K) (.dat (.tuple es)) lo hi O Q := fun Hk H h u hu Q' k => by
  have hu' := hu
  cases (show Da Hk u (.tuple es) from hu) with
  | @tup a xs _ h1 h2 =>
    refine ⟨_, _, rfl, .inl (.inl (h.kn _ _ h1)), fun hw => ?_, fun hw l hf => ?_⟩
    · rw [h2.length] at hw
      rw [cut_whole hw] at q
      exact k.now h (r := .dat (.tuple es)) hu' q
    · have sm := same_new (o := .tup (cutV xs lo hi)) (h.kn.free hf)
      exact k _ (.dat (.tuple (cut es lo hi))) O _ _ sm (h.know hf) (.tup upd_same (DaAll.mono sm (h2.cut lo hi))) q
theorem o_catT {es fs : List PyData} (hz : es.length + fs.length ≤ sizeLine) (q : Q (.dat (.tuple (es ++ fs))) O) : OpW K (rCatA K) (.dat (.tuple es)) (.dat (.tuple fs)) O Q := fun Hk H h u v hu hv Q' k => by
  have hu' := hu
  have hv' := hv
  cases (show Da Hk u (.tuple es) from hu) with
  | @tup a xs _ h1 h2 =>
    cases (show Da Hk v (.tuple fs) from hv) with
    | @tup b ys _ g1 g2 =>
      refine ⟨a, b, xs, ys, rfl, rfl, .inl (.inl (h.kn _ _ h1)), .inl (.inl (h.kn _ _ g1)), by rw [h2.length, g2.length]; exact hz, fun e => ?_, fun _ e => ?_, fun _ _ l hf => ?_⟩
      · subst e
        have e2 : es = [] := by cases h2; rfl
        subst e2
        exact k.now h (r := .dat (.tuple _)) hv' q
      · subst e
        have e2 : fs = [] := by cases g2; rfl
        subst e2
        rw [List.append_nil] at q
        exact k.now h (r := .dat (.tuple _)) hu' q
      · have sm := same_new (o := .tup (xs ++ ys)) (h.kn.free hf)
        exact k _ (.dat (.tuple (es ++ fs))) O _ _ sm (h.know hf) (.tup upd_same (DaAll.mono sm (h2.append g2))) q
theorem o_catL {es fs : List PyData} (hz : es.length + fs.length ≤ sizeLine) (q : Q (.dat (.list (es ++ fs))) O) : OpW K rCat (.dat (.list es)) (.dat (.list fs)) O Q := fun Hk H h u v hu hv Q' k => by
  cases (show Da Hk u (.list es) from hu) with
  | @lst a xs _ h1 h2 =>
    cases (show Da Hk v (.list fs) from hv) with
    | @lst b ys _ g1 g2 =>
      refine ⟨a, b, xs, ys, rfl, rfl, h.kn _ _ h1, h.kn _ _ g1, by rw [h2.length, g2.length]; exact hz, fun l hf => ?_⟩
      have sm := same_new (o := .lst (xs ++ ys)) (h.kn.free hf)
      exact k _ (.dat (.list (es ++ fs))) O _ _ sm (h.know hf) (.lst upd_same (DaAll.mono sm (h2.append g2))) q
theorem DaAll.rep {vs : List V} {es : List PyData} (h : DaAll H vs es) : ∀ n : Nat, DaAll H (List.replicate n vs).flatten (List.replicate n es).flatten
  | 0 => .nil
  | n + 1 => by
    rw [List.replicate_succ, List.replicate_succ, List.flatten_cons, List.flatten_cons]
    exact h.append (DaAll.rep h n)
/-! ### methods: append -/
def TyW (K : PySem.W.Frag) (T : String) (x : SD) (O : Own) : Prop := ∀ Hk H, Hold K Hk O H → ∀ u, SDok K Hk u x → tyV K T u H
theorem w_bm {T : String} {r : V → List V → Hp → VK → Prop} {to : TE} {ta : TA} (h : EvW K to O ds fun x O1 => TyW K T x O1 ∧ AvW K ta O1 ds fun rs O2 => MbW K r x rs O2 Q) : EvW K (tBM K T r to ta) O ds Q := fun Hk σ H p Q' k =>
  h Hk σ H p _ fun v x O1 Hk1 H1 e1 h1 s1 q1 => ⟨q1.1 Hk1 H1 h1 v s1, q1.2 Hk1 σ H1 (p.ext e1 h1) _ fun vs rs O2 Hk2 H2 e2 h2 s2 q2 => q2 Hk2 H2 h2 v vs (s1.mono e2) s2 Q' (k.ext (e1.trans e2))⟩
theorem ty_own {a : Addr} {rs : List SD} (hm : (a, OD.lst rs) ∈ O) : TyW K "list" (.ad a) O := fun Hk H h u hu => by
  cases (show u = .ref a from hu)
  obtain ⟨⟨vs, h1, h2⟩, _⟩ := h.ow _ hm
  exact .inl ⟨rfl, vs, .inl (.inl h1)⟩
theorem m_app {a : Addr} {rs : List SD} {x : SD} {Oa : Own} (hp : O.Perm ((a, OD.lst rs) :: Oa)) (hz : rs.length < sizeLine) (q : Q (.dat .none) ((a, .lst (rs ++ [x])) :: Oa)) : MbW K rAppend (.ad a) [x] O Q := fun Hk H h u us hu hus Q' k => by
  cases (show u = .ref a from hu)
  obtain ⟨v, rfl, hv⟩ := all1 hus
  have h' := h.perm hp
  obtain ⟨⟨vs, h1, h2⟩, _⟩ := h'.ow _ List.mem_cons_self
  refine ⟨a, vs, v, rfl, rfl, h1, by rw [h2.length]; exact hz, ?_⟩
  exact k _ (.dat .none) _ Hk _ (Same.refl _) (h'.write (h2.append (.cons hv .nil))) .non q
theorem m_app0 {a : Addr} {rs : List SD} {x : SD} {Oa : Own} (hz : rs.length ≤ 100000) (q : Q (.dat .none) ((a, .lst (rs ++ [x])) :: Oa)) : MbW K rAppend (.ad a) [x] ((a, OD.lst rs) :: Oa) Q := m_app (.refl _) (Nat.lt_of_le_of_lt hz (by decide)) q
theorem mb_perm {r : V → List V → Hp → VK → Prop} {xs : List SD} (h : MbW K r x xs O fun r O1 => ∃ O2, O1.Perm O2 ∧ Q r O2) : MbW K r x xs O Q := fun Hk H hh u us hu hus Q' k =>
  h Hk H hh u us hu hus Q' fun v r O2 Hk2 H2 e h2 s q => by
    obtain ⟨O3, hp, q⟩ := q
    exact k v r O3 Hk2 H2 e (h2.perm hp) s q
theorem m_app1 {a : Addr} {rs : List SD} {x : SD} {b : Addr × OD} {Oa : Own} (hz : rs.length ≤ 100000) (q : Q (.dat .none) (b :: (a, .lst (rs ++ [x])) :: Oa)) : MbW K rAppend (.ad a) [x] (b :: (a, OD.lst rs) :: Oa) Q :=
  mb_perm (m_app (.swap ..) (Nat.lt_of_le_of_lt hz (by decide)) ⟨_, .swap .., q⟩)
theorem m_app2 {a : Addr} {rs : List SD} {x : SD} {b c : Addr × OD} {Oa : Own} (hz : rs.length ≤ 100000) (q : Q (.dat .none) (b :: c :: (a, .lst (rs ++ [x])) :: Oa)) : MbW K rAppend (.ad a) [x] (b :: c :: (a, OD.lst rs) :: Oa) Q :=
  mb_perm (m_app ((List.Perm.swap (a, OD.lst rs) c Oa).cons b |>.trans (.swap ..)) (Nat.lt_of_le_of_lt hz (by decide)) ⟨_, (List.Perm.swap b (a, OD.lst (rs ++ [x])) (c :: Oa)).trans ((List.Perm.swap c (a, OD.lst (rs ++ [x])) Oa).cons b), q⟩)
end
end Wk
namespace Wk
open PySem PySem.Spec PyProof.Rows L2
section
variable {K : PySem.W.Frag} {Hk Hk' H H' : Hp} {O O' : Own} {ds : List SD} {σ : L2.St} {Q : SD → Own → Prop} {Q' : VK} {r : R2} {x y : SD} {A : AE} {D : Ends} {t u : TS} {te : TE} {tc : TT}
/-! ### statements -/
theorem s_next (h : A.nx O ds) : StW K tNext O ds A := fun Hk σ H D p l => l.nx O ds Hk σ H (Same.refl _) p h
theorem s_cont (h : A.ct O ds) : StW K tCont O ds A := fun Hk σ H D p l => l.ct O ds Hk σ H (Same.refl _) p h
theorem s_break (h : A.bk O ds) : StW K tBreak O ds A := fun Hk σ H D p l => l.bk O ds Hk σ H (Same.refl _) p h
theorem s_seq (h : StW K t O ds ⟨fun O1 ds1 => StW K u O1 ds1 A, A.rt, A.bk, A.ct, A.xt⟩) : StW K (tSeq t u) O ds A := fun Hk σ H D p l =>
  h Hk σ H _ p ⟨fun O2 ds2 Hk2 σ2 H2 e p2 q => q Hk2 σ2 H2 D p2 (l.ext e), l.rt, l.bk, l.ct, l.xt⟩
theorem s_asg {i : Nat} (h : EvW K te O ds fun r O1 => A.nx O1 (ds.set i r)) : StW K (tAsg te (gName i)) O ds A := fun Hk σ H D p l =>
  h Hk σ H p _ fun v r O1 Hk1 H1 e1 h1 s1 q1 => l.nx O1 _ Hk1 _ H1 e1 ((p.ext e1 h1).set s1) q1
theorem s_ret (h : EvW K te O ds A.rt) : StW K (tRet te) O ds A := fun Hk σ H D p l => h Hk σ H p _ l.rt
theorem s_retN (h : A.rt (.dat .none) O) : StW K tRetN O ds A := fun Hk σ H D p l => l.rt.now p.hold (r := .dat .none) .non h
theorem s_drop (h : EvW K te O ds fun _ O1 => A.nx O1 ds) : StW K (tDrop te) O ds A := fun Hk σ H D p l =>
  h Hk σ H p _ fun v r O1 Hk1 H1 e1 h1 s1 q1 => l.nx O1 ds Hk1 σ H1 e1 (p.ext e1 h1) q1
theorem s_if (h : TvW K tc O ds fun b O1 => (b = true → StW K t O1 ds A) ∧ (b = false → StW K u O1 ds A)) : StW K (tIfS tc t u) O ds A := fun Hk σ H D p l =>
  h Hk σ H p _ fun b O1 Hk1 H1 e1 h1 q1 => by
    cases b with
    | true => exact iteT (q1.1 rfl Hk1 σ H1 D (p.ext e1 h1) (l.ext e1))
    | false => exact iteF (q1.2 rfl Hk1 σ H1 D (p.ext e1 h1) (l.ext e1))
abbrev Own.P (O O' : Own) : Prop := O.Perm O'
/-- xs[i] = e, the list owned -/
theorem s_setL {to ti : TE} (h : EvW K te O ds fun r O1 => EvW K to O1 ds fun ro O2 => EvW K ti O2 ds fun ri O3 =>
    ∃ a k rs j Oa O4, ro = .ad a ∧ ri = iV k ∧ O3.Perm ((a, .lst rs) :: Oa) ∧ ixN rs.length k = some j ∧ Own.P ((a, .lst (rs.set j r)) :: Oa) O4 ∧ A.nx O4 ds) : StW K (tAsg te (gSub to ti rSetL)) O ds A := fun Hk σ H D p l =>
  h Hk σ H p _ fun v r O1 Hk1 H1 e1 h1 s1 q1 => q1 Hk1 σ H1 (p.ext e1 h1) _ fun vo ro O2 Hk2 H2 e2 h2 s2 q2 => q2 Hk2 σ H2 ((p.ext e1 h1).ext e2 h2) _ fun vi ri O3 Hk3 H3 e3 h3 s3 q3 => by
    obtain ⟨a, k, rs, j, Oa, O4, rfl, rfl, hp, hj, hp2, q⟩ := q3
    cases (show vo = .ref a from s2)
    cases (show Da Hk3 vi (.int k) from s3)
    have h' := h3.perm hp
    obtain ⟨⟨vs, g1, g2⟩, _⟩ := h'.ow _ List.mem_cons_self
    refine ⟨a, vs, k, j, rfl, rfl, g1, by rw [g2.length]; exact hj, ?_⟩
    exact l.nx _ ds Hk3 σ _ (e1.trans (e2.trans e3)) (p.ext (e1.trans (e2.trans e3)) ((h'.write (g2.set (s1.mono (e2.trans e3)) j)).perm hp2)) q
/-! ### what follows may be proved from a weaker word -/
theorem s_cut {t u : TS} (I : Own → List SD → Prop) (h : StW K t O ds ⟨I, A.rt, A.bk, A.ct, A.xt⟩) (k : ∀ O1 ds1, I O1 ds1 → StW K u O1 ds1 A) : StW K (tSeq t u) O ds A := s_seq fun Hk σ H D p l =>
  h Hk σ H D p ⟨fun O2 ds2 Hk2 σ2 H2 e p2 q => l.nx O2 ds2 Hk2 σ2 H2 e p2 (k O2 ds2 q), l.rt, l.bk, l.ct, l.xt⟩
theorem s_mono {t : TS} {A B : AE} (h : StW K t O ds B) (nx : ∀ O ds, B.nx O ds → A.nx O ds) (rt : ∀ r O, B.rt r O → A.rt r O) (bk : ∀ O ds, B.bk O ds → A.bk O ds) (ct : ∀ O ds, B.ct O ds → A.ct O ds) (xt : ∀ Hk, A.xt Hk → B.xt Hk := by first | exact fun _ h => h | exact fun _ _ => True.intro) : StW K t O ds A := fun Hk σ H D p l =>
  h Hk σ H D p ⟨fun O2 ds2 Hk2 σ2 H2 e p2 q => l.nx O2 ds2 Hk2 σ2 H2 e p2 (nx _ _ q), fun v r O2 Hk2 H2 e h s q => l.rt v r O2 Hk2 H2 e h s (rt _ _ q), fun O2 ds2 Hk2 σ2 H2 e p2 q => l.bk O2 ds2 Hk2 σ2 H2 e p2 (bk _ _ q), fun O2 ds2 Hk2 σ2 H2 e p2 q => l.ct O2 ds2 Hk2 σ2 H2 e p2 (ct _ _ q), fun Hk' e' => xt _ (l.xt Hk' e')⟩
/-! ### for -/
/-- what a turn of a loop may end in -/
structure Bdy (I : Nat → Own → List SD → Prop) (i : Nat) (A B : AE) : Prop where
  nx : ∀ O ds, I (i + 1) O ds → B.nx O ds
  ct : ∀ O ds, I (i + 1) O ds → B.ct O ds
  rt : ∀ r O, A.rt r O → B.rt r O
  bk : ∀ O ds, A.nx O ds → B.bk O ds
  xt : ∀ Hk, B.xt Hk → A.xt Hk
theorem Bdy.mk' {I : Nat → Own → List SD → Prop} {i : Nat} {A : AE} : Bdy I i A ⟨I (i + 1), A.rt, A.nx, I (i + 1), A.xt⟩ := ⟨fun _ _ h => h, fun _ _ h => h, fun _ _ h => h, fun _ _ h => h, fun _ h => h⟩
theorem for_rg {lo : Int} {n : Nat} {j : Nat} {tb : TS} {H0 : Hp} (I : Nat → Own → List SD → Prop) (p : Pt K Hk O ds σ H) (l : Lnk K Hk A D) (h0 : I 0 O ds)
    (hs : ∀ (i : Nat) O2 ds2, i < n → I i O2 ds2 → StW K tb O2 (ds2.set j (iV (lo + i))) ⟨I (i + 1), A.rt, A.nx, I (i + 1), A.xt⟩) (hd : ∀ O2 ds2, I n O2 ds2 → A.nx O2 ds2) :
    ∃ W : Nat → Nat → L2.St → Hp → Prop, (∃ m, W 0 m σ H) ∧ ∀ i m σ H, W i m σ H →
      ((Itr lo n).stop i H ∧ D.nx σ H) ∨ ((Itr lo n).go i H ∧ ∃ N : L2.St → Hp → Prop, (∀ σ' H', N σ' H' → ∃ m', m' < m ∧ W (i + 1) m' σ' H') ∧ ∀ x H', (Itr lo n).yld i H x H' → gName j x σ H' fun σ2 H2 => tb { D with nx := N, ct := N, bk := D.nx } σ2 H2) :=
  for_range (fun i σ H => ∃ O2 ds2 Hk2, Same Hk Hk2 ∧ Pt K Hk2 O2 ds2 σ H ∧ I i O2 ds2) ⟨O, ds, Hk, Same.refl _, p, h0⟩
    (fun i σ' H' hi ⟨O2, ds2, Hk2, e, p2, q⟩ => hs i O2 ds2 hi q Hk2 _ H' _ (p2.set (r := iV (lo + i)) (.int _))
      ⟨fun O3 ds3 Hk3 σ3 H3 e3 p3 q3 => ⟨O3, ds3, Hk3, e.trans e3, p3, q3⟩, l.rt.ext e, l.nx.ext e, fun O3 ds3 Hk3 σ3 H3 e3 p3 q3 => ⟨O3, ds3, Hk3, e.trans e3, p3, q3⟩, l.xt.ext e⟩)
    (fun σ' H' ⟨O2, ds2, Hk2, e, p2, q⟩ => l.nx O2 ds2 Hk2 σ' H' e p2 (hd O2 ds2 q))
theorem s_for1 {ta : TA} {j : Nat} {tb : TS} (h : AvW K ta O ds fun rs O1 => ∃ n : Int, rs = [iV n] ∧ n < 2 ^ 62 ∧ -(2 ^ 62) ≤ n ∧ ∃ I : Nat → Own → List SD → Prop, I 0 O1 ds ∧
    (∀ (i : Nat) O2 ds2, (i : Int) < n → I i O2 ds2 → ∀ B : AE, Bdy I i A B → StW K tb O2 (ds2.set j (iV (i : Int))) B) ∧ ∀ O2 ds2, I n.toNat O2 ds2 → A.nx O2 ds2) : StW K (tFor (iRng1 ta) (gName j) tb) O ds A := fun Hk σ H D p l =>
  h Hk σ H p _ fun vs rs O1 Hk1 H1 e1 h1 s1 q1 => by
    obtain ⟨n, rfl, hn, hn2, I, h0, hs, hd⟩ := q1
    obtain ⟨v, rfl, hv⟩ := all1 s1
    cases (show Da Hk1 v (.int n) from hv)
    refine ⟨n, rfl, hn2, hn, for_rg (H0 := H) (A := A) I (p.ext e1 h1) (l.ext e1) h0 (fun i O2 ds2 hi q => ?_) hd⟩
    rw [Int.zero_add]
    exact hs i O2 ds2 (by omega) q _ .mk'
theorem s_for2 {ta : TA} {j : Nat} {tb : TS} (h : AvW K ta O ds fun rs O1 => ∃ lo n : Int, rs = [iV lo, iV n] ∧ (-(2 ^ 62) ≤ lo ∧ lo < 2 ^ 62 ∧ -(2 ^ 62) ≤ n ∧ n < 2 ^ 62) ∧ ∃ I : Nat → Own → List SD → Prop, I 0 O1 ds ∧
    (∀ (i : Nat) O2 ds2, lo + (i : Int) < n → I i O2 ds2 → ∀ B : AE, Bdy I i A B → StW K tb O2 (ds2.set j (iV (lo + (i : Int)))) B) ∧ ∀ O2 ds2, I (n - lo).toNat O2 ds2 → A.nx O2 ds2) : StW K (tFor (iRng2 ta) (gName j) tb) O ds A := fun Hk σ H D p l =>
  h Hk σ H p _ fun vs rs O1 Hk1 H1 e1 h1 s1 q1 => by
    obtain ⟨lo, n, rfl, hn, I, h0, hs, hd⟩ := q1
    obtain ⟨v, v2, rfl, hv, hv2⟩ := all2 s1
    cases (show Da Hk1 v (.int lo) from hv)
    cases (show Da Hk1 v2 (.int n) from hv2)
    exact ⟨lo, n, rfl, hn, for_rg (H0 := H) (A := A) I (p.ext e1 h1) (l.ext e1) h0 (fun i O2 ds2 hi q => hs i O2 ds2 (by omega) q _ .mk') hd⟩
/-- over data: a list -/
theorem s_forL {tl : TE} {j : Nat} {tb : TS} (h : EvW K tl O ds fun r O1 => ∃ es : List PyData, r = .dat (.list es) ∧ ∃ I : Nat → Own → List SD → Prop, I 0 O1 ds ∧
    (∀ (i : Nat) d O2 ds2, es[i]? = some d → I i O2 ds2 → ∀ B : AE, Bdy I i A B → StW K tb O2 (ds2.set j (.dat d)) B) ∧ ∀ O2 ds2, I es.length O2 ds2 → A.nx O2 ds2) : StW K (tFor (iList K tl) (gName j) tb) O ds A := fun Hk σ H D p l =>
  h Hk σ H p _ fun v r O1 Hk1 H1 e1 h1 s1 q1 => by
    obtain ⟨es, rfl, I, h0, hs, hd⟩ := q1
    cases (show Da Hk1 v (.list es) from s1) with
    | @lst a xs _ g1 g2 =>
      refine ⟨a, rfl, ⟨xs, .inl (.inl (h1.kn _ _ g1))⟩, for_list (xs := xs) (fun i σ H => ∃ O2 ds2 Hk2, Same Hk1 Hk2 ∧ Pt K Hk2 O2 ds2 σ H ∧ I i O2 ds2) ⟨O1, ds, Hk1, Same.refl _, p.ext e1 h1, h0⟩
        (fun i σ' H' hi ⟨O2, ds2, Hk2, e, p2, q⟩ => .inl (.inl (p2.hold.kn _ _ (e _ _ g1)))) (fun i x σ' H' hi ⟨O2, ds2, Hk2, e, p2, q⟩ => ?_) (fun σ' H' ⟨O2, ds2, Hk2, e, p2, q⟩ => ?_)⟩
      · obtain ⟨d, hd1, hd2⟩ := g2.getV hi
        exact hs i d O2 ds2 hd1 q _ .mk' Hk2 _ H' _ (p2.set (r := .dat d) (Da.mono e hd2)) ⟨fun O3 ds3 Hk3 σ3 H3 e3 p3 q3 => ⟨O3, ds3, Hk3, e.trans e3, p3, q3⟩, l.rt.ext (e1.trans e), l.nx.ext (e1.trans e), fun O3 ds3 Hk3 σ3 H3 e3 p3 q3 => ⟨O3, ds3, Hk3, e.trans e3, p3, q3⟩, l.xt.ext (e1.trans e)⟩
      · rw [g2.length] at q
        exact l.nx O2 ds2 Hk2 σ' H' (e1.trans e) p2 (hd O2 ds2 q)
theorem s_forT {tl : TE} {j : Nat} {tb : TS} (h : EvW K tl O ds fun r O1 => ∃ es : List PyData, r = .dat (.tuple es) ∧ ∃ I : Nat → Own → List SD → Prop, I 0 O1 ds ∧
    (∀ (i : Nat) d O2 ds2, es[i]? = some d → I i O2 ds2 → ∀ B : AE, Bdy I i A B → StW K tb O2 (ds2.set j (.dat d)) B) ∧ ∀ O2 ds2, I es.length O2 ds2 → A.nx O2 ds2) : StW K (tFor (iTup K tl) (gName j) tb) O ds A := fun Hk σ H D p l =>
  h Hk σ H p _ fun v r O1 Hk1 H1 e1 h1 s1 q1 => by
    obtain ⟨es, rfl, I, h0, hs, hd⟩ := q1
    cases (show Da Hk1 v (.tuple es) from s1) with
    | @tup a xs _ g1 g2 =>
      refine ⟨a, rfl, ⟨xs, .inl (.inl (h1.kn _ _ g1))⟩, for_tup (xs := xs) (fun i σ H => ∃ O2 ds2 Hk2, Same Hk1 Hk2 ∧ Pt K Hk2 O2 ds2 σ H ∧ I i O2 ds2) ⟨O1, ds, Hk1, Same.refl _, p.ext e1 h1, h0⟩
        (fun i σ' H' hi ⟨O2, ds2, Hk2, e, p2, q⟩ => .inl (.inl (p2.hold.kn _ _ (e _ _ g1)))) (fun i x σ' H' hi ⟨O2, ds2, Hk2, e, p2, q⟩ => ?_) (fun σ' H' ⟨O2, ds2, Hk2, e, p2, q⟩ => ?_)⟩
      · obtain ⟨d, hd1, hd2⟩ := g2.getV hi
        exact hs i d O2 ds2 hd1 q _ .mk' Hk2 _ H' _ (p2.set (r := .dat d) (Da.mono e hd2)) ⟨fun O3 ds3 Hk3 σ3 H3 e3 p3 q3 => ⟨O3, ds3, Hk3, e.trans e3, p3, q3⟩, l.rt.ext (e1.trans e), l.nx.ext (e1.trans e), fun O3 ds3 Hk3 σ3 H3 e3 p3 q3 => ⟨O3, ds3, Hk3, e.trans e3, p3, q3⟩, l.xt.ext (e1.trans e)⟩
      · rw [g2.length] at q
        exact l.nx O2 ds2 Hk2 σ' H' (e1.trans e) p2 (hd O2 ds2 q)
/-- over the script -/
theorem s_forS {tl : TE} {j : Nat} {tb : TS} (h : EvW K tl O ds fun r O1 => ∃ ns : List Int, r = .scr ns ∧ ∃ I : Nat → Own → List SD → Prop, I 0 O1 ds ∧
    (∀ (i : Nat) d O2 ds2, ns[i]? = some d → I i O2 ds2 → ∀ B : AE, Bdy I i A B → StW K tb O2 (ds2.set j (iV d)) B) ∧ ∀ O2 ds2, I ns.length O2 ds2 → A.nx O2 ds2) : StW K (tFor (iList K tl) (gName j) tb) O ds A := fun Hk σ H D p l =>
  h Hk σ H p _ fun v r O1 Hk1 H1 e1 h1 s1 q1 => by
    obtain ⟨ns, rfl, I, h0, hs, hd⟩ := q1
    obtain ⟨a, rfl, g1⟩ := s1
    refine ⟨a, rfl, ⟨ns.map V.int, h1.kn.seq g1⟩, for_list (xs := ns.map V.int) (fun i σ H => ∃ O2 ds2 Hk2, Same Hk1 Hk2 ∧ Pt K Hk2 O2 ds2 σ H ∧ I i O2 ds2) ⟨O1, ds, Hk1, Same.refl _, p.ext e1 h1, h0⟩
      (fun i σ' H' hi ⟨O2, ds2, Hk2, e, p2, q⟩ => p2.hold.kn.seq (e.seq g1)) (fun i x σ' H' hi ⟨O2, ds2, Hk2, e, p2, q⟩ => ?_) (fun σ' H' ⟨O2, ds2, Hk2, e, p2, q⟩ => ?_)⟩
    · rw [List.getElem?_map] at hi
      cases hn : ns[i]? with
      | none => rw [hn] at hi; cases hi
      | some d =>
        rw [hn] at hi
        cases hi
        exact hs i d O2 ds2 hn q _ .mk' Hk2 _ H' _ (p2.set (r := iV d) (.int d)) ⟨fun O3 ds3 Hk3 σ3 H3 e3 p3 q3 => ⟨O3, ds3, Hk3, e.trans e3, p3, q3⟩, l.rt.ext (e1.trans e), l.nx.ext (e1.trans e), fun O3 ds3 Hk3 σ3 H3 e3 p3 q3 => ⟨O3, ds3, Hk3, e.trans e3, p3, q3⟩, l.xt.ext (e1.trans e)⟩
    · rw [List.length_map] at q
      exact l.nx O2 ds2 Hk2 σ' H' (e1.trans e) p2 (hd O2 ds2 q)
/-! ### comprehensions: one variable, slot j -/
theorem wipe_wipe {σ : L2.St} {j : Nat} (v : V) : wipe ((wipe σ [j]).set j (some v)) [j] = wipe σ [j] := by
  show ((σ.set j none).set j (some v)).set j none = σ.set j none
  rw [List.set_set, List.set_set]
theorem wipe_set {σ : L2.St} {j : Nat} (v : V) : (wipe σ [j]).set j (some v) = σ.set j (some v) := by
  show (σ.set j none).set j (some v) = σ.set j (some v)
  rw [List.set_set]
/-- one turn: the new list at Dl is the first of what is owned -/
def LcTurn (K : PySem.W.Frag) (tt : TT) (te : TE) (O2 : Own) (ds : List SD) (acc : List SD) (I' : List SD → Own → Prop) : Prop :=
  ∀ Dl : Addr, TvW K tt ((Dl, OD.lst acc) :: O2) ds fun b O3 => (b = true → EvW K te O3 ds fun r O4 => ∃ O5, O4.Perm ((Dl, OD.lst acc) :: O5) ∧ I' (acc ++ [r]) O5) ∧ (b = false → ∃ O5, O3.Perm ((Dl, OD.lst acc) :: O5) ∧ I' acc O5)
/-- .. the second -/
def LcTurn1 (K : PySem.W.Frag) (tt : TT) (te : TE) (a : Addr × OD) (O2 : Own) (ds : List SD) (acc : List SD) (I' : List SD → Own → Prop) : Prop :=
  ∀ Dl : Addr, TvW K tt (a :: (Dl, OD.lst acc) :: O2) ds fun b O3 => (b = true → EvW K te O3 ds fun r O4 => ∃ a' O5, O4 = a' :: (Dl, OD.lst acc) :: O5 ∧ I' (acc ++ [r]) (a' :: O5)) ∧ (b = false → ∃ a' O5, O3 = a' :: (Dl, OD.lst acc) :: O5 ∧ I' acc (a' :: O5))
theorem LcTurn1.to {tt : TT} {te : TE} {a : Addr × OD} {O2 : Own} {ds acc : List SD} {I' : List SD → Own → Prop} (h : LcTurn1 K tt te a O2 ds acc I') : LcTurn K tt te (a :: O2) ds acc I' := fun Dl Hk σ H p Q' k =>
  h Dl Hk σ H ⟨p.hold.perm (.swap ..), p.len, p.env⟩ Q' fun b O3 Hk3 H3 e3 h3 q3 => k b O3 Hk3 H3 e3 h3 ⟨fun hb => w_mono (q3.1 hb) fun r O4 ⟨a', O5, e4, q4⟩ => ⟨a' :: O5, by rw [e4]; exact .swap .., q4⟩, fun hb => by
    obtain ⟨a', O5, e4, q4⟩ := q3.2 hb
    exact ⟨a' :: O5, by rw [e4]; exact .swap .., q4⟩⟩
theorem lc_turn {tt : TT} {te : TE} {O2 : Own} {acc : List SD} {I' : List SD → Own → Prop} {Dl : Addr} {j : Nat} {v : V} {d : SD} {P' : Hp → Prop} (h : LcTurn K tt te O2 (ds.set j d) acc I') (hl : acc.length < sizeLine)
    (p : Pt K Hk O' ds σ H') (hh : Hold K Hk ((Dl, OD.lst acc) :: O2) H) (hv : SDok K Hk v d) (k : ∀ acc2 O3 Hk2 H2, Same Hk Hk2 → Hold K Hk2 ((Dl, OD.lst acc2) :: O3) H2 → I' acc2 O3 → P' H2) :
    gName j v (wipe σ [j]) H fun σ2 H2 => wipe σ2 [j] = wipe σ [j] ∧ tt σ2 H2 fun b H3 =>
      if b = true then te σ2 H3 fun y H4 => ∃ acc, H4 Dl = some (.lst acc) ∧ acc.length < sizeLine ∧ P' (upd H4 Dl (.lst (acc ++ [y]))) else P' H3 := by
  refine ⟨wipe_wipe v, ?_⟩
  rw [wipe_set]
  have p1 : Pt K Hk ((Dl, OD.lst acc) :: O2) (ds.set j d) (σ.set j (some v)) H := (p.ext (Same.refl _) hh).set hv
  refine h Dl Hk _ H p1 _ fun b O3 Hk3 H3 e3 h3 q3 => ?_
  cases b with
  | true =>
    refine iteT (q3.1 rfl Hk3 _ H3 (p1.ext e3 h3) _ fun y r O4 Hk4 H4 e4 h4 s4 q4 => ?_)
    obtain ⟨O5, hp, q5⟩ := q4
    have h5 := h4.perm hp
    obtain ⟨⟨vs, g1, g2⟩, _⟩ := h5.ow _ List.mem_cons_self
    exact ⟨vs, g1, by rw [g2.length]; exact hl, k _ O5 Hk4 _ (e3.trans e4) (h5.write (g2.append (.cons s4 .nil))) q5⟩
  | false =>
    obtain ⟨O5, hp, q5⟩ := q3.2 rfl
    exact iteF (k _ O5 Hk3 _ e3 (h3.perm hp) q5)
theorem w_lc1 {ta : TA} {j : Nat} {tt : TT} (h : AvW K ta O ds fun rs O1 => ∃ n : Int, rs = [iV n] ∧ n ≤ 1000000 ∧ -(2 ^ 62) ≤ n ∧ ∃ I : Nat → List SD → Own → Prop, I 0 [] O1 ∧
    (∀ (i : Nat) acc O2, (i : Int) < n → acc.length ≤ i → I i acc O2 → LcTurn K tt te O2 (ds.set j (iV (i : Int))) acc (I (i + 1))) ∧ ∀ acc O2 Dl, I n.toNat acc O2 → Q (.ad Dl) ((Dl, .lst acc) :: O2)) : EvW K (tLc (iRng1 ta) (gName j) tt te [j]) O ds Q := fun Hk σ H p Q' k =>
  h Hk σ H p _ fun vs rs O1 Hk1 H1 e1 h1 s1 q1 => by
    obtain ⟨n, rfl, hn, hn2, I, h0, hs, hd⟩ := q1
    obtain ⟨v, rfl, hv⟩ := all1 s1
    cases (show Da Hk1 v (.int n) from hv)
    refine ⟨n, rfl, by omega, by omega, fun Dl hf => lc_range (lo := 0) (n := n.toNat) (fun i H => ∃ acc O2 Hk2, Same Hk1 Hk2 ∧ acc.length ≤ i ∧ Hold K Hk2 ((Dl, OD.lst acc) :: O2) H ∧ I i acc O2)
      ⟨[], O1, Hk1, Same.refl _, Nat.le_refl _, h1.own hf .nil, h0⟩ (fun i H2 hi hP => ?_) (fun H2 hP => ?_)⟩
    · obtain ⟨acc, O2, Hk2, e2, hl, hh, q⟩ := hP
      have hz : acc.length < sizeLine := Nat.lt_of_lt_of_le (show acc.length < 1000001 by omega) (by decide)
      have ht := hs i acc O2 (by omega) hl q
      rw [← Int.zero_add (i : Int)] at ht
      refine lc_turn (d := iV (0 + (i : Int))) (P' := fun H => ∃ acc2 O3 Hk2, Same Hk1 Hk2 ∧ acc2.length ≤ i + 1 ∧ Hold K Hk2 ((Dl, OD.lst acc2) :: O3) H ∧ I (i + 1) acc2 O3) (I' := fun acc2 O3 => acc2.length ≤ i + 1 ∧ I (i + 1) acc2 O3) ?_ hz ((p.ext e1 h1).ext e2 (hh.sub (List.sublist_cons_self ..))) hh (.int _) fun acc2 O3 Hk3 H3 e3 h3 q3 => ⟨acc2, O3, Hk3, e2.trans e3, q3.1, h3, q3.2⟩
      intro Dl2 Hk3 σ3 H3 p3 Q3 k3
      refine ht Dl2 Hk3 σ3 H3 p3 Q3 fun b O3 Hk4 H4 e4 h4 q4 => k3 b O3 Hk4 H4 e4 h4 ⟨fun hb => w_mono (q4.1 hb) fun r O4 ⟨O5, hp, q5⟩ => ⟨O5, hp, by rw [List.length_append]; simp; omega, q5⟩, fun hb => ?_⟩
      obtain ⟨O5, hp, q5⟩ := q4.2 hb
      exact ⟨O5, hp, by omega, q5⟩
    · obtain ⟨acc, O2, Hk2, e2, hl, hh, q⟩ := hP
      exact k _ (.ad Dl) _ Hk2 H2 (e1.trans e2) hh rfl (hd acc O2 Dl q)
theorem w_lcL {tl : TE} {j : Nat} {tt : TT} (h : EvW K tl O ds fun r O1 => ∃ es : List PyData, r = .dat (.list es) ∧ es.length ≤ 1000000 ∧ ∃ I : Nat → List SD → Own → Prop, I 0 [] O1 ∧
    (∀ (i : Nat) d acc O2, es[i]? = some d → acc.length ≤ i → I i acc O2 → LcTurn K tt te O2 (ds.set j (.dat d)) acc (I (i + 1))) ∧ ∀ acc O2 Dl, I es.length acc O2 → Q (.ad Dl) ((Dl, .lst acc) :: O2)) : EvW K (tLc (iList K tl) (gName j) tt te [j]) O ds Q := fun Hk σ H p Q' k =>
  h Hk σ H p _ fun v rs O1 Hk1 H1 e1 h1 s1 q1 => by
    obtain ⟨es, rfl, hn, I, h0, hs, hd⟩ := q1
    cases (show Da Hk1 v (.list es) from s1) with
    | @lst a xs _ g1 g2 =>
    refine ⟨a, rfl, ⟨xs, .inl (.inl (h1.kn _ _ g1))⟩, fun Dl hf => lc_list (xs := xs) (fun i H => ∃ acc O2 Hk2, Same Hk1 Hk2 ∧ acc.length ≤ i ∧ Hold K Hk2 ((Dl, OD.lst acc) :: O2) H ∧ I i acc O2)
      ⟨[], O1, Hk1, Same.refl _, Nat.le_refl _, h1.own hf .nil, h0⟩ (fun i H2 _ ⟨acc, O2, Hk2, e2, hl, hh, q⟩ => .inl (.inl (hh.kn _ _ (e2 _ _ g1)))) (fun i x H2 hi hP => ?_) (fun H2 hP => ?_)⟩
    · obtain ⟨acc, O2, Hk2, e2, hl, hh, q⟩ := hP
      obtain ⟨d, hd1, hd2⟩ := g2.getV hi
      have hlt := (List.getElem?_eq_some_iff.mp hd1).1
      have hz : acc.length < sizeLine := Nat.lt_of_lt_of_le (show acc.length < 1000001 by omega) (by decide)
      have ht := hs i d acc O2 hd1 hl q
      refine lc_turn (d := .dat d) (P' := fun H => ∃ acc2 O3 Hk2, Same Hk1 Hk2 ∧ acc2.length ≤ i + 1 ∧ Hold K Hk2 ((Dl, OD.lst acc2) :: O3) H ∧ I (i + 1) acc2 O3) (I' := fun acc2 O3 => acc2.length ≤ i + 1 ∧ I (i + 1) acc2 O3) ?_ hz ((p.ext e1 h1).ext e2 (hh.sub (List.sublist_cons_self ..))) hh (Da.mono e2 hd2) fun acc2 O3 Hk3 H3 e3 h3 q3 => ⟨acc2, O3, Hk3, e2.trans e3, q3.1, h3, q3.2⟩
      intro Dl2 Hk3 σ3 H3 p3 Q3 k3
      refine ht Dl2 Hk3 σ3 H3 p3 Q3 fun b O3 Hk4 H4 e4 h4 q4 => k3 b O3 Hk4 H4 e4 h4 ⟨fun hb => w_mono (q4.1 hb) fun r O4 ⟨O5, hp, q5⟩ => ⟨O5, hp, by rw [List.length_append]; simp; omega, q5⟩, fun hb => ?_⟩
      obtain ⟨O5, hp, q5⟩ := q4.2 hb
      exact ⟨O5, hp, by omega, q5⟩
    · obtain ⟨acc, O2, Hk2, e2, hl, hh, q⟩ := hP
      rw [g2.length] at q
      exact k _ (.ad Dl) _ Hk2 H2 (e1.trans e2) hh rfl (hd acc O2 Dl q)
theorem w_lcT {tl : TE} {j : Nat} {tt : TT} (h : EvW K tl O ds fun r O1 => ∃ es : List PyData, r = .dat (.tuple es) ∧ es.length ≤ 1000000 ∧ ∃ I : Nat → List SD → Own → Prop, I 0 [] O1 ∧
    (∀ (i : Nat) d acc O2, es[i]? = some d → acc.length ≤ i → I i acc O2 → LcTurn K tt te O2 (ds.set j (.dat d)) acc (I (i + 1))) ∧ ∀ acc O2 Dl, I es.length acc O2 → Q (.ad Dl) ((Dl, .lst acc) :: O2)) : EvW K (tLc (iTup K tl) (gName j) tt te [j]) O ds Q := fun Hk σ H p Q' k =>
  h Hk σ H p _ fun v rs O1 Hk1 H1 e1 h1 s1 q1 => by
    obtain ⟨es, rfl, hn, I, h0, hs, hd⟩ := q1
    cases (show Da Hk1 v (.tuple es) from s1) with
    | @tup a xs _ g1 g2 =>
    refine ⟨a, rfl, ⟨xs, .inl (.inl (h1.kn _ _ g1))⟩, fun Dl hf => lc_tup (xs := xs) (fun i H => ∃ acc O2 Hk2, Same Hk1 Hk2 ∧ acc.length ≤ i ∧ Hold K Hk2 ((Dl, OD.lst acc) :: O2) H ∧ I i acc O2)
      ⟨[], O1, Hk1, Same.refl _, Nat.le_refl _, h1.own hf .nil, h0⟩ (fun i H2 _ ⟨acc, O2, Hk2, e2, hl, hh, q⟩ => .inl (.inl (hh.kn _ _ (e2 _ _ g1)))) (fun i x H2 hi hP => ?_) (fun H2 hP => ?_)⟩
    · obtain ⟨acc, O2, Hk2, e2, hl, hh, q⟩ := hP
      obtain ⟨d, hd1, hd2⟩ := g2.getV hi
      have hlt := (List.getElem?_eq_some_iff.mp hd1).1
      have hz : acc.length < sizeLine := Nat.lt_of_lt_of_le (show acc.length < 1000001 by omega) (by decide)
      have ht := hs i d acc O2 hd1 hl q
      refine lc_turn (d := .dat d) (P' := fun H => ∃ acc2 O3 Hk2, Same Hk1 Hk2 ∧ acc2.length ≤ i + 1 ∧ Hold K Hk2 ((Dl, OD.lst acc2) :: O3) H ∧ I (i + 1) acc2 O3) (I' := fun acc2 O3 => acc2.length ≤ i + 1 ∧ I (i + 1) acc2 O3) ?_ hz ((p.ext e1 h1).ext e2 (hh.sub (List.sublist_cons_self ..))) hh (Da.mono e2 hd2) fun acc2 O3 Hk3 H3 e3 h3 q3 => ⟨acc2, O3, Hk3, e2.trans e3, q3.1, h3, q3.2⟩
      intro Dl2 Hk3 σ3 H3 p3 Q3 k3
      refine ht Dl2 Hk3 σ3 H3 p3 Q3 fun b O3 Hk4 H4 e4 h4 q4 => k3 b O3 Hk4 H4 e4 h4 ⟨fun hb => w_mono (q4.1 hb) fun r O4 ⟨O5, hp, q5⟩ => ⟨O5, hp, by rw [List.length_append]; simp; omega, q5⟩, fun hb => ?_⟩
      obtain ⟨O5, hp, q5⟩ := q4.2 hb
      exact ⟨O5, hp, by omega, q5⟩
    · obtain ⟨acc, O2, Hk2, e2, hl, hh, q⟩ := hP
      rw [g2.length] at q
      exact k _ (.ad Dl) _ Hk2 H2 (e1.trans e2) hh rfl (hd acc O2 Dl q)
end
/-! ### a def -/
section
variable {P : Program} {w : World} {K : PySem.W.Frag} {mg : Str → Option Value} {base : Heap}
theorem start_pt {Hk H : Hp} {O : Own} {vs : List V} {rs : List SD} {N : List Str} (h : Hold K Hk O H) (hv : SDall K Hk vs rs) : Pt K Hk O (rs ++ List.replicate (N.length - rs.length) .non) (L2.start N vs) H :=
  ⟨h, by unfold L2.start; rw [List.length_append, List.length_append, List.length_map, List.length_replicate, List.length_replicate, hv.length], fun i r hr => by
    by_cases hi : i < rs.length
    · rw [List.getElem?_append_left hi] at hr
      obtain ⟨v, h1, h2⟩ := hv.get hr
      refine .inr ⟨v, ?_, h2⟩
      unfold L2.start
      rw [List.getElem?_append_left (by rw [List.length_map, hv.length]; exact hi), List.getElem?_map, h1]
      rfl
    · rw [List.getElem?_append_right (by omega), List.getElem?_replicate] at hr
      split at hr
      · cases hr; exact .inl rfl
      · cases hr⟩
theorem fn_ok {x qual : Str} {st : Stmt} {f : Addr} {fd : FuncData} {N ps : List Str} {k : Nat} {pre : List SD → Own → (SD → Own → Prop) → Prop} (F : Fun K x qual st f fd) (S : FnScope N ps (defScope st)) (len : ∀ rs O Q, pre rs O Q → rs.length = ps.length)
    (hbody : ∀ (cdv : Value) (A : Around) (outer : List Env) (s : Shared) (H : Hp) (E : XK), Room k (A.deeper (envOfC qual (defScope st) s.heap.objs.size f cdv)) →
      ∃ t, PSs (cxOf CX0 P w K mg base N qual (defScope st) f cdv A outer s H E).nox (defBody st) t ∧ ∀ rs O Q, pre rs O Q → StW K t O (rs ++ List.replicate (N.length - rs.length) .non) ⟨fun O _ => Q (.dat .none) O, Q, fun _ _ => False, fun _ _ => False, fun _ => True⟩) :
    FnOk P w K mg base CX0 (k + 1) f fd ps (spW K pre) :=
  F.ok S (fun vs H Q E ⟨Hk, O, rs, Q0, h, hv, hp, kk⟩ => by rw [hv.length]; exact len rs O Q0 hp) fun cdv A outer s H vs Q E hr ⟨Hk, O, rs, Q0, h, hv, hp, kk⟩ => by
    obtain ⟨t, ht, hs⟩ := hbody cdv A outer s H E hr
    refine ⟨t, ht, hs rs O Q0 hp Hk _ H _ (start_pt h hv) ⟨fun O2 ds2 Hk2 σ2 H2 e p2 q => kk _ (.dat .none) O2 Hk2 H2 e p2.hold .non q, kk, fun O2 ds2 Hk2 σ2 H2 e p2 q => q.elim, fun O2 ds2 Hk2 σ2 H2 e p2 q => q.elim, fun _ _ => True.intro⟩⟩
end
end Wk
namespace Wk
open PySem PySem.Spec PyProof.Rows L2
section
variable (P : Program) (w : World) (K : PySem.W.Frag) (mg : Str → Option Value) (base : Heap)
def Def (x : Str) (st : Stmt) : Prop := ∃ f fd, Fun K x x st f fd ∧ mg x = some (.ref f)
def Callee (x : Str) (ps : List Str) (k : Nat) (pre : List SD → Own → (SD → Own → Prop) → Prop) : Prop :=
  ∃ f fd, FnOk P w K mg base CX0 k f fd ps (spW K pre) ∧ mg x = some (.ref f) ∧ PySem.W.keepIn K (.ref f) = true ∧ Binds K fd ps [] ∧ ∃ oc od sl, K.lookup f = some ⟨oc, od, .func fd, sl⟩
end
theorem callee_law {P : Program} {w : World} {K : PySem.W.Frag} {mg : Str → Option Value} {base : Heap} {x : Str} {ps : List Str} {k : Nat} {pre : List SD → Own → (SD → Own → Prop) → Prop} {f : Addr} {fd : FuncData} {qual : Str} {st : Stmt}
    (C : Callee P w K mg base x ps k pre) (g : mg x = some (.ref f)) (F : Fun K x qual st f fd) : FnOk P w K mg base CX0 k f fd ps (spW K pre) := by
  obtain ⟨f', fd', G, g', _, _, oc', od', sl', lk'⟩ := C
  rw [g] at g'
  cases g'
  obtain ⟨oc, od, kV, doc, pm, an, cdv, ct, osl, rfl, lk, hcd⟩ := F.ex
  rw [lk] at lk'
  cases lk'
  exact G
theorem Fun.lk {K : PySem.W.Frag} {x qual : Str} {st : Stmt} {f : Addr} {fd : FuncData} (F : Fun K x qual st f fd) : ∃ oc od sl, K.lookup f = some ⟨oc, od, .func fd, sl⟩ := by
  obtain ⟨oc, od, kV, doc, pm, an, cdv, ct, osl, rfl, lk, hcd⟩ := F.ex
  exact ⟨_, _, _, lk⟩
theorem cx_K {CX : CXT} {P : Program} {w : World} {K : PySem.W.Frag} {mg : Str → Option Value} {base : Heap} {N : List Str} {qual : Str} {scope : Scope} {f : Addr} {cd : Value} {A : Around} {outer : List Env} {s : Shared} {H : Hp} {E : XK} :
    (cxOf CX P w K mg base N qual scope f cd A outer s H E).nox.K = K := rfl
theorem b_dec {p : Prop} [Decidable p] {A B : Prop} (h1 : p → A) (h2 : ¬p → B) : (decide p = true → A) ∧ (decide p = false → B) := ⟨fun h => h1 (of_decide_eq_true h), fun h => h2 (of_decide_eq_false h)⟩
theorem b_ndec {p : Prop} [Decidable p] {A B : Prop} (h1 : ¬p → A) (h2 : p → B) : ((!decide p) = true → A) ∧ ((!decide p) = false → B) := by
  by_cases hp : p
  · exact ⟨fun h => by simp [hp] at h, fun _ => h2 hp⟩
  · exact ⟨fun _ => h1 hp, fun h => by simp [hp] at h⟩
theorem b_true {A B : Prop} (h : A) : (true = true → A) ∧ (true = false → B) := ⟨fun _ => h, fun h => Bool.noConfusion h⟩
theorem b_false {A B : Prop} (h : B) : (false = true → A) ∧ (false = false → B) := ⟨fun h => Bool.noConfusion h, fun _ => h⟩
/-- the law's own start -/
theorem law_start {K : PySem.W.Frag} {H : Hp} {a : Addr} {ns : List Int} {pre : List SD → Own → (SD → Own → Prop) → Prop} (hS : SqL K H a (ns.map V.int)) (hp : pre [.scr ns] [] fun r _ => r = bV true) : spW K pre [.ref a] H (fun v _ => v = .bl true) fun _ _ _ => False :=
  ⟨H, [], [.scr ns], _, ⟨Same.refl _, fun p hp => (nomatch hp), List.nodup_nil⟩, .cons ⟨a, rfl, hS⟩ .nil, hp, fun v r O2 Hk2 H2 e h s q => by
    subst q
    cases (show Da Hk2 v (.bool true) from s)
    rfl⟩
end Wk
namespace Wk
open PySem PySem.Spec PyProof.Rows L2
/-! ### the rules that speak of the written part, at a given one -/
section
variable {X : Cx} (K : PySem.W.Frag)
theorem ixL (h : X.K = K := by rfl) : IxR X (rIxL K) := h ▸ ix_list
theorem ixT (h : X.K = K := by rfl) : IxR X (rIxT K) := h ▸ ix_tup
theorem slL (h : X.K = K := by rfl) : SlR X (rSlL K) := h ▸ sl_list
theorem slT (h : X.K = K := by rfl) : SlR X (rSlA K) := h ▸ sl_tupA
theorem kCatT (h : X.K = K := by rfl) : OpR X (binaryOp .Add) (rCatA K) := h ▸ op_catA
theorem kRepT (h : X.K = K := by rfl) : OpR X (binaryOp .Mult) (rRepT K) := h ▸ op_repT
def rLen (K : PySem.W.Frag) : List V → Hp → VK → Prop := fun xs H Q => ∃ p ys, xs = [.ref p] ∧ (SqL K H p ys ∨ SqT K H p ys) ∧ Q (.int ys.length) H
def rListOf (K : PySem.W.Frag) : List V → Hp → VK → Prop := fun xs H Q => ∃ p ys, xs = [.ref p] ∧ (SqL K H p ys ∨ SqT K H p ys) ∧ ∀ l, H l = none → Q (.ref l) (upd H l (.lst ys))
def rTupOf (K : PySem.W.Frag) : List V → Hp → VK → Prop := fun xs H Q => ∃ p ys, xs = [.ref p] ∧ ((SqL K H p ys ∧ ∀ l, H l = none → Q (.ref l) (upd H l (.tup ys))) ∨ (SqT K H p ys ∧ Q (.ref p) H))
def rMax2 : List V → Hp → VK → Prop := fun xs H Q => ∃ i j, xs = [.int i, .int j] ∧ Q (.int (if j > i then j else i)) H
def rMin2 : List V → Hp → VK → Prop := fun xs H Q => ∃ i j, xs = [.int i, .int j] ∧ Q (.int (if j < i then j else i)) H
def rInt1 : List V → Hp → VK → Prop := fun xs H Q => (∃ i, xs = [.int i] ∧ Q (.int i) H) ∨ ∃ k, xs = [.bl k] ∧ Q (.int (if k then 1 else 0)) H
theorem kLen (h : X.K = K := by rfl) : CallR X (.builtin "len") (rLen K) := h ▸ call_len_seq
theorem kListOf (h : X.K = K := by rfl) : CallR X (.type "list") (rListOf K) := h ▸ call_list_of
theorem kTupOf (h : X.K = K := by rfl) : CallR X (.type "tuple") (rTupOf K) := h ▸ call_tuple_of
theorem kMax2 (hc : X.calm = true) : CallR X (.builtin "max") rMax2 := call_max2 hc
theorem kMin2 (hc : X.calm = true) : CallR X (.builtin "min") rMin2 := call_min2 hc
theorem kInt1 : CallR X (.type "int") rInt1 := call_int1
theorem kSum (hc : X.calm = true) (h : X.K = K := by rfl) : CallR X (.builtin "sum") (rSum K) := h ▸ cr_sum hc
theorem kMax (hc : X.calm = true) (h : X.K = K := by rfl) : CallR X (.builtin "max") (rMax K) := h ▸ cr_max hc
theorem kMin (hc : X.calm = true) (h : X.K = K := by rfl) : CallR X (.builtin "min") (rMin K) := h ▸ cr_min hc
theorem kSorted (h : X.K = K := by rfl) : CallR X (.builtin "sorted") (rSortedI K) := h ▸ cr_sortedI
theorem kIsi (h : X.K = K := by rfl) : CallR X (.builtin "isinstance") (rIsi K) := h ▸ call_isi
theorem kEqD (hu : X.A.units + 64 < cLine) (h : X.K = K := by rfl) : OpR X (compareOp .Eq) (rEqD K) := h ▸ op_eqD hu
theorem kNeD (hu : X.A.units + 64 < cLine) (h : X.K = K := by rfl) : OpR X (compareOp .NotEq) (rNeD K) := h ▸ op_neD hu
theorem piL {tg l : Expr} {tl : TE} (hl : PE X l tl) (h : X.K = K := by rfl) : PI X tg l (iList K tl) := h ▸ pi_list hl
theorem piT {tg l : Expr} {tl : TE} (hl : PE X l tl) (h : X.K = K := by rfl) : PI X tg l (iTup K tl) := h ▸ pi_tup hl
theorem peRev {e : Expr} {te : TE} {k : Nat} {p1 p2 p3 pos : Pos} (he : PE X e te) (h : X.K = K := by rfl) : PE X (.Subscript e (.Slice none none (some (.UnaryOp .USub (.Constant (.int 1) k p1) p2)) p3) pos) (tRevL K te) := h ▸ pe_revL he
theorem psApp {st : Stmt} {to : TE} {ta : TA} (hs : PS X st (tDrop (tBM X.K "list" rAppend to ta))) (h : X.K = K := by rfl) : PS X st (tDrop (tBM K "list" rAppend to ta)) := h ▸ hs
end
section
variable {K : PySem.W.Frag} {Hk Hk' H H' : Hp} {O O' Oa : Own} {ds : List SD} {σ : L2.St} {Q : SD → Own → Prop} {Q' : VK} {x y : SD} {es fs : List PyData} {lo hi : Option Int} {b : Addr × OD} {te : TE}
/-! ### lists that are data or owned -/
inductive Lst (O : Own) : SD → List PyData → Prop
  | d {es : List PyData} : Lst O (.dat (.list es)) es
  | o {a : Addr} {rs : List SD} {es : List PyData} (hm : (a, OD.lst rs) ∈ O) (hd : Dats rs es) : Lst O (.ad a) es
theorem Lst.get (l : Lst O x es) (h : Hold K Hk O H) {u : V} (hu : SDok K Hk u x) : ∃ a xs, u = .ref a ∧ H a = some (.lst xs) ∧ DaAll Hk xs es := by
  cases l with
  | d =>
    cases (show Da Hk u (.list es) from hu) with
    | @lst a xs _ h1 h2 => exact ⟨a, xs, rfl, h.kn _ _ h1, h2⟩
  | @o a rs _ hm hd =>
    cases (show u = .ref a from hu)
    obtain ⟨⟨vs, h1, h2⟩, _⟩ := h.ow _ hm
    obtain rfl := hd.eq
    exact ⟨a, vs, rfl, h1, h2.dats⟩
theorem sq_of {a : Addr} {xs : List V} (h : H a = some (.lst xs)) : SqL K H a xs := .inl (.inl h)
/-- a new list, as data; as owned in front; as owned behind the first -/
theorem Kont.newD (k : Kont K Hk Q Q') (h : Hold K Hk O H) {l : Addr} {xs : List V} (hf : H l = none) (hd : DaAll Hk xs es) (q : Q (.dat (.list es)) O) : Q' (.ref l) (upd H l (.lst xs)) := by
  have sm := same_new (o := .lst xs) (h.kn.free hf)
  exact k _ (.dat (.list es)) O _ _ sm (h.know hf) (.lst upd_same (DaAll.mono sm hd)) q
theorem Kont.newO (k : Kont K Hk Q Q') (h : Hold K Hk O H) {l : Addr} {xs : List V} (hf : H l = none) (hd : DaAll Hk xs es) (q : ∀ l, Q (.ad l) ((l, .lst (es.map .dat)) :: O)) : Q' (.ref l) (upd H l (.lst xs)) :=
  k _ (.ad l) _ Hk _ (Same.refl _) (h.own hf (SDall.of_dats hd)) rfl (q l)
theorem Kont.newO1 (k : Kont K Hk Q Q') (h : Hold K Hk (b :: Oa) H) {l : Addr} {xs : List V} (hf : H l = none) (hd : DaAll Hk xs es) (q : ∀ l, Q (.ad l) (b :: (l, .lst (es.map .dat)) :: Oa)) : Q' (.ref l) (upd H l (.lst xs)) :=
  k _ (.ad l) _ Hk _ (Same.refl _) ((h.own hf (SDall.of_dats hd)).perm (.swap ..)) rfl (q l)
theorem g_len (l : Lst O x es) (q : Q (iV es.length) O) : CbW K (rLen K) [x] O Q := fun Hk H h us hus Q' k => by
  obtain ⟨u, rfl, hu⟩ := all1 hus
  obtain ⟨a, xs, rfl, h1, h2⟩ := l.get h hu
  refine ⟨_, _, rfl, .inl (sq_of h1), ?_⟩
  rw [h2.length]
  exact k.now h (r := iV _) (.int _) q
theorem g_lenT (q : Q (iV es.length) O) : CbW K (rLen K) [.dat (.tuple es)] O Q := c_lenT q
theorem g_lenS {ns : List Int} (q : Q (iV ns.length) O) : CbW K (rLen K) [.scr ns] O Q := c_lenS q
theorem g_lenO {a : Addr} {rs : List SD} (hm : (a, OD.lst rs) ∈ O) (q : Q (iV rs.length) O) : CbW K (rLen K) [.ad a] O Q := c_lenO hm q
theorem g_max2 {i j : Int} (q : Q (iV (max i j)) O) : CbW K rMax2 [iV i, iV j] O Q := c_max2 q
theorem g_min2 {i j : Int} (q : Q (iV (min i j)) O) : CbW K rMin2 [iV i, iV j] O Q := c_min2 q
theorem g_int {i : Int} (q : Q (iV i) O) : CbW K rInt1 [iV i] O Q := c_int q
theorem g_intB {i : Bool} (q : Q (iV (if i then 1 else 0)) O) : CbW K rInt1 [bV i] O Q := c_intB q
theorem g_tupT (q : Q (.dat (.tuple es)) O) : CbW K (rTupOf K) [.dat (.tuple es)] O Q := c_tupT q
theorem g_tup (l : Lst O x es) (q : Q (.dat (.tuple es)) O) : CbW K (rTupOf K) [x] O Q := fun Hk H h us hus Q' k => by
  obtain ⟨u, rfl, hu⟩ := all1 hus
  obtain ⟨a, xs, rfl, h1, h2⟩ := l.get h hu
  refine ⟨_, _, rfl, .inl ⟨sq_of h1, fun l hf => ?_⟩⟩
  have sm := same_new (o := .tup xs) (h.kn.free hf)
  exact k _ (.dat (.tuple es)) O _ _ sm (h.know hf) (.tup upd_same (DaAll.mono sm h2)) q
theorem g_list (l : Lst O x es) (q : Q (.dat (.list es)) O) : CbW K (rListOf K) [x] O Q := fun Hk H h us hus Q' k => by
  obtain ⟨u, rfl, hu⟩ := all1 hus
  obtain ⟨a, xs, rfl, h1, h2⟩ := l.get h hu
  exact ⟨_, _, rfl, .inl (sq_of h1), fun l hf => k.newD h hf h2 q⟩
theorem g_listO (l : Lst O x es) (q : ∀ l, Q (.ad l) ((l, .lst (es.map .dat)) :: O)) : CbW K (rListOf K) [x] O Q := fun Hk H h us hus Q' k => by
  obtain ⟨u, rfl, hu⟩ := all1 hus
  obtain ⟨a, xs, rfl, h1, h2⟩ := l.get h hu
  exact ⟨_, _, rfl, .inl (sq_of h1), fun l hf => k.newO h hf h2 q⟩
theorem g_listO1 (l : Lst (b :: Oa) x es) (q : ∀ l, Q (.ad l) (b :: (l, .lst (es.map .dat)) :: Oa)) : CbW K (rListOf K) [x] (b :: Oa) Q := fun Hk H h us hus Q' k => by
  obtain ⟨u, rfl, hu⟩ := all1 hus
  obtain ⟨a, xs, rfl, h1, h2⟩ := l.get h hu
  exact ⟨_, _, rfl, .inl (sq_of h1), fun l hf => k.newO1 h hf h2 q⟩
theorem g_listT (q : Q (.dat (.list es)) O) : CbW K (rListOf K) [.dat (.tuple es)] O Q := c_listT q
theorem g_listTO1 (q : ∀ l, Q (.ad l) (b :: (l, .lst (es.map .dat)) :: Oa)) : CbW K (rListOf K) [.dat (.tuple es)] (b :: Oa) Q := fun Hk H h us hus Q' k => by
  obtain ⟨u, rfl, hu⟩ := all1 hus
  cases (show Da Hk u (.tuple es) from hu) with
  | @tup a xs _ h1 h2 => exact ⟨_, _, rfl, .inr (.inl (.inl (h.kn _ _ h1))), fun l hf => k.newO1 h hf h2 q⟩
theorem g_sum {ns : List Int} (l : Lst O x (ns.map .int)) (q : Q (iV ns.sum) O) : CbW K (rSum K) [x] O Q := fun Hk H h us hus Q' k => by
  obtain ⟨u, rfl, hu⟩ := all1 hus
  obtain ⟨a, xs, rfl, h1, h2⟩ := l.get h hu
  rw [h2.ints] at h1
  exact ⟨_, ns, rfl, sq_of h1, k.now h (r := iV _) (.int _) q⟩
theorem g_max {ns : List Int} (l : Lst O x (ns.map .int)) (hn : 0 < ns.length) (q : ∀ m, m ∈ ns → (∀ y ∈ ns, y ≤ m) → Q (iV m) O) : CbW K (rMax K) [x] O Q := fun Hk H h us hus Q' k => by
  obtain ⟨u, rfl, hu⟩ := all1 hus
  obtain ⟨a, xs, rfl, h1, h2⟩ := l.get h hu
  rw [h2.ints] at h1
  exact ⟨_, ns, rfl, sq_of h1, hn, fun m hm hl => k.now h (r := iV _) (.int _) (q m hm hl)⟩
theorem g_sorted {ns : List Int} (l : Lst O x (ns.map .int)) (q : ∀ ms : List Int, ms.Perm ns → ms.Pairwise (· ≤ ·) → Q (.dat (lI ms)) O) : CbW K (rSortedI K) [x] O Q := fun Hk H h us hus Q' k => by
  obtain ⟨u, rfl, hu⟩ := all1 hus
  obtain ⟨a, xs, rfl, h1, h2⟩ := l.get h hu
  rw [h2.ints] at h1
  exact ⟨_, ns, rfl, sq_of h1, fun ms p hp hs hf => k.newD h hf (DaAll.of_ints ms) (q ms hp hs)⟩
theorem g_rev (h : EvW K te O ds fun r O1 => ∃ es, Lst O1 r es ∧ Q (.dat (.list es.reverse)) O1) : EvW K (tRevL K te) O ds Q := fun Hk σ H p Q' k =>
  h Hk σ H p _ fun v r O1 Hk1 H1 e1 h1 s1 q1 => by
    obtain ⟨es, l, q⟩ := q1
    obtain ⟨a, xs, rfl, g1, g2⟩ := l.get h1 s1
    exact ⟨_, _, rfl, sq_of g1, fun l hf => (k.ext e1).newD h1 hf g2.reverse q⟩
theorem g_revO1 (h : EvW K te O ds fun r O1 => ∃ es b Oa, O1 = b :: Oa ∧ Lst O1 r es ∧ ∀ l, Q (.ad l) (b :: (l, .lst (es.reverse.map .dat)) :: Oa)) : EvW K (tRevL K te) O ds Q := fun Hk σ H p Q' k =>
  h Hk σ H p _ fun v r O1 Hk1 H1 e1 h1 s1 q1 => by
    obtain ⟨es, b, Oa, rfl, l, q⟩ := q1
    obtain ⟨a, xs, rfl, g1, g2⟩ := l.get h1 s1
    exact ⟨_, _, rfl, sq_of g1, fun l hf => (k.ext e1).newO1 h1 hf g2.reverse q⟩
theorem g_sl (l : Lst O x es) (q : Q (.dat (.list (cut es lo hi))) O) : SlW K (rSlL K) x lo hi O Q := fun Hk H h u hu Q' k => by
  obtain ⟨a, xs, rfl, h1, h2⟩ := l.get h hu
  exact ⟨_, _, rfl, sq_of h1, fun l hf => k.newD h hf (h2.cut lo hi) q⟩
theorem g_slO1 (l : Lst (b :: Oa) x es) (q : ∀ l, Q (.ad l) (b :: (l, .lst ((cut es lo hi).map .dat)) :: Oa)) : SlW K (rSlL K) x lo hi (b :: Oa) Q := fun Hk H h u hu Q' k => by
  obtain ⟨a, xs, rfl, h1, h2⟩ := l.get h hu
  exact ⟨_, _, rfl, sq_of h1, fun l hf => k.newO1 h hf (h2.cut lo hi) q⟩
theorem g_cat (l1 : Lst O x es) (l2 : Lst O y fs) (hz : es.length + fs.length ≤ 1000000) (q : Q (.dat (.list (es ++ fs))) O) : OpW K rCat x y O Q := fun Hk H h u v hu hv Q' k => by
  obtain ⟨a, xs, rfl, h1, h2⟩ := l1.get h hu
  obtain ⟨a2, ys, rfl, g1, g2⟩ := l2.get h hv
  exact ⟨_, _, xs, ys, rfl, rfl, h1, g1, by rw [h2.length, g2.length]; exact Nat.le_trans hz (by decide), fun l hf => k.newD h hf (h2.append g2) q⟩
theorem g_catO1 (l1 : Lst (b :: Oa) x es) (l2 : Lst (b :: Oa) y fs) (hz : es.length + fs.length ≤ 1000000) (q : ∀ l, Q (.ad l) (b :: (l, .lst ((es ++ fs).map .dat)) :: Oa)) : OpW K rCat x y (b :: Oa) Q := fun Hk H h u v hu hv Q' k => by
  obtain ⟨a, xs, rfl, h1, h2⟩ := l1.get h hu
  obtain ⟨a2, ys, rfl, g1, g2⟩ := l2.get h hv
  exact ⟨_, _, xs, ys, rfl, rfl, h1, g1, by rw [h2.length, g2.length]; exact Nat.le_trans hz (by decide), fun l hf => k.newO1 h hf (h2.append g2) q⟩
theorem g_rep {k : Int} (l1 : Lst O x es) (h0 : k ≤ 1000) (h00 : -1000 ≤ k) (hz : es.length ≤ 1000) (q : Q (.dat (.list (List.replicate k.toNat es).flatten)) O) : OpW K rRep x (iV k) O Q := fun Hk H h u v hu hv Q' kk => by
  obtain ⟨a, xs, rfl, h1, h2⟩ := l1.get h hu
  cases (show Da Hk v (.int k) from hv)
  refine ⟨_, k, xs, rfl, rfl, h1, by omega, by omega, ?_, fun l hf => kk.newD h hf (h2.rep _) q⟩
  rw [h2.length]
  have h3 : es.length * k.toNat ≤ 1000 * 1000 := Nat.mul_le_mul hz (by omega)
  exact Nat.le_trans h3 (by decide)
theorem g_ix {i : Int} {d : PyData} (l : Lst O x es) (ha : atI es i = some d) (q : Q (.dat d) O) : OpW K (rIxL K) x (iV i) O Q := fun Hk H h u v hu hv Q' k => by
  obtain ⟨a, xs, rfl, h1, h2⟩ := l.get h hu
  cases (show Da Hk v (.int i) from hv)
  obtain ⟨j, e1, e2⟩ := atI_get ha
  obtain ⟨w, g1, g2⟩ := h2.get e2
  exact ⟨_, xs, i, w, rfl, rfl, sq_of h1, atI_of (by rw [h2.length]; exact e1) g1, k.now h (r := .dat d) g2 q⟩
end
theorem sz_ok {n : Nat} (h : Nat.ble n 1000000 = true) : n ≤ sizeLine := Nat.le_trans (Nat.le_of_ble_eq_true h) (by decide)
def intOf : PyData → Int
  | .int n => n
  | _ => 0
/-- an item of a written menu of ints -/
theorem o_pickM {K : PySem.W.Frag} {O : Own} {Q : SD → Own → Prop} {es : List PyData} {i : Int} (he : es = (es.map intOf).map .int) (h0 : 0 ≤ i) (h1 : i < es.length) (q : ∀ v, v ∈ es.map intOf → Q (iV v) O) : OpW K (rIxL K) (.dat (.list es)) (iV i) O Q :=
  o_pickL h0 h1 fun d hd => by
    rw [he] at hd
    obtain ⟨v, hv, rfl⟩ := List.mem_map.mp hd
    exact q v hv
section
variable {K : PySem.W.Frag} {O O' Oa : Own} {ds : List SD} {Q : SD → Own → Prop} {A : AE} {t : TS} {te : TE}
/-- a name of an owned list of data: from here on it is data -/
theorem s_frz {i : Nat} {a : Addr} {rs : List SD} {es : List PyData} (hi : ds[i]? = some (.ad a)) (hp : O.Perm ((a, OD.lst rs) :: Oa)) (hd : Dats rs es) (h : StW K t Oa (ds.set i (.dat (.list es))) A) : StW K t O ds A := fun Hk σ H D p l => by
  obtain rfl := hd.eq
  obtain ⟨Hk2, e2, h2, d2⟩ := (p.hold.perm hp).freeze
  have p2 : Pt K Hk2 Oa ds σ H := p.ext e2 h2
  rcases p.env i (.ad a) hi with z | ⟨v, hv, hs⟩
  · cases z
  · cases (show v = .ref a from hs)
    refine h Hk2 σ H D ?_ (l.ext e2)
    have p3 := p2.set (j := i) (r := .dat (.list es)) (v := .ref a) d2
    have e : σ.set i (some (.ref a)) = σ := by
      obtain ⟨hl, e⟩ := List.getElem?_eq_some_iff.mp hv
      rw [← e]
      exact List.set_getElem_self hl
    rw [e] at p3
    exact p3
theorem g_nthO {a : Addr} {ns : List Int} {i : Int} (hm : (a, OD.lst (ns.map fun n => iV n)) ∈ O) (h0 : 0 ≤ i) (h1 : i < ns.length) (q : Q (iV (ns.getD i.toNat 0)) O) : OpW K (rIxL K) (.ad a) (iV i) O Q := by
  obtain ⟨d, h, e, _⟩ := atI_in (xs := ns.map PyData.int) h0 (by rw [List.length_map]; exact h1)
  rw [List.getElem?_map] at e
  refine g_ix (.o hm (Dats.ints ns)) h ?_
  cases z : ns[i.toNat]? with
  | none => rw [z] at e; cases e
  | some n =>
    rw [z] at e
    cases e
    rw [List.getD_eq_getElem?_getD, z] at q
    exact q
theorem ixN_in {n : Nat} {k : Int} (h0 : 0 ≤ k) (h1 : k < n) : ixN n k = some k.toNat := by
  unfold ixN
  rw [if_pos h0, if_pos h1]
theorem dats_iV (ns : List Int) : (ns.map PyData.int).map SD.dat = ns.map fun n => iV n := by rw [List.map_map]; rfl
theorem iV_set (ns : List Int) (j : Nat) (v : Int) : (ns.map fun n => iV n).set j (iV v) = (ns.set j v).map fun n => iV n := by rw [List.map_set]
end
section
variable {K : PySem.W.Frag} {O : Own} {Q : SD → Own → Prop} {n : String} {b : Bool}
theorem i_B {x : Bool} (hb : kitB "bool" n = some b) (q : Q (bV b) O) : CbW K (rIsi K) [bV x, .ty n] O Q := c_isi (d := .bool x) hb q
theorem i_I {x : Int} (hb : kitB "int" n = some b) (q : Q (bV b) O) : CbW K (rIsi K) [iV x, .ty n] O Q := c_isi (d := .int x) hb q
theorem i_T {x : List PyData} (hb : kitB "tuple" n = some b) (q : Q (bV b) O) : CbW K (rIsi K) [.dat (.tuple x), .ty n] O Q := c_isi (d := .tuple x) hb q
theorem i_L {x : List PyData} (hb : kitB "list" n = some b) (q : Q (bV b) O) : CbW K (rIsi K) [.dat (.list x), .ty n] O Q := c_isi (d := .list x) hb q
theorem i_N (hb : kitB "NoneType" n = some b) (q : Q (bV b) O) : CbW K (rIsi K) [.dat .none, .ty n] O Q := c_isi (d := .none) hb q
theorem i_O {a : Addr} {rs : List SD} (hm : (a, OD.lst rs) ∈ O) (hb : kitB "list" n = some b) (q : Q (bV b) O) : CbW K (rIsi K) [.ad a, .ty n] O Q := c_isiO hm hb q
end
theorem cut_lo {α : Type} (xs : List α) {i : Int} (h0 : 0 ≤ i) : cut xs (some i) none = xs.drop i.toNat := by
  obtain ⟨k, rfl⟩ : ∃ k : Nat, i = (k : Int) := ⟨i.toNat, by omega⟩
  unfold cut
  rw [HT.sIx_nat, HT.sIx_none, Int.toNat_natCast]
  by_cases h : k ≤ xs.length
  · rw [Nat.min_eq_left h]
    exact List.take_of_length_le (by rw [List.length_drop]; exact Nat.le_refl _)
  · rw [Nat.min_eq_right (by omega), List.drop_length, List.take_nil, List.drop_eq_nil_of_le (by omega)]
theorem cut_hi {α : Type} (xs : List α) {i : Int} (h0 : 0 ≤ i) : cut xs none (some i) = xs.take i.toNat := by
  obtain ⟨k, rfl⟩ : ∃ k : Nat, i = (k : Int) := ⟨i.toNat, by omega⟩
  unfold cut
  rw [HT.sIx_nat, HT.sIx_none, Int.toNat_natCast, List.drop_zero, Nat.sub_zero]
  by_cases h : k ≤ xs.length
  · rw [Nat.min_eq_left h]
  · rw [Nat.min_eq_right (by omega), List.take_length, List.take_of_length_le (by omega)]
theorem cut_map {α β : Type} (f : α → β) (xs : List α) (lo hi : Option Int) : cut (xs.map f) lo hi = (cut xs lo hi).map f := by
  unfold cut
  rw [List.length_map, ← List.map_drop, ← List.map_take]
theorem cut_len {α : Type} (xs : List α) (lo hi : Option Int) : (cut xs lo hi).length ≤ xs.length := by
  unfold cut
  rw [List.length_take, List.length_drop]
  omega
theorem g_catT {K : PySem.W.Frag} {O : Own} {Q : SD → Own → Prop} {es fs : List PyData} (hz : es.length + fs.length ≤ 1000000) (q : Q (.dat (.tuple (es ++ fs))) O) : OpW K (rCatA K) (.dat (.tuple es)) (.dat (.tuple fs)) O Q := o_catT (Nat.le_trans hz (by decide)) q
theorem map_app1 (ns : List Int) (v : Int) : ns.map PyData.int ++ [PyData.int v] = (ns ++ [v]).map PyData.int := by rw [List.map_append]; rfl
theorem b_any {b : Bool} {A B : Prop} (h1 : b = true → A) (h2 : b = false → B) : (b = true → A) ∧ (b = false → B) := ⟨h1, h2⟩
end Wk
namespace Wk
open PySem PySem.Spec PyProof.Rows L2
/-! ### plain data: ints and None in lists and tuples, n deep -/
def plB : Nat → PyData → Bool
  | _, .int _ => true
  | _, .none => true
  | n + 1, .list xs => xs.all (plB n)
  | n + 1, .tuple xs => xs.all (plB n)
  | _, _ => false
def PlAll (n : Nat) (xs : List PyData) : Prop := ∀ x ∈ xs, plB n x = true
theorem PlAll.nil (n : Nat) : PlAll n [] := fun _ h => absurd h List.not_mem_nil
theorem PlAll.cons {n : Nat} {x : PyData} {xs : List PyData} (h : plB n x = true) (r : PlAll n xs) : PlAll n (x :: xs) := fun y hy => (List.mem_cons.mp hy).elim (fun e => e ▸ h) (r y)
theorem PlAll.app {n : Nat} {xs ys : List PyData} (h : PlAll n xs) (r : PlAll n ys) : PlAll n (xs ++ ys) := fun y hy => (List.mem_append.mp hy).elim (h y) (r y)
theorem PlAll.map {α : Type} {n : Nat} {f : α → PyData} {xs : List α} (h : ∀ x, plB n (f x) = true) : PlAll n (xs.map f) := fun y hy => by
  obtain ⟨x, _, rfl⟩ := List.mem_map.mp hy
  exact h x
theorem pl_int (n : Nat) (i : Int) : plB n (.int i) = true := by cases n <;> rfl
theorem pl_none (n : Nat) : plB n .none = true := by cases n <;> rfl
theorem pl_list {n : Nat} {xs : List PyData} (h : PlAll n xs) : plB (n + 1) (.list xs) = true := List.all_eq_true.mpr h
theorem pl_tuple {n : Nat} {xs : List PyData} (h : PlAll n xs) : plB (n + 1) (.tuple xs) = true := List.all_eq_true.mpr h
theorem plAll_of {n : Nat} {x : PyData} {xs : List PyData} (h : PlAll n (x :: xs)) : plB n x = true ∧ PlAll n xs := ⟨h x List.mem_cons_self, fun y hy => h y (List.mem_cons_of_mem _ hy)⟩
theorem pl_lay : ∀ (n : Nat) (d : PyData), plB n d = true → d.canLay0 = true ∧ d.depth ≤ n := by
  intro n
  induction n with
  | zero => intro d h; cases d <;> first | (cases h; done) | exact ⟨rfl, Nat.le_refl _⟩ | cases h
  | succ n ih =>
    have all : ∀ xs : List PyData, PlAll n xs → PyData.canLayAll0 xs = true ∧ PyData.depthAll xs ≤ n := by
      intro xs
      induction xs with
      | nil => intro _; exact ⟨rfl, Nat.zero_le _⟩
      | cons x xs ihx =>
        intro h
        obtain ⟨h1, h2⟩ := plAll_of h
        obtain ⟨a1, a2⟩ := ih x h1
        obtain ⟨b1, b2⟩ := ihx h2
        refine ⟨by simp [PyData.canLayAll0, a1, b1], ?_⟩
        simp only [PyData.depthAll]
        omega
    intro d h
    cases d with
    | none => exact ⟨rfl, Nat.zero_le _⟩
    | int i => exact ⟨rfl, Nat.zero_le _⟩
    | bool b => cases h
    | str b => cases h
    | dict b => cases h
    | list xs =>
      obtain ⟨a, b⟩ := all xs (List.all_eq_true.mp h)
      exact ⟨by simpa [PyData.canLay0] using a, by simp only [PyData.depth]; omega⟩
    | tuple xs =>
      obtain ⟨a, b⟩ := all xs (List.all_eq_true.mp h)
      exact ⟨by simpa [PyData.canLay0] using a, by simp only [PyData.depth]; omega⟩
theorem pl_shaped {n : Nat} {d : PyData} (h : plB n d = true) (hn : n ≤ 64) : SeqAt.shaped d = true := by
  obtain ⟨a, b⟩ := pl_lay n d h
  unfold SeqAt.shaped
  rw [a, decide_eq_true (Nat.le_trans b hn)]
  rfl
theorem eqv_iff : ∀ (n : Nat) (d e : PyData), plB n d = true → plB n e = true → (PyData.eqv d e = true ↔ d = e) := by
  intro n
  induction n with
  | zero =>
    intro d e h k
    cases d <;> cases e <;> first | (cases h; done) | (cases k; done) | (simp [PyData.eqv])
  | succ n ih =>
    have all : ∀ xs ys : List PyData, PlAll n xs → PlAll n ys → (PyData.eqvAll xs ys = true ↔ xs = ys) := by
      intro xs
      induction xs with
      | nil => intro ys _ _; cases ys <;> simp [PyData.eqvAll]
      | cons x xs ihx =>
        intro ys h k
        cases ys with
        | nil => simp [PyData.eqvAll]
        | cons y ys =>
          obtain ⟨h1, h2⟩ := plAll_of h
          obtain ⟨k1, k2⟩ := plAll_of k
          simp only [PyData.eqvAll, Bool.and_eq_true, ih x y h1 k1, ihx ys h2 k2, List.cons.injEq]
    intro d e h k
    cases d with
    | bool b => cases h
    | str b => cases h
    | dict b => cases h
    | none => cases e <;> first | (cases k; done) | (simp [PyData.eqv])
    | int i => cases e <;> first | (cases k; done) | (simp [PyData.eqv])
    | list xs =>
      cases e with
      | list ys => simp only [PyData.eqv, PyData.list.injEq, all xs ys (List.all_eq_true.mp h) (List.all_eq_true.mp k)]
      | bool b => cases k
      | str b => cases k
      | dict b => cases k
      | none => simp [PyData.eqv]
      | int i => simp [PyData.eqv]
      | tuple i => simp [PyData.eqv]
    | tuple xs =>
      cases e with
      | tuple ys => simp only [PyData.eqv, PyData.tuple.injEq, all xs ys (List.all_eq_true.mp h) (List.all_eq_true.mp k)]
      | bool b => cases k
      | str b => cases k
      | dict b => cases k
      | none => simp [PyData.eqv]
      | int i => simp [PyData.eqv]
      | list i => simp [PyData.eqv]
section
variable {K : PySem.W.Frag} {O : Own} {Q : SD → Own → Prop} {d e : PyData}
theorem o_eqP (h1 : plB 8 d = true) (h2 : plB 8 e = true) (q : ∀ b, (b = true ↔ d = e) → Q (bV b) O) : OpW K (rEqD K) (.dat d) (.dat e) O Q :=
  o_eqD (pl_shaped h1 (by decide)) (pl_shaped h2 (by decide)) (q _ (eqv_iff 8 d e h1 h2))
theorem o_neP (h1 : plB 8 d = true) (h2 : plB 8 e = true) (q : ∀ b, (b = true ↔ d = e) → Q (bV (!b)) O) : OpW K (rNeD K) (.dat d) (.dat e) O Q :=
  o_neD (pl_shaped h1 (by decide)) (pl_shaped h2 (by decide)) (q _ (eqv_iff 8 d e h1 h2))
end
theorem ints_inj {a b : List Int} (h : a.map PyData.int = b.map PyData.int) : a = b := by
  induction a generalizing b with
  | nil => cases b with
    | nil => rfl
    | cons y s => cases h
  | cons x r ih => cases b with
    | nil => cases h
    | cons y s =>
      rw [List.map_cons, List.map_cons] at h
      injection h with h1 h2
      injection h1 with h1
      rw [h1, ih h2]
theorem tI_inj {a b : List Int} (h : tI a = tI b) : a = b := by
  injection h with h
  exact ints_inj h
abbrev lS (cs : List (List Int)) : PyData := .list (cs.map fun c => tI c)
abbrev tS (cs : List (List Int)) : PyData := .tuple (cs.map fun c => tI c)
theorem shapes_inj {a b : List (List Int)} (h : (a.map fun c => tI c) = b.map fun c => tI c) : a = b := by
  induction a generalizing b with
  | nil => cases b with
    | nil => rfl
    | cons y s => cases h
  | cons x r ih => cases b with
    | nil => cases h
    | cons y s =>
      rw [List.map_cons, List.map_cons] at h
      injection h with h1 h2
      rw [tI_inj h1, ih h2]
theorem lS_inj {a b : List (List Int)} (h : lS a = lS b) : a = b := by
  injection h with h
  exact shapes_inj h
section
variable {K : PySem.W.Frag} {O : Own} {Q : SD → Own → Prop}
theorem getD_some {α : Type} {xs : List α} {j : Nat} {d : α} (h : j < xs.length) : xs[j]? = some (xs.getD j d) := by
  rw [List.getD_eq_getElem?_getD, List.getElem?_eq_getElem h]
  rfl
/-- a shape of a list of shapes, a row of a tuple of rows -/
theorem o_nthS {cs : List (List Int)} {i : Int} (h0 : 0 ≤ i) (h1 : i < cs.length) (q : Q (.dat (tI (cs.getD i.toNat []))) O) : OpW K (rIxL K) (.dat (lS cs)) (iV i) O Q := by
  obtain ⟨d, h, e, _⟩ := atI_in (xs := cs.map fun c => tI c) h0 (by rw [List.length_map]; exact h1)
  rw [List.getElem?_map, getD_some (d := []) (by omega)] at e
  cases e
  exact o_ixL h q
theorem o_nthST {cs : List (List Int)} {i : Int} (h0 : 0 ≤ i) (h1 : i < cs.length) (q : Q (.dat (tI (cs.getD i.toNat []))) O) : OpW K (rIxT K) (.dat (tS cs)) (iV i) O Q := by
  obtain ⟨d, h, e, _⟩ := atI_in (xs := cs.map fun c => tI c) h0 (by rw [List.length_map]; exact h1)
  rw [List.getElem?_map, getD_some (d := []) (by omega)] at e
  cases e
  exact o_ixT h q
/-- the last -/
theorem at_last {α : Type} {xs : List α} {d : α} (h : xs ≠ []) : atI xs (-1) = some (xs.getD (xs.length - 1) d) := by
  have hl : 0 < xs.length := List.length_pos_iff.mpr h
  unfold atI ixN
  rw [if_neg (by decide), if_pos (by omega)]
  show xs[((-1 : Int) + (xs.length : Int)).toNat]? = _
  rw [show ((-1 : Int) + (xs.length : Int)).toNat = xs.length - 1 by omega]
  exact getD_some (by omega)
theorem o_lastS {cs : List (List Int)} (h : cs ≠ []) (q : Q (.dat (tI (cs.getD (cs.length - 1) []))) O) : OpW K (rIxL K) (.dat (lS cs)) (iV (-1)) O Q := by
  refine o_ixL (d := tI (cs.getD (cs.length - 1) [])) ?_ q
  rw [at_last (d := .none) (by simpa using h)]
  congr 1
  rw [List.length_map, List.getD_eq_getElem?_getD, List.getElem?_map, getD_some (d := []) (by have := List.length_pos_iff.mpr h; omega)]
  rfl
end
theorem cut_length {α : Type} (xs : List α) (lo hi : Option Int) : (cut xs lo hi).length = min (HT.sIx xs.length xs.length hi - HT.sIx xs.length 0 lo) (xs.length - HT.sIx xs.length 0 lo) := by
  unfold cut
  rw [List.length_take, List.length_drop]
/-- lists of shapes of bounded sizes -/
def GoodX (n : Nat) (xs : List PyData) : Prop := ∃ o : List (List Int), xs = o.map (fun c => tI c) ∧ o.length ≤ n ∧ ∀ c ∈ o, c.length ≤ 1000
theorem GoodX.cut {n : Nat} {xs : List PyData} (h : GoodX n xs) (lo hi : Option Int) : GoodX n (cut xs lo hi) := by
  obtain ⟨o, rfl, h1, h2⟩ := h
  refine ⟨Wk.cut o lo hi, cut_map _ _ _ _, Nat.le_trans (cut_len _ _ _) h1, fun c hc => h2 c ?_⟩
  unfold Wk.cut at hc
  exact List.mem_of_mem_drop (List.mem_of_mem_take hc)
theorem GoodX.app {n m : Nat} {xs ys : List PyData} (h : GoodX n xs) (k : GoodX m ys) : GoodX (n + m) (xs ++ ys) := by
  obtain ⟨o, rfl, h1, h2⟩ := h
  obtain ⟨p, rfl, k1, k2⟩ := k
  refine ⟨o ++ p, by rw [List.map_append], by rw [List.length_append]; omega, fun c hc => ?_⟩
  rcases List.mem_append.mp hc with hc | hc
  · exact h2 c hc
  · exact k2 c hc
theorem GoodX.rev {n : Nat} {xs : List PyData} (h : GoodX n xs) : GoodX n xs.reverse := by
  obtain ⟨o, rfl, h1, h2⟩ := h
  exact ⟨o.reverse, by rw [List.map_reverse], by rw [List.length_reverse]; exact h1, fun c hc => h2 c (List.mem_reverse.mp hc)⟩
theorem GoodX.one {ns : List Int} (h : ns.length ≤ 1000) : GoodX 1 [tI ns] := ⟨[ns], rfl, Nat.le_refl _, fun c hc => by rw [List.mem_singleton.mp hc]; exact h⟩
theorem GoodX.len {n : Nat} {xs : List PyData} (h : GoodX n xs) : xs.length ≤ n := by
  obtain ⟨o, rfl, h1, h2⟩ := h
  rw [List.length_map]
  exact h1
section
variable {K : PySem.W.Frag} {O O' : Own} {ds : List SD} {Q : SD → Own → Prop} {x y : SD} {es : List PyData} {d e : PyData}
theorem Lst.ne (l : Lst O x es) : x ≠ .non := by
  cases l with
  | d => exact fun z => nomatch z
  | o _ _ => exact fun z => nomatch z
theorem Lst.weak (l : Lst O x es) (h : ∀ p ∈ O, p ∈ O') : Lst O' x es := by
  cases l with
  | d => exact .d
  | o hm hd => exact .o (h _ hm) hd
theorem w_vX {i : Nat} (h : ds[i]? = some x) (l : Lst O x es) (q : Q x O) : EvW K (tVar i) O ds Q := w_var h l.ne q
theorem o_nthG {cs : List (List Int)} {i : Int} (l : Lst O x (cs.map fun c => tI c)) (h0 : 0 ≤ i) (h1 : i < cs.length) (q : Q (.dat (tI (cs.getD i.toNat []))) O) : OpW K (rIxL K) x (iV i) O Q := by
  obtain ⟨d, h, e, _⟩ := atI_in (xs := cs.map fun c => tI c) h0 (by rw [List.length_map]; exact h1)
  rw [List.getElem?_map, getD_some (d := []) (by omega)] at e
  cases e
  exact g_ix l h q
/-- what may be compared: data, or an owned list of data -/
inductive Val (O : Own) : SD → PyData → Prop
  | d {d : PyData} : Val O (.dat d) d
  | l {x : SD} {es : List PyData} (h : Lst O x es) : Val O x (.list es)
theorem Val.dp {H Hk : Hp} (v : Val O x d) (h : Hold K Hk O H) {u : V} (hu : SDok K Hk u x) : Dp K H u d := by
  cases v with
  | d => exact (Da.mono h.kn hu).dp
  | l h1 =>
    obtain ⟨a, xs, rfl, g1, g2⟩ := h1.get h hu
    exact .lst (sq_of g1) (DaAll.mono h.kn g2).dp
theorem o_eqV (v1 : Val O x d) (v2 : Val O y e) (h1 : plB 8 d = true) (h2 : plB 8 e = true) (q : ∀ b, (b = true ↔ d = e) → Q (bV b) O) : OpW K (rEqD K) x y O Q := fun Hk H h u v hu hv Q' k =>
  ⟨d, e, v1.dp h hu, v2.dp h hv, pl_shaped h1 (by decide), pl_shaped h2 (by decide), k.now h (r := bV _) (.bl _) (q _ (eqv_iff 8 d e h1 h2))⟩
theorem o_neV (v1 : Val O x d) (v2 : Val O y e) (h1 : plB 8 d = true) (h2 : plB 8 e = true) (q : ∀ b, (b = true ↔ d = e) → Q (bV (!b)) O) : OpW K (rNeD K) x y O Q := fun Hk H h u v hu hv Q' k =>
  ⟨d, e, v1.dp h hu, v2.dp h hv, pl_shaped h1 (by decide), pl_shaped h2 (by decide), k.now h (r := bV _) (.bl _) (q _ (eqv_iff 8 d e h1 h2))⟩
end
theorem w_chain {K : PySem.W.Frag} {O : Own} {ds : List SD} {Q : SD → Own → Prop} {r r' : R2} {ta tb tc : TE} (h : EvW K ta O ds fun x O1 => EvW K tb O1 ds fun y O2 => OpW K r x y O2 fun z O3 => ∃ k, z = bV k ∧ (k = true → EvW K tc O3 ds fun w O4 => OpW K r' y w O4 Q) ∧ (k = false → Q (bV false) O3)) : EvW K (tChain r r' ta tb tc) O ds Q := fun Hk σ H p Q' k =>
  h Hk σ H p _ fun v1 x O1 Hk1 H1 e1 h1 s1 q1 => q1 Hk1 σ H1 (p.ext e1 h1) _ fun v2 y O2 Hk2 H2 e2 h2 s2 q2 =>
    q2 Hk2 H2 h2 v1 v2 (s1.mono e2) s2 _ fun v3 z O3 Hk3 H3 e3 h3 s3 q3 => by
      obtain ⟨c, rfl, qt, qf⟩ := q3
      cases (show Da Hk3 v3 (.bool c) from s3)
      refine ⟨c, rfl, ?_⟩
      cases c with
      | true => exact iteT (qt rfl Hk3 σ H3 (((p.ext e1 h1).ext e2 h2).ext e3 h3) _ fun v4 w O4 Hk4 H4 e4 h4 s4 q4 => q4 Hk4 H4 h4 v2 v4 (s2.mono (e3.trans e4)) s4 Q' (k.ext (e1.trans (e2.trans (e3.trans e4)))))
      | false => exact iteF (k _ (bV false) O3 Hk3 H3 (e1.trans (e2.trans e3)) h3 (.bl false) (qf rfl))
end Wk
namespace Wk
open PySem PySem.Spec PyProof.Rows L2
/-! ### enumerate of a tuple -/
theorem enumT_meets (a : Addr) (xs : Array Value) (n : Nat) (d0 : Option Addr) (sl : Array (Option Value)) :
    Meets (Builtin.«enumerate.__new__» ⟨[.type "enumerate", .ref a], []⟩) (fun _ R s => s.heap.get? a = some { cls := .type "tuple", dict := d0, data := .seq xs n, slots := sl } ∧
      R (.ok (.ret (.ref (s.heap.push { cls := .type "tuple_iterator", data := .fields #[.ref a, .int 0 0] }).objs.size)))
        { s with heap := (s.heap.push { cls := .type "tuple_iterator", data := .fields #[.ref a, .int 0 0] }).push { cls := .type "enumerate", data := .fields #[.none, .bool false, .ref s.heap.objs.size, rawInt 0, .none, .none] } }) :=
  .of_wp fun prog w A R s h => by
    obtain ⟨hp, g, dr, tk, os⟩ := s
    obtain ⟨ha, h⟩ := h
    have sub := sub_enumerate
    have hT : Heap.IsTuple (Shared.heap ⟨hp, g, dr, tk, os⟩) a xs := ⟨_, ha, rfl, n, rfl⟩
    wp_walk using AutoSeq1.wpAny_loadPart' ha
    refine wpAny_stack_any fun st => wpAny_pure ?_
    split
    · rename_i c _ _ _ _ _
      cases (c == Value.type "enumerate")
      · wp_walk using AutoSeq1.wpAny_loadPart' ha, wpAny_pyIter_tuple hT
        exact ⟨_, rfl, h⟩
      · wp_walk using AutoSeq1.wpAny_loadPart' ha, wpAny_pyIter_tuple hT
        exact ⟨_, rfl, h⟩
    · wp_walk using AutoSeq1.wpAny_loadPart' ha, wpAny_pyIter_tuple hT
      exact ⟨_, rfl, h⟩
theorem call_enumT {prog : Program} {w : World} {A : Around} {E : Value → Shared → Prop} {s : Shared} {a : Addr} {xs : Array Value} {Q : Value → Shared → Prop} (hT : s.heap.IsTuple a xs)
    (h : ∀ h', IsEnum h' (s.heap.objs.size + 1) s.heap.objs.size 0 .none → h'.IsTupleIter s.heap.objs.size a 0 → h'.objs.size = s.heap.objs.size + 2 → (∀ b o, s.heap.get? b = some o → h'.get? b = some o) →
      Q (.ref (s.heap.objs.size + 1)) { s with heap := h' }) : wpAny (model prog w) A (call (.type "enumerate") [.ref a]) Q E s := by
  obtain ⟨⟨c, d0, dt, sl⟩, ha, hc, n, hd⟩ := hT
  replace hc : c = .type "tuple" := hc
  replace hd : dt = .seq xs n := hd
  subst hc hd
  refine callType_new F.called_enumerate (by decide) (F.typeCall_enumerate_1 _) (F.newCall_enumerate_1 _) (fun ob => F.args_object_init_2 ob _) F.entry_enumerate_new (enumT_meets a xs n d0 sl) ⟨ha, ?_⟩
  have z1 : (s.heap.push { cls := .type "tuple_iterator", data := .fields #[.ref a, .int 0 0] }).objs.size = s.heap.objs.size + 1 := Heap.size_push ..
  show _ ∧ _
  rw [z1]
  have he : IsEnum ((s.heap.push { cls := .type "tuple_iterator", data := .fields #[.ref a, .int 0 0] }).push { cls := .type "enumerate", data := .fields #[.none, .bool false, .ref s.heap.objs.size, rawInt 0, .none, .none] }) (s.heap.objs.size + 1) s.heap.objs.size 0 .none := by
    have g := Heap.get?_push_size (s.heap.push { cls := .type "tuple_iterator", data := .fields #[.ref a, .int 0 0] }) (o := { cls := .type "enumerate", data := .fields #[.none, .bool false, .ref s.heap.objs.size, rawInt 0, .none, .none] }) rfl
    rw [z1] at g
    exact g
  refine ⟨⟨_, he, rfl⟩, h _ he ⟨_, Heap.get?_push_of_some _ (Heap.get?_push_size _ rfl), rfl, rfl⟩ ?_ fun b o y => Heap.get?_push_of_some _ (Heap.get?_push_of_some _ y)⟩
  rw [Heap.size_push, z1]
/-- a tuple's items, each in a new pair with its number -/
def IteT (K : PySem.W.Frag) (a : Addr) : It :=
  ⟨fun i H => ∃ (xs : List V) (x : V), SqT K H a xs ∧ xs[i]? = some x, fun i H v H' => ∃ T x, v = .ref T ∧ H T = none ∧ H' = upd H T (.tup [.int (i : Nat), x]) ∧ ∀ xs, SqT K H a xs → xs[i]? = some x, fun i H => ∃ xs : List V, SqT K H a xs ∧ xs.length = i⟩
theorem turn_enumT {P : Program} {w : World} {K : PySem.W.Frag} {elts : List Expr} {kk : Nat} {tpos : Pos} (a e it : Addr) (ne : e ≠ it) (na : a ≠ it) (nea : e ≠ a) :
    Turn P w K (.Tuple elts kk tpos) (IteT K a) [e, it] e (fun i h => (∃ old, IsEnum h e it ((i : Nat) : Int) old) ∧ h.IsTupleIter it a i) where
  mem := by simp
  obj := fun i h st b hb => by
    obtain ⟨⟨old, he⟩, ⟨o, ho, hc, hd⟩⟩ := st
    have e' : b = e ∨ b = it := by simpa using hb
    rcases e' with z | z
    · subst z
      exact ⟨_, he, fun v q => nomatch q⟩
    · subst z
      exact ⟨o, ho, fun v q => by rw [hd] at q; cases q⟩
  keep := fun i h h' st k => let ⟨⟨old, he⟩, hi⟩ := st; ⟨⟨old, k e (by simp) _ he⟩, hi.at fun o q => k it (by simp) o q⟩
  item := by
    intro X hP hw hK hc i pins s σ H E I hf st hg
    subst hP hw hK
    obtain ⟨⟨old, he⟩, hit⟩ := st
    obtain ⟨xs, x, hq, hx⟩ := hg
    obtain ⟨its, rv, p, hz⟩ := I.tuple hq
    obtain ⟨u, hu, ru⟩ := rv.get hx
    have hel : e < s.heap.objs.size := Heap.lt_size he
    have hil : it < s.heap.objs.size := by obtain ⟨_, q, _⟩ := hit; exact Heap.lt_size q
    have hlt : i < its.toArray.size := by
      have := (List.getElem?_eq_some_iff.mp hu).1
      simpa using this
    refine wpAny_pyNext_enum_itemD (Draws.tuple (A := X.A.in1) (show X.A.in1.handled = none from I.ok.hd hc) it a na its.toArray) he ⟨hit, show s.heap.IsTuple a its.toArray from p⟩ hlt ne (by simp [ne, nea]) fun x' h' tk hx' ho hst' hT hsz hk => ?_
    have ex : x' = u := by
      rw [List.getElem?_toArray, hu] at hx'
      exact (Option.some.inj hx').symm
    subst ex
    refine ⟨_, rfl, wpAny_letOwnedTupleGo_enum (s := { s with heap := h', toks := tk + 1 }) ho fun h'' he' sb => ?_⟩
    have hT2 : h''.get? s.heap.objs.size = some { cls := .type "tuple", data := .seq #[.int i tk, x'] } := (sb.2 _ (Nat.ne_of_gt hel)).trans hT
    have new : ObjOk X.prog X.w (upd H s.heap.objs.size (.tup [.int (i : Nat), x])) h'' s.heap.objs.size (.tup [.int (i : Nat), x]) :=
      ⟨by show 2 ≤ sizeLine; decide, [.int i tk, x'], .cons ⟨_, rfl⟩ (.cons ru .nil), ⟨_, hT2, rfl, _, rfl⟩⟩
    have I1 : Inv X pins σ (upd H s.heap.objs.size (.tup [.int (i : Nat), x])) { s with heap := h'', toks := tk + 1 } :=
      I.turnedNew (ch := [e, it]) (fun b ob hb q => (sb.2 b (fun z => hb (by simp [z]))).trans (hk b ob (fun z => hb (by simp [z])) (fun z => hb (by simp [z])) q)) hf (Nat.le_refl _) new
    refine ⟨.ref s.heap.objs.size, _, I1, rfl, ⟨_, x, rfl, I.hok.fresh (Nat.le_refl _), rfl, fun ys hy => by rw [I.tuple_inj hy hq]; exact hx⟩, ⟨⟨x', ?_⟩, hst'.1.at fun o q => (sb.2 it (Ne.symm ne)).trans q⟩, fun b hb => ?_⟩
    · have e1 : ((i + 1 : Nat) : Int) = (i : Int) + 1 := by omega
      rw [e1]
      exact he'
    · have hb' : b < s.heap.objs.size := by
        have e' : b = e ∨ b = it := by simpa using hb
        rcases e' with z | z
        · subst z; exact hel
        · subst z; exact hil
      rw [upd_ne (Nat.ne_of_lt hb')]
      exact (hf b hb).1
  done := by
    intro X hP hw hK hc i pins s σ H E I hf st hg
    subst hP hw hK
    obtain ⟨⟨old, he⟩, hit⟩ := st
    obtain ⟨xs, hq, hx⟩ := hg
    obtain ⟨its, rv, p, hz⟩ := I.tuple hq
    obtain ⟨f0, f1, f2, f3, f4, f5⟩ := hf it (by simp)
    have hl := rv.length
    have hs : its.toArray.size = i := by rw [List.size_toArray]; omega
    have hit2 : s.heap.IsTupleIter it a its.toArray.size := by rw [hs]; exact hit
    exact wpAny_pyNext_enum_endD (Draws.tuple (A := X.A.in1) (show X.A.in1.handled = none from I.ok.hd hc) it a na its.toArray) he ⟨hit2, show s.heap.IsTuple a its.toArray from p⟩ fun h' eb => ⟨rfl, I.turned (t' := s.toks) (fun b o hb q => eb b o hb q) f0 f1 f3 f4 f5⟩
  self := fun A i s Q E st h => let ⟨⟨_, he⟩, _⟩ := st; wpAny_pyIter_enum he h
def iEnumT (K : PySem.W.Frag) (ta : TA) : TI := fun σ H R => ta σ H fun vs H1 => ∃ a xs, vs = [.ref a] ∧ SqT K H1 a xs ∧ R (IteT K a) H1
theorem pi_enumT {X : Cx} (K : PySem.W.Frag) {e : Expr} {ta : TA} {p pos tpos : Pos} {elts : List Expr} {kk : Nat} (hg : Gl X "enumerate") (hm : X.mg "enumerate" = none) (ha : PA X [e] ta) (hK : X.K = K := by rfl) (hs : starEach [e] X.env = [(false, eval e X.env)] := by rfl) :
    PI X (.Tuple elts kk tpos) (.Call (.Name "enumerate" p) [e] [] pos) (iEnumT K ta) := by
  subst hK
  refine ⟨fun pins s σ H R I h => ?_⟩
  refine Call_ (ld_blt I hg hm boot_enumerate (PyProof.Rows.callWith_type1 (thn (ha.run pos pins s σ H _ I h) fun us s1 ⟨vs, H1, I1, r1, q1⟩ => ?_) hs rfl))
  obtain ⟨a, xs, ex, hq, q⟩ := q1
  subst ex
  cases r1 with
  | cons r rr =>
    cases rr
    cases r
    obtain ⟨its, rv, p', hz⟩ := I1.tuple hq
    have hT : s1.heap.IsTuple a its.toArray := p'
    have hal : a < s1.heap.objs.size := by obtain ⟨_, g, _⟩ := hT; exact Heap.lt_size g
    refine call_enumT hT fun h' he hit hsz hk => wpAny_pyIter_enum he ?_
    have I2 : Inv X pins σ H1 { s1 with heap := h' } := I1.kept (t' := s1.toks) hk
    refine ⟨s1.heap.objs.size + 1, [s1.heap.objs.size + 1, s1.heap.objs.size], _, _, H1, rfl, I2, turn_enumT a (s1.heap.objs.size + 1) s1.heap.objs.size (Nat.succ_ne_self _) (Nat.ne_of_lt hal) (Nat.ne_of_gt (Nat.lt_succ_of_lt hal)), ⟨⟨.none, he⟩, hit⟩, fun b hb => ?_, q⟩
    have e' : b = s1.heap.objs.size + 1 ∨ b = s1.heap.objs.size := by simpa using hb
    have hle : s1.heap.objs.size ≤ b := by
      rcases e' with z | z
      · rw [z]; exact Nat.le_add_right _ _
      · rw [z]; exact Nat.le_refl _
    exact I1.fpOk hle (I1.hok.fresh hle)
theorem pgTup {X : Cx} (K : PySem.W.Frag) {es : List Expr} {k : Nat} {pos : Pos} {t : TGs} {n : Nat} (hc : X.calm = true) (h : PGs X es t) (hK : X.K = K := by rfl) (hn : (assignEach es X.env).length = n := by rfl)
    (hst : (assignEach es X.env).findIdx? (·.1) = none := by rfl) : PG X (.Tuple es k pos) (gTup K n t) := hK ▸ pg_tup hc h hn hst
section
variable {K : PySem.W.Frag} {Hk Hk' H H' : Hp} {O O' : Own} {ds : List SD} {σ : L2.St} {Q : SD → Own → Prop} {A : AE}
/-- for i, x in enumerate(t), t data -/
theorem s_forET {ta : TA} {j1 j2 : Nat} {tb : TS} (h : AvW K ta O ds fun rs O1 => ∃ es : List PyData, rs = [.dat (.tuple es)] ∧ ∃ I : Nat → Own → List SD → Prop, I 0 O1 ds ∧
    (∀ (i : Nat) d O2 ds2, es[i]? = some d → I i O2 ds2 → ∀ B : AE, Bdy I i A B → StW K tb O2 ((ds2.set j1 (iV (i : Int))).set j2 (.dat d)) B) ∧ ∀ O2 ds2, I es.length O2 ds2 → A.nx O2 ds2) :
    StW K (tFor (iEnumT K ta) (gTup K 2 (gCons (gName j1) (gCons (gName j2) gNil))) tb) O ds A := fun Hk σ H D p l =>
  h Hk σ H p _ fun vs rs O1 Hk1 H1 e1 h1 s1 q1 => by
    obtain ⟨es, rfl, I, h0, hs, hd⟩ := q1
    obtain ⟨v, rfl, hv⟩ := all1 s1
    cases (show Da Hk1 v (.tuple es) from hv) with
    | @tup a xs _ g1 g2 =>
      refine ⟨a, xs, rfl, .inl (.inl (h1.kn _ _ g1)), fun i m σ H => m = xs.length - i ∧ i ≤ xs.length ∧ ∃ O2 ds2 Hk2, Same Hk1 Hk2 ∧ Pt K Hk2 O2 ds2 σ H ∧ I i O2 ds2, ⟨xs.length, by simp, Nat.zero_le _, O1, ds, Hk1, Same.refl _, p.ext e1 h1, h0⟩, ?_⟩
      rintro i m σ' H' ⟨rfl, hi, O2, ds2, Hk2, e, p2, q⟩
      have sq : SqT K H' a xs := .inl (.inl (p2.hold.kn _ _ (e _ _ g1)))
      by_cases hlt : i < xs.length
      · have hx : xs[i]? = some xs[i] := List.getElem?_eq_getElem hlt
        refine .inr ⟨⟨xs, xs[i], sq, hx⟩, fun σ2 H2 => ∃ O3 ds3 Hk3, Same Hk1 Hk3 ∧ Pt K Hk3 O3 ds3 σ2 H2 ∧ I (i + 1) O3 ds3, fun σ2 H2 hN => ⟨xs.length - (i + 1), by omega, rfl, hlt, hN⟩, fun x H2 y => ?_⟩
        obtain ⟨T, x', rfl, nT, rfl, fx⟩ := y
        have ex : x' = xs[i] := by
          have := fx xs sq
          rw [hx] at this
          exact (Option.some.inj this).symm
        obtain ⟨d, hd1, hd2⟩ := g2.getV hx
        have smT : Same Hk2 (upd Hk2 T (.tup [.int (i : Nat), x'])) := same_new (p2.hold.kn.free nT)
        have p3 : Pt K (upd Hk2 T (.tup [.int (i : Nat), x'])) O2 ds2 σ' (upd H' T (.tup [.int (i : Nat), x'])) := p2.ext smT (p2.hold.know nT)
        refine ⟨T, [.int (i : Nat), x'], rfl, .inl (.inl upd_same), rfl, .int (i : Nat), [x'], rfl, x', [], rfl, rfl, ?_⟩
        have hdx : SDok K (upd Hk2 T (.tup [.int (i : Nat), x'])) x' (.dat d) := by
          have := Da.mono (e.trans smT) hd2
          rw [← ex] at this
          exact this
        have e4 := e.trans smT
        exact hs i d O2 ds2 hd1 q _ .mk' _ _ _ _ ((p3.set (j := j1) (r := iV (i : Int)) (.int _)).set (j := j2) hdx) ⟨fun O3 ds3 Hk3 σ3 H3 e3 p3 q3 => ⟨O3, ds3, Hk3, e4.trans e3, p3, q3⟩, l.rt.ext (e1.trans e4), l.nx.ext (e1.trans e4), fun O3 ds3 Hk3 σ3 H3 e3 p3 q3 => ⟨O3, ds3, Hk3, e4.trans e3, p3, q3⟩, l.xt.ext (e1.trans e4)⟩
      · have ei : i = xs.length := by omega
        refine .inl ⟨⟨xs, sq, ei.symm⟩, ?_⟩
        rw [ei, g2.length] at q
        exact l.nx O2 ds2 Hk2 σ' H' (e1.trans e) p2 (hd O2 ds2 q)
end
end Wk
namespace Wk
open PySem PySem.Spec PyProof.Rows L2
/-! ### the sum of a tuple -/
theorem sum_rawT {prog : Program} {w : World} {A : Around} {E : Value → Shared → Prop} {s : Shared} {l : Addr} {its : List Value} {ns : List Int} {Q : Value → Shared → Prop} (hh : A.handled = none) (hl : s.heap.IsTuple l its.toArray) (hi : IntsAre its ns)
    (h : ∀ h' tk t', (∀ b o, s.heap.get? b = some o → h'.get? b = some o) → Q (.int ns.sum t') { s with heap := h', toks := tk }) : wpAny (model prog w) A (call (.builtin "sum") [.ref l]) Q E s := by
  obtain ⟨xs, e⟩ := hi.allInts.items
  have hn : numsOf (intItems xs).toList = ns := by rw [← e]; exact hi.numsOf
  rw [nums_intItems] at hn
  rw [e] at hl
  refine PySem.W.ktm_sumG hh hl fun h' tk t' hk => ?_
  have := h h' tk t' hk
  rw [preSum_eq, List.take_of_length_le (by simp), hn]
  exact this
def rSumT (K : PySem.W.Frag) : List V → Hp → VK → Prop := fun vs H Q => ∃ (a : Addr) (ns : List Int), vs = [V.ref a] ∧ SqT K H a (ns.map V.int) ∧ Q (.int ns.sum) H
theorem cr_sumT {X : Cx} (hc : X.calm = true) : CallR X (.builtin "sum") (rSumT X.K) := by
  intro pins s σ H vs us Q I r h
  obtain ⟨a, ns, rfl, hs, q⟩ := h
  obtain ⟨its, rv, hl, _⟩ := I.tuple hs
  rw [Vals.ref1 r]
  exact sum_rawT (I.ok.hd hc) hl rv.ints fun h' tk t' hk => ⟨.int _, H, I.kept hk, ⟨_, rfl⟩, q⟩
section
variable {X : Cx} (K : PySem.W.Frag)
theorem kSumT (hc : X.calm = true) (h : X.K = K := by rfl) : CallR X (.builtin "sum") (rSumT K) := h ▸ cr_sumT hc
end
section
variable {K : PySem.W.Frag} {O : Own} {Q : SD → Own → Prop}
theorem g_sumT {ns : List Int} (q : Q (iV ns.sum) O) : CbW K (rSumT K) [.dat (tI ns)] O Q := fun Hk H h us hus Q' k => by
  obtain ⟨u, rfl, hu⟩ := all1 hus
  cases (show Da Hk u (.tuple (ns.map .int)) from hu) with
  | @tup a xs _ h1 h2 =>
    rw [h2.ints] at h1
    exact ⟨_, ns, rfl, .inl (.inl (h.kn _ _ h1)), k.now h (r := iV _) (.int _) q⟩
variable {x : SD} {es : List PyData}
theorem g_repO {k : Int} (l1 : Lst O x es) (h0 : k ≤ 1000) (h00 : -1000 ≤ k) (hz : es.length ≤ 1000) (q : ∀ l, Q (.ad l) ((l, .lst ((List.replicate k.toNat es).flatten.map .dat)) :: O)) : OpW K rRep x (iV k) O Q := fun Hk H h u v hu hv Q' kk => by
  obtain ⟨a, xs, rfl, h1, h2⟩ := l1.get h hu
  cases (show Da Hk v (.int k) from hv)
  refine ⟨_, k, xs, rfl, rfl, h1, by omega, by omega, ?_, fun l hf => kk.newO h hf (h2.rep _) q⟩
  rw [h2.length]
  have h3 : es.length * k.toNat ≤ 1000 * 1000 := Nat.mul_le_mul hz (by omega)
  exact Nat.le_trans h3 (by decide)
theorem at_snoc {α : Type} (xs : List α) (x : α) : atI (xs ++ [x]) (-1) = some x := by
  rw [at_last (d := x) (by simp), List.getD_eq_getElem?_getD, List.length_append, List.length_singleton, Nat.add_sub_cancel, List.getElem?_append_right (Nat.le_refl _), Nat.sub_self]
  rfl
end
end Wk
namespace Wk
open PySem PySem.Spec PyProof.Rows L2
/-! ### what is owned, seen as data for a while -/
section
variable {K : PySem.W.Frag} {Hk H H' : Hp} {O : Own} {ds : List SD} {Q : SD → Own → Prop} {x y : SD} {d e : PyData}
theorem Hold.grow (h : Hold K Hk O H) (s : Same H H') : Hold K Hk O H' := ⟨h.kn.trans s, fun p hp => ⟨by
    obtain ⟨h1, _⟩ := h.ow p hp
    obtain ⟨a, o⟩ := p
    cases o with
    | lst rs =>
      obtain ⟨vs, g1, g2⟩ := h1
      exact ⟨vs, s _ _ g1, g2⟩
    | dK kvs =>
      obtain ⟨vs, g1, g2⟩ := h1
      exact ⟨vs, s _ _ g1, g2⟩
    | tup kvs =>
      obtain ⟨vs, g1, g2⟩ := h1
      exact ⟨vs, s _ _ g1, g2⟩
    | lstX vs kvs =>
      obtain ⟨g1, g2⟩ := h1
      exact ⟨s _ _ g1, g2⟩, (h.ow p hp).2⟩, h.nd⟩
/-- the data that it reads as, now -/
def VD (K : PySem.W.Frag) (O : Own) (x : SD) (d : PyData) : Prop := ∀ (Hk H : Hp), Hold K Hk O H → ∀ u : V, SDok K Hk u x → Da H u d
inductive VDs (K : PySem.W.Frag) (O : Own) : List SD → List PyData → Prop
  | nil : VDs K O [] []
  | cons {x : SD} {d : PyData} {rs : List SD} {es : List PyData} : VD K O x d → VDs K O rs es → VDs K O (x :: rs) (d :: es)
theorem VD.kn : VD K O (.dat d) d := fun _ _ h _ hu => Da.mono h.kn hu
theorem VDs.kn : ∀ es : List PyData, VDs K O (es.map SD.dat) es
  | [] => .nil
  | _ :: r => .cons VD.kn (VDs.kn r)
theorem VDs.all {Hk H : Hp} (h : Hold K Hk O H) : ∀ {rs : List SD} {es : List PyData} {vs : List V}, VDs K O rs es → SDall K Hk vs rs → DaAll H vs es
  | _, _, _, .nil, .nil => .nil
  | _, _, _, .cons a r, .cons b s => .cons (a _ _ h _ b) (VDs.all h r s)
theorem VD.o {a : Addr} {rs : List SD} {es : List PyData} (hm : (a, OD.lst rs) ∈ O) (hv : VDs K O rs es) : VD K O (.ad a) (.list es) := fun Hk H h u hu => by
  obtain ⟨⟨vs, h1, h2⟩, _⟩ := h.ow _ hm
  cases (show u = .ref a from hu)
  exact .lst h1 (hv.all h h2)
theorem VD.o' {a : Addr} {rs : List SD} {es : List PyData} (hm : (a, OD.lst rs) ∈ O) (hd : Dats rs es) : VD K O (.ad a) (.list es) := by
  obtain rfl := hd.eq
  exact VD.o hm (VDs.kn es)
theorem o_eqW (v1 : VD K O x d) (v2 : VD K O y e) (h1 : plB 8 d = true) (h2 : plB 8 e = true) (q : ∀ b, (b = true ↔ d = e) → Q (bV b) O) : OpW K (rEqD K) x y O Q := fun Hk H h u v hu hv Q' k =>
  ⟨d, e, (v1 _ _ h _ hu).dp, (v2 _ _ h _ hv).dp, pl_shaped h1 (by decide), pl_shaped h2 (by decide), k.now h (r := bV _) (.bl _) (q _ (eqv_iff 8 d e h1 h2))⟩
theorem o_neW (v1 : VD K O x d) (v2 : VD K O y e) (h1 : plB 8 d = true) (h2 : plB 8 e = true) (q : ∀ b, (b = true ↔ d = e) → Q (bV (!b)) O) : OpW K (rNeD K) x y O Q := fun Hk H h u v hu hv Q' k =>
  ⟨d, e, (v1 _ _ h _ hu).dp, (v2 _ _ h _ hv).dp, pl_shaped h1 (by decide), pl_shaped h2 (by decide), k.now h (r := bV _) (.bl _) (q _ (eqv_iff 8 d e h1 h2))⟩
/-- [.. for x in xs if t], where the test says no to every one -/
theorem w_lcNone {tl : TE} {j : Nat} {tt : TT} {te : TE} (h : EvW K tl O ds fun r O1 => ∃ es : List PyData, VD K O1 r (.list es) ∧
    (∀ (i : Nat) (d : PyData) (Dl : Addr), es[i]? = some d → TvW K tt [(Dl, OD.lst [])] (ds.set j (.dat d)) fun b O3 => b = false ∧ O3 = [(Dl, OD.lst [])]) ∧ ∀ Dl, Q (.ad Dl) ((Dl, .lst []) :: O1)) : EvW K (tLc (iList K tl) (gName j) tt te [j]) O ds Q := fun Hk σ H p Q' k =>
  h Hk σ H p _ fun v r O1 Hk1 H1 e1 h1 s1 q1 => by
    obtain ⟨es, hv, hs, hd⟩ := q1
    cases (hv _ _ h1 _ s1) with
    | @lst a xs _ g1 g2 =>
    have h0 : Hold K H1 [] H1 := ⟨Same.refl _, fun _ h => absurd h List.not_mem_nil, List.nodup_nil⟩
    refine ⟨a, rfl, ⟨xs, .inl (.inl g1)⟩, fun Dl hf => lc_list (xs := xs) (fun i H => ∃ Hk2, Same H1 Hk2 ∧ Hold K Hk2 [(Dl, OD.lst [])] H)
      ⟨H1, Same.refl _, h0.own hf .nil⟩ (fun i H2 _ ⟨Hk2, e2, hh⟩ => .inl (.inl (hh.kn _ _ (e2 _ _ g1)))) (fun i x H2 hi hP => ?_) (fun H2 hP => ?_)⟩
    · obtain ⟨Hk2, e2, hh⟩ := hP
      obtain ⟨d, hd1, hd2⟩ := g2.getV hi
      have pp : Pt K Hk2 [] ds σ H2 := ⟨hh.sub (List.nil_sublist _), p.len, fun i r hr => (p.env i r hr).imp id fun ⟨v, a, b⟩ => ⟨v, a, b.mono (e1.trans (h1.kn.trans e2))⟩⟩
      refine lc_turn (d := .dat d) (acc := []) (O2 := []) (Dl := Dl) (P' := fun H => ∃ Hk2, Same H1 Hk2 ∧ Hold K Hk2 [(Dl, OD.lst [])] H) (I' := fun acc2 O3 => acc2 = [] ∧ O3 = []) ?_ (by decide) pp hh (Da.mono e2 hd2) ?_
      · intro Dl2 Hk3 σ3 H3 p3 Q3 k3
        refine hs i d Dl2 hd1 Hk3 σ3 H3 p3 Q3 fun b O3 Hk4 H4 e4 h4 q4 => k3 b O3 Hk4 H4 e4 h4 ⟨fun hb => ?_, fun hb => ?_⟩
        · rw [q4.1] at hb
          cases hb
        · rw [q4.2]
          exact ⟨[], .refl _, rfl, rfl⟩
      · rintro _ _ Hk3 H3 e3 hh3 ⟨rfl, rfl⟩
        exact ⟨Hk3, e2.trans e3, hh3⟩
    · obtain ⟨Hk2, e2, hh⟩ := hP
      have h5 := h1.own hf (rs := []) .nil
      refine k _ (.ad Dl) _ Hk1 H2 e1 (h5.grow fun b o hb => ?_) rfl (hd Dl)
      obtain ⟨⟨vs, g3, g4⟩, _⟩ := hh.ow _ List.mem_cons_self
      cases g4
      by_cases z : b = Dl
      · subst z
        rw [show upd H1 b (.lst []) b = some (.lst []) from by simp [upd]] at hb
        rw [← hb]
        exact g3
      · rw [show upd H1 Dl (.lst []) b = H1 b from by simp [upd, z]] at hb
        exact hh.kn _ _ (e2 _ _ hb)
end
end Wk
namespace Wk
open PySem PySem.Spec PyProof.Rows L2
/-! ### the greatest of a tuple -/
section
variable {prog : Program} {w : World} {A : Around} {E : Value → Shared → Prop} {s : Shared} {l : Addr}
theorem max_tupInts {xs : Array (Int × Tok)} {Q : Value → Shared → Prop} (hh : A.handled = none) (ht : s.heap.IsTuple l (intItems xs)) (hne : 0 < xs.size)
    (h : ∀ v h' tk, (intItems xs)[argBest (fun i j => decide (numAt xs i > numAt xs j)) (xs.size - 1)]? = some v → (∀ b o, s.heap.get? b = some o → h'.get? b = some o) → Q v { s with heap := h', toks := tk }) :
    wpAny (model prog w) A (call (.builtin "max") [.ref l]) Q E s := by
  obtain ⟨o, ho, hc, n, hd⟩ := id ht
  have hn2 : l ≠ s.heap.objs.size := Nat.ne_of_lt (Heap.lt_size ho)
  refine call_max_walk (wpAny_pyIter_tuple ht ?_)
  refine ⟨s.heap.objs.size, _, _, _, _, _, _, rfl, Walks.tuple (A := A.in1) hh s.heap.objs.size l hn2 (intItems xs), ⟨⟨_, Heap.get?_push_size _ rfl, rfl, rfl⟩, ht.at fun o e => Heap.get?_push_of_some _ e⟩, fun b hb => ?_, by simpa [intItems] using hne, CmpOf.ints_gt (numAt xs) (fun _ _ => intItems_at), fun v h' tk hP hk => ?_⟩
  · rcases List.mem_cons.mp hb with rfl | hb
    · exact Heap.lt_size (Heap.get?_push_size _ rfl)
    · obtain rfl := List.mem_singleton.mp hb
      exact Heap.lt_size (Heap.get?_push_of_some _ ho)
  · exact h v h' tk (by simpa [intItems] using hP) fun b o e => hk b o (fun hb => absurd (Heap.lt_size e) ((List.mem_singleton.mp hb) ▸ Nat.lt_irrefl _)) (Heap.get?_push_of_some _ e)
theorem max_rawT {its : List Value} {ns : List Int} {Q : Value → Shared → Prop} (hh : A.handled = none) (hl : s.heap.IsTuple l its.toArray) (hi : IntsAre its ns) (hne : 0 < ns.length)
    (h : ∀ h' tk M t', (∀ b o, s.heap.get? b = some o → h'.get? b = some o) → M ∈ ns → (∀ a, a ∈ ns → a ≤ M) → Q (.int M t') { s with heap := h', toks := tk }) : wpAny (model prog w) A (call (.builtin "max") [.ref l]) Q E s := by
  obtain ⟨xs, e⟩ := hi.allInts.items
  have hn : numsOf (intItems xs).toList = ns := by rw [← e]; exact hi.numsOf
  rw [nums_intItems] at hn
  subst hn
  rw [e] at hl
  have hsz : 0 < xs.size := by simpa using hne
  refine max_tupInts hh hl hsz fun v h' tk hv hk => ?_
  obtain ⟨t, rfl⟩ := intItems_at hv
  obtain ⟨h1, h2⟩ := argBest_gt (numAt xs) (xs.size - 1)
  refine h h' tk _ t hk ?_ fun a ha => ?_
  · rw [numAt_eq]; exact PySem.getD_mem (by rw [List.length_map, Array.length_toList]; omega)
  · obtain ⟨i, hi, rfl⟩ := List.mem_iff_getElem.mp ha
    have hi2 : i < xs.size := by simpa using hi
    have := h2 i (by omega)
    rw [numAt_eq xs i, List.getD_eq_getElem?_getD, List.getElem?_eq_getElem hi] at this
    exact this
end
def rMaxT (K : PySem.W.Frag) : List V → Hp → VK → Prop := fun vs H Q => ∃ (a : Addr) (ns : List Int), vs = [V.ref a] ∧ SqT K H a (ns.map V.int) ∧ 0 < ns.length ∧ ∀ m, m ∈ ns → (∀ y, y ∈ ns → y ≤ m) → Q (.int m) H
theorem cr_maxT {X : Cx} (hc : X.calm = true) : CallR X (.builtin "max") (rMaxT X.K) := by
  intro pins s σ H vs us Q I r h
  obtain ⟨a, ns, rfl, hs, hne, q⟩ := h
  obtain ⟨its, rv, hl, _⟩ := I.tuple hs
  rw [Vals.ref1 r]
  exact max_rawT (I.ok.hd hc) hl rv.ints hne fun h' tk m t' hk h1 h2 => ⟨.int _, H, I.kept hk, ⟨_, rfl⟩, q m h1 h2⟩
section
variable {X : Cx} (K : PySem.W.Frag)
theorem kMaxT (hc : X.calm = true) (h : X.K = K := by rfl) : CallR X (.builtin "max") (rMaxT K) := h ▸ cr_maxT hc
end
section
variable {K : PySem.W.Frag} {O : Own} {Q : SD → Own → Prop}
theorem g_maxT {ns : List Int} (hn : 0 < ns.length) (q : ∀ m, m ∈ ns → (∀ y ∈ ns, y ≤ m) → Q (iV m) O) : CbW K (rMaxT K) [.dat (tI ns)] O Q := fun Hk H h us hus Q' k => by
  obtain ⟨u, rfl, hu⟩ := all1 hus
  cases (show Da Hk u (.tuple (ns.map .int)) from hu) with
  | @tup a xs _ h1 h2 =>
    rw [h2.ints] at h1
    exact ⟨_, ns, rfl, .inl (.inl (h.kn _ _ h1)), hn, fun m hm hy => k.now h (r := iV m) (.int m) (q m hm hy)⟩
end
end Wk
namespace Wk
open PySem PySem.Spec PyProof.Rows L2
/-! ### a tuple, one time and more -/
theorem tuple_mul1 (l : Addr) (items : Array Value) (n : Nat) (dd : Option Addr) (sl : Array (Option Value)) (x : Int) (u : Tok) (c0 : (decide (x < -(2 ^ 63)) || decide (x ≥ 2 ^ 63)) = false) (c1 : (items.isEmpty || x == 1) = true) :
    Meets (Builtin.«tuple.__mul__» ⟨[.ref l, .int x u], []⟩) (fun _ R s => s.heap.get? l = some { cls := .type "tuple", dict := dd, data := .seq items n, slots := sl } ∧ R (.ok (.ret (Value.ref l))) s) :=
  .of_wp fun prog w A R s h => by
    obtain ⟨hp, g, d, tk, os⟩ := s
    obtain ⟨hl, h⟩ := h
    have f1 := AutoSeq1.idx_int
    wp_walk using wpAny_loadPart' hl
    repeat (first
      | (refine wpAny_ite_false (decide_eq_false (by rw [c0]; exact Bool.false_ne_true)) ?_; wp_walk using wpAny_loadPart' hl)
      | (refine wpAny_ite_true (decide_eq_true (by rw [c1])) ?_; wp_walk using wpAny_loadPart' hl))
    exact ⟨_, rfl, h⟩
def rRep1 (K : PySem.W.Frag) : R2 := fun x y H Q => rRepT K x y H Q ∨ ∃ l xs, x = .ref l ∧ y = .int 1 ∧ SqT K H l xs ∧ Q (.ref l) H
theorem op_rep1 {X : Cx} : OpR X (binaryOp .Mult) (rRep1 X.K) := by
  intro pins s σ H x y v u Q I rx ry h
  rcases h with h | h
  · exact op_repT pins s σ H x y v u Q I rx ry h
  obtain ⟨l, xs, rfl, rfl, hT, q⟩ := h
  cases rx
  obtain ⟨t, rfl⟩ := ry
  obtain ⟨its, r, ⟨⟨cls, dd, data, sl⟩, ho, hc, n, hd⟩, hs⟩ := I.tuple hT
  simp only at hc hd
  subst hc hd
  refine wpAny_binaryOp_repeat_ref (T := "tuple") (U := "int") (by decide) ⟨_, ho, rfl⟩ (fun s' => typeIs_int s' 1 t) noFill_tuple_mul F.fills_int_mul F.slot_int_rmul repeat_tuple F.slot_int_index.lookup
    (call_meets F.slot_int_rmul (typeIs_int s 1 t) F.entry_int_rmul (F.args_int_rmul_2 _ _) (int_rmul_tuple 1 t l its.toArray n dd sl)
      ⟨ho, rfl, ⟨_, ho, rfl⟩, call_meets F.slot_tuple_mul ⟨_, ho, rfl⟩ F.entry_tuple_mul (F.args_tuple_mul_2 _ _) (tuple_mul1 l its.toArray n dd sl 1 t (by decide) (by simp)) ⟨ho, ?_⟩⟩)
  exact ⟨.ref l, H, I.kept (t' := s.toks) (fun _ _ q => q), rfl, q⟩
section
variable {X : Cx} (K : PySem.W.Frag)
theorem kRep1 (h : X.K = K := by rfl) : OpR X (binaryOp .Mult) (rRep1 K) := h ▸ op_rep1
end
section
variable {K : PySem.W.Frag} {O : Own} {Q : SD → Own → Prop}
theorem rep_one {α : Type} (x : α) : ∀ n : Nat, (List.replicate n [x]).flatten = List.replicate n x
  | 0 => rfl
  | n + 1 => by
    rw [List.replicate_succ, List.flatten_cons, rep_one x n, List.replicate_succ]
    rfl
theorem g_rep1 {d : PyData} {k : Int} (h0 : 1 ≤ k) (h1 : k ≤ 1000) (q : Q (.dat (.tuple (List.replicate k.toNat d))) O) : OpW K (rRep1 K) (.dat (.tuple [d])) (iV k) O Q := fun Hk H h u v hu hv Q' kk => by
  cases (show Da Hk v (.int k) from hv)
  cases (show Da Hk u (.tuple [d]) from hu) with
  | @tup a xs _ g1 g2 =>
    by_cases e : k = 1
    · subst e
      exact .inr ⟨a, xs, rfl, rfl, .inl (.inl (h.kn _ _ g1)), kk.now h (r := .dat (.tuple [d])) (.tup g1 g2) q⟩
    · have hl : xs.length = 1 := g2.length
      refine .inl ⟨a, k, xs, rfl, rfl, .inl (.inl (h.kn _ _ g1)), (fun z => by rw [z] at hl; cases hl), by omega, h1, by omega, fun l hf => ?_⟩
      have sm := same_new (o := .tup (List.replicate k.toNat xs).flatten) (h.kn.free hf)
      refine kk _ (.dat (.tuple (List.replicate k.toNat d))) O _ _ sm (h.know hf) (.tup upd_same (DaAll.mono sm ?_)) q
      have e2 := g2.rep k.toNat
      rw [rep_one d] at e2
      exact e2
end
end Wk
namespace Wk
open PySem PySem.Spec PyProof.Rows L2
/-! ### errors: raised, let through, caught -/
/-- what is wanted of an error, met: W is told the slots too -/
def KonX (K : PySem.W.Frag) (Hk : Hp) (Qx : Addr → Option (Str × PyData) → Own → Prop) (E : XK) : Prop :=
  ∀ cls d C fs O2 Hk2 H2, Same Hk Hk2 → Hold K Hk2 O2 H2 → XDok Hk2 cls d C fs → Qx C fs O2 → E cls d H2
def KonW (K : PySem.W.Frag) (Hk : Hp) (Qs : Addr → Option (Str × PyData) → Own → List SD → Prop) (W : WX) : Prop :=
  ∀ cls d C fs σ O2 ds2 Hk2 H2, Same Hk Hk2 → Pt K Hk2 O2 ds2 σ H2 → XDok Hk2 cls d C fs → Qs C fs O2 ds2 → W cls d σ H2
/-- the promise of a def that may raise -/
def spX (K : PySem.W.Frag) (pre : List SD → Own → (SD → Own → Prop) → (Addr → Option (Str × PyData) → Own → Prop) → Prop) : Sp := fun vs H Q' E =>
  ∃ Hk O rs Q Qx, Hold K Hk O H ∧ SDall K Hk vs rs ∧ pre rs O Q Qx ∧ Kont K Hk Q Q' ∧ KonX K Hk Qx E
/-- an expression that may let an error out, to W -/
def EvX (K : PySem.W.Frag) (W : WX) (Qs : Addr → Option (Str × PyData) → Own → List SD → Prop) (t : TE) (O : Own) (ds : List SD) (Q : SD → Own → Prop) : Prop :=
  ∀ Hk σ H, Pt K Hk O ds σ H → KonW K Hk Qs W → ∀ Q' : VK, Kont K Hk Q Q' → t σ H Q'
section
variable {K : PySem.W.Frag} {Hk Hk' H H' : Hp} {O O' Oa : Own} {ds : List SD} {σ : L2.St} {Q : SD → Own → Prop} {Q' : VK} {x y : SD} {A : AE} {D : Ends} {t u : TS} {te : TE} {ta : TA} {W : WX}
  {Qs : Addr → Option (Str × PyData) → Own → List SD → Prop} {Qx : Addr → Option (Str × PyData) → Own → Prop} {preX : List SD → Own → (SD → Own → Prop) → (Addr → Option (Str × PyData) → Own → Prop) → Prop}
theorem KonX.ext {E : XK} (k : KonX K Hk Qx E) (e : Same Hk Hk') : KonX K Hk' Qx E := fun cls d C fs O2 Hk2 H2 e2 => k cls d C fs O2 Hk2 H2 (e.trans e2)
theorem KonW.ext (k : KonW K Hk Qs W) (e : Same Hk Hk') : KonW K Hk' Qs W := fun cls d C fs σ O2 ds2 Hk2 H2 e2 => k cls d C fs σ O2 ds2 Hk2 H2 (e.trans e2)
theorem x_of (h : EvW K te O ds Q) : EvX K W Qs te O ds Q := fun Hk σ H p _ Q' k => h Hk σ H p Q' k
theorem x_call (h : AvW K ta O ds fun rs O1 => preX rs O1 Q fun C fs O2 => Qs C fs O2 ds) : EvX K W Qs (tCallS (spX K preX) (WE W) ta) O ds Q := fun Hk σ H p kw Q' k =>
  h Hk σ H p _ fun vs rs O1 Hk1 H1 e1 h1 s1 q1 => ⟨Hk1, O1, rs, Q, _, h1, s1, q1, k.ext e1, fun cls d C fs O2 Hk2 H2 e2 h2 ok q => kw cls d C fs σ O2 ds Hk2 H2 (e1.trans e2) (p.ext (e1.trans e2) h2) ok q⟩
theorem sx_ret (hW : ∀ Hk, A.xt Hk → KonW K Hk Qs W) (h : EvX K W Qs te O ds A.rt) : StW K (tRet te) O ds A := fun Hk σ H D p l => h Hk σ H p (hW Hk (l.xt Hk (Same.refl _))) _ l.rt
theorem sx_asg {i : Nat} (hW : ∀ Hk, A.xt Hk → KonW K Hk Qs W) (h : EvX K W Qs te O ds fun r O1 => A.nx O1 (ds.set i r)) : StW K (tAsg te (gName i)) O ds A := fun Hk σ H D p l =>
  h Hk σ H p (hW Hk (l.xt Hk (Same.refl _))) _ fun v r O1 Hk1 H1 e1 h1 s1 q1 => l.nx O1 _ Hk1 _ H1 e1 ((p.ext e1 h1).set s1) q1
/-- a, b = e: a pair of data -/
def unp2 (te : TE) (K : PySem.W.Frag) (i j : Nat) : TS := tAsg te (gTup K 2 (gCons (gName i) (gCons (gName j) gNil)))
theorem unp2_go {i j : Nat} {d e : PyData} {v : V} {Hk1 H1 : Hp} {O1 : Own} (p1 : Pt K Hk1 O1 ds σ H1) (s1 : Da Hk1 v (.tuple [d, e])) (e1 : Same Hk Hk1) (l : Post K Hk A.nx D.nx) (q : A.nx O1 ((ds.set i (.dat d)).set j (.dat e))) :
    gTup K 2 (gCons (gName i) (gCons (gName j) gNil)) v σ H1 D.nx := by
  cases s1 with
  | @tup a xs _ h1 h2 =>
    cases h2 with
    | @cons v1 _ _ _ g1 r =>
      cases r with
      | @cons v2 _ _ _ g2 r =>
        cases r
        refine ⟨a, [v1, v2], rfl, .inl (.inl (p1.hold.kn _ _ h1)), rfl, v1, [v2], rfl, v2, [], rfl, rfl, ?_⟩
        exact l O1 _ Hk1 _ H1 e1 ((p1.set (j := i) (r := .dat d) g1).set (j := j) (r := .dat e) g2) q
theorem s_unp2 {i j : Nat} (h : EvW K te O ds fun r O1 => ∃ d e, r = .dat (.tuple [d, e]) ∧ A.nx O1 ((ds.set i (.dat d)).set j (.dat e))) : StW K (tAsg te (gTup K 2 (gCons (gName i) (gCons (gName j) gNil)))) O ds A := fun Hk σ H D p l =>
  h Hk σ H p _ fun v r O1 Hk1 H1 e1 h1 s1 q1 => by
    obtain ⟨d, e, rfl, q⟩ := q1
    exact unp2_go (p.ext e1 h1) s1 e1 l.nx q
theorem sx_unp2 {i j : Nat} (hW : ∀ Hk, A.xt Hk → KonW K Hk Qs W) (h : EvX K W Qs te O ds fun r O1 => ∃ d e, r = .dat (.tuple [d, e]) ∧ A.nx O1 ((ds.set i (.dat d)).set j (.dat e))) : StW K (tAsg te (gTup K 2 (gCons (gName i) (gCons (gName j) gNil)))) O ds A := fun Hk σ H D p l =>
  h Hk σ H p (hW Hk (l.xt Hk (Same.refl _))) _ fun v r O1 Hk1 H1 e1 h1 s1 q1 => by
    obtain ⟨d, e, rfl, q⟩ := q1
    exact unp2_go (p.ext e1 h1) s1 e1 l.nx q
/-! ### raise -/
/-- raise X('..'), X without an __init__ -/
def tRz (C : Addr) (W : WX) : TS := fun _ σ H => W (.ref C) none σ H
theorem s_rz {C : Addr} (hW : ∀ Hk, A.xt Hk → KonW K Hk Qs W) (q : Qs C none O ds) : StW K (tRz C W) O ds A := fun Hk σ H D p l =>
  hW Hk (l.xt Hk (Same.refl _)) (.ref C) none C none σ O ds Hk H (Same.refl _) p ⟨rfl, rfl⟩ q
/-- self.f = v of an exception that is being made: its __init__ -/
def spIni (C : Addr) (f : Str) : Sp := fun vs H Q _ => ∃ (a : Addr) (v : V), vs = [.ref a, v] ∧ H a = some (exo a C none) ∧ ∀ dx, H dx = none → dx ≠ a → Q .non (upd (upd H dx (exd dx [(f, v)])) a (exo a C (some dx)))
/-- raise X(e), X's __init__ keeps e as its field f -/
def tRzI (C : Addr) (f : Str) (W : WX) (ta : TA) : TS := fun _ σ H => tMkO C (spIni C f) [] ta σ H fun cls d H' => W cls d σ H'
theorem s_rzI {C : Addr} {f : Str} (hW : ∀ Hk, A.xt Hk → KonW K Hk Qs W) (h : AvW K ta O ds fun rs O1 => ∃ d, rs = [.dat d] ∧ Qs C (some (f, d)) O1 ds) : StW K (tRzI C f W ta) O ds A := fun Hk σ H D p l =>
  h Hk σ H p _ fun vs rs O1 Hk1 H1 e1 h1 s1 q1 => by
    obtain ⟨x, rfl, q⟩ := q1
    obtain ⟨v, rfl, hv⟩ := all1 s1
    refine ⟨Nat.le_of_ble_eq_true rfl, fun a ha => ⟨a, v, rfl, upd_same, fun dx hdx hne => ⟨rfl, dx, [(f, v)], upd_same, by rw [upd_ne hne]; exact upd_same, ?_, ?_⟩⟩⟩
    · rw [upd_ne hne] at hdx
      exact hdx
    · rw [upd_ne hne] at hdx
      have eH : upd (del (upd (upd (upd H1 a (exo a C none)) dx (exd dx [(f, v)])) a (exo a C (some dx))) a) dx (.xd [(f, v)]) = upd H1 dx (.xd [(f, v)]) := by
        funext b
        by_cases hb : b = dx
        · rw [hb, upd_same, upd_same]
        · rw [upd_ne hb, upd_ne hb]
          by_cases hba : b = a
          · rw [hba, del_same, ha]
          · rw [del_ne hba, upd_ne hba, upd_ne hb, upd_ne hba]
      rw [eH]
      have sm : Same Hk1 (upd Hk1 dx (.xd [(f, v)])) := same_new (h1.kn.free hdx)
      exact hW Hk (l.xt Hk (Same.refl _)) (.ref C) (some dx) C (some (f, x)) σ O1 ds _ _ (e1.trans sm) (p.ext (e1.trans sm) (h1.know hdx)) ⟨rfl, dx, v, rfl, upd_same, Da.mono sm hv⟩ q
/-! ### try .. except X as n -/
/-- try .. except X as n -/
def tTry (K : PySem.W.Frag) (c : Value) (i : Nat) (tb : WX → TS) (ts : Addr → Value → Option Addr → TS) (Wout : WX) : TS := fun D σ H => tb (wAs K c i ts Wout D) D σ H
theorem s_try {c : Value} {i : Nat} {tb : WX → TS} {ts : Addr → Value → Option Addr → TS} {Wout : WX} (Qs : Addr → Option (Str × PyData) → Own → List SD → Prop)
    (hb : ∀ W : WX, StW K (tb W) O ds { A with xt := fun Hk => KonW K Hk Qs W })
    (hs : ∀ C fs O2 ds2, Qs C fs O2 ds2 → PySem.W.exmOne K (.ref C) c = some true ∧ ∀ (a : Addr) (cls : Value) (d : Option Addr), ∀ B : AE,
      (∀ O3 ds3, A.nx O3 (ds3.set i .non) → B.nx O3 ds3) → (∀ r O3, A.rt r O3 → B.rt r O3) → (∀ O3 ds3, A.bk O3 (ds3.set i .non) → B.bk O3 ds3) → (∀ O3 ds3, A.ct O3 (ds3.set i .non) → B.ct O3 ds3) →
      StW K (ts a cls d) O2 (ds2.set i (.exc a cls d C fs)) B) : StW K (tTry K c i tb ts Wout) O ds A := fun Hk σ H D p l => by
  have setN : ∀ {Hk2 H2 : Hp} {σ2 : L2.St} {O2 : Own} {ds2 : List SD}, Pt K Hk2 O2 ds2 σ2 H2 → Pt K Hk2 O2 (ds2.set i .non) (σ2.set i none) H2 := fun {Hk2 H2 σ2 O2 ds2} p2 =>
    ⟨p2.hold, by rw [List.length_set, List.length_set, p2.len], fun j r hr => by
      by_cases hj : j = i
      · subst hj
        have hl : j < (ds2.set j SD.non).length := (List.getElem?_eq_some_iff.mp hr).1
        rw [List.length_set] at hl
        rw [List.getElem?_set_self hl] at hr
        cases hr
        exact .inl rfl
      · rw [List.getElem?_set_ne (Ne.symm hj)] at hr
        rw [List.getElem?_set_ne (Ne.symm hj)]
        exact p2.env j r hr⟩
  refine hb (wAs K c i ts Wout D) Hk σ H D p ⟨l.nx, l.rt, l.bk, l.ct, fun Hk' e' cls d C fs σ2 O2 ds2 Hk2 H2 e2 p2 ok q => ?_⟩
  obtain ⟨ec, hsu⟩ := hs C fs O2 ds2 q
  have ec2 := ok.1
  subst ec2
  refine ⟨true, ec, fun _ a ha => ?_, fun z => Bool.noConfusion z⟩
  have e := e'.trans e2
  refine hsu a (.ref C) d ⟨fun O3 ds3 => A.nx O3 (ds3.set i .non), A.rt, fun O3 ds3 => A.bk O3 (ds3.set i .non), fun O3 ds3 => A.ct O3 (ds3.set i .non), fun _ => True⟩ (fun _ _ z => z) (fun _ _ z => z) (fun _ _ z => z) (fun _ _ z => z)
    Hk2 _ H2 _ (p2.set (j := i) (r := .exc a (.ref C) d C fs) (v := .ref a) ⟨rfl, ok⟩) ⟨fun O3 ds3 Hk3 σ3 H3 e3 p3 q3 => l.nx O3 _ Hk3 _ H3 (e.trans e3) (setN p3) q3, l.rt.ext e, fun O3 ds3 Hk3 σ3 H3 e3 p3 q3 => l.bk O3 _ Hk3 _ H3 (e.trans e3) (setN p3) q3,
      fun O3 ds3 Hk3 σ3 H3 e3 p3 q3 => l.ct O3 _ Hk3 _ H3 (e.trans e3) (setN p3) q3, fun _ _ => True.intro⟩
/-- e.f of a caught error -/
theorem w_exc {i : Nat} {a C : Addr} {cls : Value} {d : Option Addr} {fs : Option (Str × PyData)} (h : ds[i]? = some (.exc a cls d C fs)) (q : Q (.exc a cls d C fs) O) : EvW K (tVar i) O ds Q := w_var h (fun z => nomatch z) q
theorem w_xf {a C : Addr} {cls : Value} {d : Option Addr} {f : Str} (h : EvW K te O ds fun r O1 => ∃ x, r = .exc a cls d C (some (f, x)) ∧ Q (.dat x) O1) : EvW K (tXf a cls d C f te) O ds Q := fun Hk σ H p Q' k =>
  h Hk σ H p _ fun v r O1 Hk1 H1 e1 h1 s1 q1 => by
    obtain ⟨x, rfl, q⟩ := q1
    obtain ⟨rfl, rfl, dd, v, rfl, g1, g2⟩ := s1
    exact ⟨rfl, rfl, dd, _, v, rfl, h1.kn _ _ g1, by simp [List.lookup], k _ (.dat x) O1 Hk1 H1 e1 h1 g2 q⟩
end
/-- isinstance(e, c), e a caught error (its own dict or none) -/
def rIsX (K : PySem.W.Frag) (a : Addr) (cls : Value) (d : Option Addr) : List V → Hp → VK → Prop := fun xs H Q => ∃ (C : Addr) (c : V) (cv : Value) (b : Bool), cls = .ref C ∧ ExcC K C ∧ (d = none ∨ ∃ dd fs, d = some dd ∧ H dd = some (.xd fs)) ∧ xs = [.ref a, c] ∧ (∀ u, RelV c u → u = cv) ∧ PySem.W.kitOne K (.ref C) cv = some b ∧ Q (.bl b) H
theorem any_isSome {K : PySem.W.Frag} {C : Addr} (h : PySem.W.hasDictIn K C = true) : (PySem.W.clsIn K C).isSome = true := by
  unfold PySem.W.hasDictIn at h
  cases e : PySem.W.clsIn K C with
  | none => rw [e] at h; cases h
  | some _ => rfl
theorem call_isX {X : Cx} {a : Addr} {cls : Value} {d : Option Addr} {oe : Obj} {pn : List (Addr × Obj)} (hz : Zc cls d oe) (hf : ∃ vs, oe.data = .fields vs) : CallR (X.suite a ((a, oe) :: pn)) (.builtin "isinstance") (rIsX X.K a cls d) := by
  intro pins s σ H xs us Q I r h
  obtain ⟨C, c, cv, b, rfl, T, hd, rfl, hcv, e, q⟩ := h
  cases r with
  | cons rx rr =>
    cases rr with
    | cons rt rr =>
      cases rr
      cases rx
      have ec := hcv _ rt
      subst ec
      obtain ⟨hget, _⟩ := I.pin (a, oe) (List.mem_append.mpr (.inl List.mem_cons_self))
      obtain ⟨vs, hv⟩ := hf
      have J : ∃ od, PySem.W.InstAt s.heap a oe C od := by
        rcases hd with hd | ⟨dd, fs, hd, hx⟩
        · refine ⟨none, hget, hz.1, by unfold PySem.W.notCls; rw [hv] <;> rfl, ?_⟩
          rw [hz.2, hd]
          trivial
        · have hx' : ObjOk X.prog X.w H s.heap dd (.xd fs) := I.hok dd _ hx
          obtain ⟨mA, hns, hr⟩ := hx'
          obtain ⟨od, ho, hl⟩ := lookIn_ns hns
          exact ⟨some od, hget, hz.1, by unfold PySem.W.notCls; rw [hv] <;> rfl, by rw [hz.2, hd]; exact ho⟩
      obtain ⟨od, J⟩ := J
      exact PySem.W.kia_one (PySem.W.kitx_exc (any_isSome T.hd) T.hg T.hk T.hs T.ha T.hn T.ht T.hm) I.kIn J e (fun z => nomatch z) fun tk => ⟨.bl b, H, I.kept (t' := tk) fun _ _ z => z, rfl, q⟩
section
variable {K : PySem.W.Frag} {O : Own} {Q : SD → Own → Prop} {ds : List SD} {A : AE}
theorem g_isX {a C C' : Addr} {cls : Value} {d : Option Addr} {fs : Option (Str × PyData)} {b : Bool} (T : ExcC K C) (e : PySem.W.kitOne K (.ref C) (.ref C') = some b) (q : Q (bV b) O) : CbW K (rIsX K a cls d) [.exc a cls d C fs, .ad C'] O Q := fun Hk H h us hus Q' k => by
  obtain ⟨u, v, rfl, hu, hv⟩ := all2 hus
  cases (show v = .ref C' from hv)
  obtain ⟨rfl, rfl, hx⟩ := hu
  refine ⟨C, .ref C', .ref C', b, rfl, T, ?_, rfl, fun u r => r, e, k.now h (r := bV _) (.bl _) q⟩
  cases fs with
  | none => exact .inl hx
  | some p =>
    obtain ⟨dd, v, h1, h2, h3⟩ := hx
    exact .inr ⟨dd, _, h1, h.kn _ _ h2⟩
theorem g_isXT {a C : Addr} {n : String} {cls : Value} {d : Option Addr} {fs : Option (Str × PyData)} {b : Bool} (T : ExcC K C) (e : PySem.W.kitOne K (.ref C) (.type n) = some b) (q : Q (bV b) O) : CbW K (rIsX K a cls d) [.exc a cls d C fs, .ty n] O Q := fun Hk H h us hus Q' k => by
  obtain ⟨u, v, rfl, hu, hv⟩ := all2 hus
  cases (show v = .ty n from hv)
  obtain ⟨rfl, rfl, hx⟩ := hu
  refine ⟨C, .ty n, .type n, b, rfl, T, ?_, rfl, fun u r => r, e, k.now h (r := bV _) (.bl _) q⟩
  cases fs with
  | none => exact .inl hx
  | some p =>
    obtain ⟨dd, v, h1, h2, h3⟩ := hx
    exact .inr ⟨dd, _, h1, h.kn _ _ h2⟩
/-! ### dicts that are known -/
/-- {'k': e} as data -/
theorem w_dic1 {f : Str} {tv : TE} (h : ∀ pn, EvW K tv ((pn, .dK []) :: O) ds fun r O1 => ∃ d Oa, r = .dat d ∧ O1 = (pn, .dK []) :: Oa ∧ Q (.dic [(.inr f, d)]) Oa) : EvW K (tDisp [(tC (.str f), tv)]) O ds Q := fun Hk σ H p Q' k pn hf => by
  have h0 := p.hold.ownG (p := pn) (o := .dK []) (x := .dK []) hf ⟨[], upd_same, rfl, .nil⟩
  show tv σ (upd H pn (.dK [])) _
  refine h pn Hk σ _ ⟨h0, p.len, p.env⟩ _ fun v r O1 Hk1 H1 e1 h1 s1 q1 => ?_
  obtain ⟨d, Oa, rfl, rfl, q⟩ := q1
  obtain ⟨⟨vs, g1, g2, g3⟩, g4⟩ := h1.ow (pn, .dK []) List.mem_cons_self
  have e0 : vs = [] := by
    cases vs with
    | nil => rfl
    | cons a b => cases g2
  subst e0
  refine ⟨g1, [(.inr f, v)], rfl, Nat.le_of_ble_eq_true rfl, ?_⟩
  show Q' (.ref pn) (upd H1 pn (.dK [(.inr f, v)]))
  have nd := h1.nd
  rw [List.map_cons, List.nodup_cons] at nd
  have sm : Same Hk1 (upd Hk1 pn (.dK [(.inr f, v)])) := same_new g4
  refine k _ (.dic [(.inr f, d)]) Oa (upd Hk1 pn (.dK [(.inr f, v)])) _ (e1.trans sm) ⟨fun b y e => ?_, fun q hq => ?_, nd.2⟩ ⟨pn, [(.inr f, v)], rfl, upd_same, rfl, .cons (Da.mono sm s1) .nil⟩ q
  · by_cases hb : b = pn
    · subst hb
      rw [upd_same] at e ⊢
      exact e
    · rw [upd_ne hb] at e ⊢
      exact h1.kn b y e
  · have ne : q.1 ≠ pn := fun z => nd.1 (z ▸ List.mem_map.mpr ⟨q, hq, rfl⟩)
    obtain ⟨h5, h6⟩ := h1.ow q (List.mem_cons_of_mem _ hq)
    exact ⟨h5.mono sm (upd_ne ne), by rw [upd_ne ne]; exact h6⟩
end
/-- one of two readings -/
def rOr (r r' : R2) : R2 := fun x y H Q => r x y H Q ∨ r' x y H Q
theorem op_or {X : Cx} {f : Value → Value → Sem Value} {r r' : R2} (h : OpR X f r) (h' : OpR X f r') : OpR X f (rOr r r') := by
  intro pins s σ H x y v u Q I rx ry z
  rcases z with z | z
  · exact h pins s σ H x y v u Q I rx ry z
  · exact h' pins s σ H x y v u Q I rx ry z
section
variable {K : PySem.W.Frag} {O : Own} {Q : SD → Own → Prop} {ds : List SD} {A : AE} {x y : SD} {r r' : R2}
theorem o_orL (h : OpW K r x y O Q) : OpW K (rOr r r') x y O Q := fun Hk H hh u v hu hv Q' k => .inl (h Hk H hh u v hu hv Q' k)
theorem o_orR (h : OpW K r' x y O Q) : OpW K (rOr r r') x y O Q := fun Hk H hh u v hu hv Q' k => .inr (h Hk H hh u v hu hv Q' k)
def flatD : PyData → Bool
  | .none => true | .bool _ => true | .int _ => true | .str _ => true | _ => false
theorem flat_of {H : Hp} {v : V} {d : PyData} (h : Da H v d) (hd : flatD d = true) : flatB v = true := by
  cases h <;> first | rfl | cases hd
/-- flat data is one thing -/
theorem flat_one {H : Hp} {v w : V} {d : PyData} (h : Da H v d) (h' : Da H w d) (hd : flatD d = true) : v = w := by
  cases h <;> first | (cases h'; rfl) | cases hd
/-- {'k': d} != {'k': d} -/
theorem o_neDic1 {f : Key} {d : PyData} (hd : flatD d = true) (q : Q (bV false) O) : OpW K rNeDA (.dic [(f, d)]) (.dic [(f, d)]) O Q := fun Hk H h u v hu hv Q' k => by
  obtain ⟨a, vs, rfl, g1, g2, g3⟩ := hu
  obtain ⟨b, ws, rfl, j1, j2, j3⟩ := hv
  match vs, ws, g2, j2, g3, j3 with
  | [(k1, v1)], [(k2, w1)], g2, j2, .cons g3 _, .cons j3 _ =>
    have e1 : k1 = f := by injection g2
    have e2 : k2 = f := by injection j2
    subst e1
    subst e2
    have e3 := flat_one g3 j3 hd
    have e3' : v1 = w1 := e3
    subst e3'
    refine ⟨a, b, _, _, rfl, rfl, h.kn _ _ g1, h.kn _ _ j1, rfl, fun p hp => ?_, k.now h (r := bV false) (.bl _) q⟩
    obtain rfl := List.mem_singleton.mp hp
    exact ⟨by simp [valV], flat_of g3 hd⟩
theorem i_Dic {kvs : List (Key × PyData)} {n : String} {b : Bool} (hb : kitB "dict" n = some b) (q : Q (bV b) O) : CbW K (rIsi K) [.dic kvs, .ty n] O Q := fun Hk H h us hus Q' k => by
  obtain ⟨u, v, rfl, hu, hv⟩ := all2 hus
  cases (show v = .ty n from hv)
  obtain ⟨a, vs, rfl, g1, g2, g3⟩ := hu
  exact ⟨_, .ty n, _, _, b, rfl, .ty n, .base (.dK (h.kn _ _ g1)), kit_ty hb, k.now h (r := bV _) (.bl _) q⟩
theorem w_vDic {i : Nat} {kvs : List (Key × PyData)} (h : ds[i]? = some (.dic kvs)) (q : Q (.dic kvs) O) : EvW K (tVar i) O ds Q := w_var h (fun z => nomatch z) q
end
end Wk
namespace Wk
open PySem PySem.Spec PyProof.Rows L2
/-! ### a def that may raise; the classes of errors -/
section
variable {P : Program} {w : World} {K : PySem.W.Frag} {mg : Str → Option Value} {base : Heap}
/-- the wish of a def's own errors -/
def wE (E : XK) : WX := fun cls d _ H => E cls d H
theorem KonX.toW {Hk : Hp} {Qx : Addr → Option (Str × PyData) → Own → Prop} {E : XK} (k : KonX K Hk Qx E) : KonW K Hk (fun C fs O _ => Qx C fs O) (wE E) := fun cls d C fs σ O2 ds2 Hk2 H2 e p ok q => k cls d C fs O2 Hk2 H2 e p.hold ok q
theorem fnx_ok {x qual : Str} {st : Stmt} {f : Addr} {fd : FuncData} {N ps : List Str} {k : Nat} {pre : List SD → Own → (SD → Own → Prop) → (Addr → Option (Str × PyData) → Own → Prop) → Prop} (F : Fun K x qual st f fd) (S : FnScope N ps (defScope st)) (len : ∀ rs O Q Qx, pre rs O Q Qx → rs.length = ps.length)
    (hbody : ∀ (cdv : Value) (A : Around) (outer : List Env) (s : Shared) (H : Hp) (E : XK), Room k (A.deeper (envOfC qual (defScope st) s.heap.objs.size f cdv)) →
      ∃ t, PSs (cxOf (L2.CX P w) P w K mg base N qual (defScope st) f cdv A outer s H E) (defBody st) t ∧ ∀ rs O Q Qx, pre rs O Q Qx →
        StW K t O (rs ++ List.replicate (N.length - rs.length) .non) ⟨fun O _ => Q (.dat .none) O, Q, fun _ _ => False, fun _ _ => False, fun Hk => KonW K Hk (fun C fs O _ => Qx C fs O) (wE E)⟩) :
    FnOk P w K mg base (L2.CX P w) (k + 1) f fd ps (spX K pre) :=
  F.okX S (fun vs H Q E ⟨Hk, O, rs, Q0, Qx, h, hv, hp, kk, kx⟩ => by rw [hv.length]; exact len rs O Q0 Qx hp) fun cdv A outer s H vs Q E hr ⟨Hk, O, rs, Q0, Qx, h, hv, hp, kk, kx⟩ => by
    obtain ⟨t, ht, hs⟩ := hbody cdv A outer s H E hr
    exact ⟨t, ht, hs rs O Q0 Qx hp Hk _ H _ (start_pt h hv) ⟨fun O2 ds2 Hk2 σ2 H2 e p2 q => kk _ (.dat .none) O2 Hk2 H2 e p2.hold .non q, kk, fun O2 ds2 Hk2 σ2 H2 e p2 q => q.elim, fun O2 ds2 Hk2 σ2 H2 e p2 q => q.elim, fun Hk2 e2 => (kx.ext e2).toW⟩⟩
def CalleeX (P : Program) (w : World) (K : PySem.W.Frag) (mg : Str → Option Value) (base : Heap) (x : Str) (ps : List Str) (k : Nat) (pre : List SD → Own → (SD → Own → Prop) → (Addr → Option (Str × PyData) → Own → Prop) → Prop) : Prop :=
  ∃ f fd, FnOk P w K mg base (L2.CX P w) k f fd ps (spX K pre) ∧ mg x = some (.ref f) ∧ PySem.W.keepIn K (.ref f) = true ∧ Binds K fd ps [] ∧ ∃ oc od sl, K.lookup f = some ⟨oc, od, .func fd, sl⟩
end
/-- a class of errors of the program -/
structure ExS (K : PySem.W.Frag) (mg : Str → Option Value) (x : Str) (C : Addr) : Prop where
  g : mg x = some (.ref C)
  k : PySem.W.keepIn K (.ref C) = true
  is : ExcC K C
  ty : PySem.W.typeIn K (.ref C) = some (.type "type")
theorem ExS.names {K : PySem.W.Frag} {mg : Str → Option Value} {x : Str} {C : Addr} (E : ExS K mg x C) {X : Cx} (hm : X.mg = mg) (hg : Gl X x) (hd : (x == ("__debug__" : Str)) = false) : Names X x (.ref C) := ⟨hg, hd, .inl (by rw [hm]; exact E.g)⟩
theorem ExS.xf {K : PySem.W.Frag} {mg : Str → Option Value} {x : Str} {C : Addr} (E : ExS K mg x C) : XfC K C := ⟨E.is.hg, E.is.hk, E.is.hs, E.is.hd⟩
theorem ExS.exm {K : PySem.W.Frag} {mg : Str → Option Value} {x : Str} {C : Addr} (E : ExS K mg x C) {cls : Value} {b : Bool} (h : PySem.W.subIn K cls (.ref C) = some b) : PySem.W.exmOne K cls (.ref C) = some b := PySem.W.exm_ref E.is.hs E.is.hd E.ty h
abbrev veAll : List Value := [.type "ValueError", .type "Exception", .type "BaseException", .type "object"]
structure ExN (K : PySem.W.Frag) (mg : Str → Option Value) (x : Str) (C : Addr) : Prop where
  s : ExS K mg x C
  ex : PySem.W.excIn K C veAll "ValueError.__new__" = true
/-- .. with an __init__ that keeps its argument as the field f -/
structure ExI (P : Program) (w : World) (K : PySem.W.Frag) (mg : Str → Option Value) (base : Heap) (x f : Str) (C : Addr) : Prop where
  s : ExS K mg x C
  o : OexC K C
  no : PySem.W.findIn K (.ref C) f = some none
  ic : ∃ fI fd, PySem.W.findIn K (.ref C) "__init__" = some (some (.ref fI)) ∧ PySem.W.typeIn K (.ref fI) = some (.type "function") ∧ FnOk P w K mg base CX0 1 fI fd ["self", f] (spIni C f) ∧ Binds K fd ["self", f] []
theorem ini_ok {P : Program} {w : World} {K : PySem.W.Frag} {mg : Str → Option Value} {base : Heap} {x qual f : Str} {st : Stmt} {fI C : Addr} {fd : FuncData} (T : OexC K C) (no : PySem.W.findIn K (.ref C) f = some none) (F : Fun K x qual st fI fd) (S : FnScope ["self", f] ["self", f] (defScope st))
    (hb : ∀ (cdv : Value) (A : Around) (outer : List Env) (s : Shared) (H : Hp) (E : XK), PSs (cxOf CX0 P w K mg base ["self", f] qual (defScope st) fI cdv A outer s H E).nox (defBody st) (tOst K f (tVar 0) (tVar 1))) : FnOk P w K mg base CX0 1 fI fd ["self", f] (spIni C f) :=
  F.ok (k := 0) S (fun vs H Q E ⟨a, v, e, _⟩ => by rw [e]; rfl) fun cdv A outer s H vs Q E hr ⟨a, v, e, ha, k⟩ => by
    subst e
    exact ⟨_, hb cdv A outer s H E, v, rfl, .ref a, rfl, a, C, rfl, T, no, .inl ⟨ha, fun dx h1 h2 => k dx h1 h2⟩⟩
section
variable {X : Cx} {K : PySem.W.Frag} {W : WX}
theorem psRz {x m : Str} {j : Nat} {p p2 pos pos2 : Pos} {C : Addr} (T : ExN K X.mg x C) (hc : X.calm = true) (tk : Takes X W) (hg : Gl X x) (hK : X.K = K := by rfl) (hdb : (x == ("__debug__" : Str)) = false := by decide) :
    PS X (.Raise (some (.Call (.Name x p) [.Constant (.str m) j p2] [] pos)) none pos2) (tRz C W) := by
  subst hK
  exact ps_raise hc tk (pmk_own PySem.F.excBase_ValueError T.ex T.s.g T.s.k (raises_own T.s.is.hs T.s.ty) hg hdb)
theorem psRzI {x f : Str} {e : Expr} {p pos pos2 : Pos} {C : Addr} {ta : TA} (T : ExI X.prog X.w K X.mg X.base x f C) (hc : X.calm = true) (tk : Takes X W) (hr : Room 2 X.A) (hg : Gl X x) (ha : PA X [e] ta) (hK : X.K = K := by rfl) (hdb : (x == ("__debug__" : Str)) = false := by decide)
    (he : starEach [e] X.env = (false, eval e X.env) :: starEach [] X.env := by rfl) (hpl : (backTo pos (starEach [] X.env)).any (·.1) = false := by rfl) :
    PS X (.Raise (some (.Call (.Name x p) [e] [] pos)) none pos2) (tRzI C f W ta) := by
  subst hK
  obtain ⟨fI, fd, h1, h2, h3, h4⟩ := T.ic
  exact ps_raise hc tk (pmk_oex T.o h1 h2 h3 hr h4 .nil pass0 hg T.s.g ha hdb he hpl)
theorem psTry {x n : Str} {C : Addr} {i : Nat} {body suite : List Stmt} {b₀ : Stmt} {np pos pos' : Pos} {tb : WX → TS} {ts : Addr → Value → Option Addr → TS} {Wout : WX}
    (hb : ∀ (W : WX) (pn : List (Addr × Obj)) (xe : Value → Shared → Prop), Takes (X.tr pn xe) W → PSs (X.tr pn xe) body (tb W))
    (hsu : ∀ (a : Addr) (oe : Obj) (cls : Value) (d : Option Addr) (pn : List (Addr × Obj)), Zc cls d oe → (∃ vs, oe.data = .fields vs) → PSs (X.suite a ((a, oe) :: pn)) (b₀ :: suite) (ts a cls d))
    (hs : X.stack = X.env :: X.outer) (hf : X.env.frame = some X.env.locals) (hN : X.N.Nodup) (hi : X.N[i]? = some n) (hln : X.env.kindOf n = some .local) (hc : Names X x (.ref C)) (tk : Takes X Wout) (hK : X.K = K := by rfl) :
    PS X (.Try body [.ExceptHandler (some (.Name x np)) (some n) (b₀ :: suite) pos'] [] [] pos) (tTry K (.ref C) i tb ts Wout) := by
  subst hK
  exact ps_try_as hs hf hN hi hln hc tk (fun W pn xe t _ => hb W pn xe t) hsu
theorem kIsX {a : Addr} {cls : Value} {d : Option Addr} {oe : Obj} {pn : List (Addr × Obj)} (hz : Zc cls d oe) (hf : ∃ vs, oe.data = .fields vs) (hK : X.K = K := by rfl) : CallR (X.suite a ((a, oe) :: pn)) (.builtin "isinstance") (rIsX K a cls d) := by
  subst hK
  exact call_isX hz hf
theorem psXf {a C : Addr} {oe : Obj} {cls : Value} {d : Option Addr} {pn : List (Addr × Obj)} {e : Expr} {te : TE} {pos : Pos} {n x : Str} {mg : Str → Option Value} (T : ExS K mg x C) (hno : PySem.W.findIn K (.ref C) n = some none)
    (hz : Zc cls d oe) (hf : ∃ vs, oe.data = .fields vs) (he : PE (X.suite a ((a, oe) :: pn)) e te) (hK : X.K = K := by rfl) (hb : attributeBase e n X.env (eval e X.env) = eval e X.env := by rfl) :
    PE (X.suite a ((a, oe) :: pn)) (.Attribute e n pos) (tXf a cls d C n te) := by
  subst hK
  exact pe_xf T.xf hno hz hf he hb
end
end Wk
namespace Wk
open PySem PySem.Spec PyProof.Rows L2
/-! ### what is owned, said otherwise; tuples that hold what is owned; a loop over an owned list -/
def Cv (K : PySem.W.Frag) (O O' : Own) : Prop := ∀ Hk H, Hold K Hk O H → ∃ Hk', Same Hk Hk' ∧ Hold K Hk' O' H
section
variable {K : PySem.W.Frag} {Hk Hk' H H' : Hp} {O O' Oa : Own} {ds : List SD} {σ : L2.St} {Q : SD → Own → Prop} {Q' : VK} {x y : SD} {A : AE} {D : Ends} {t u : TS} {te : TE} {ta : TA} {d e : PyData}
theorem Cv.refl : Cv K O O := fun Hk H h => ⟨Hk, Same.refl _, h⟩
theorem Cv.trans {O2 : Own} (a : Cv K O O') (b : Cv K O' O2) : Cv K O O2 := fun Hk H h => by
  obtain ⟨Hk1, e1, h1⟩ := a Hk H h
  obtain ⟨Hk2, e2, h2⟩ := b Hk1 H h1
  exact ⟨Hk2, e1.trans e2, h2⟩
theorem Cv.perm (s : O.Perm O') : Cv K O O' := fun Hk H h => ⟨Hk, Same.refl _, h.perm s⟩
theorem Cv.sub (s : List.Sublist O' O) : Cv K O O' := fun Hk H h => ⟨Hk, Same.refl _, h.sub s⟩
theorem w_cv (h : EvW K te O ds fun r O1 => ∃ O2, Cv K O1 O2 ∧ Q r O2) : EvW K te O ds Q := fun Hk σ H p Q' k =>
  h Hk σ H p _ fun v r O1 Hk1 H1 e1 h1 s1 q1 => by
    obtain ⟨O2, c, q⟩ := q1
    obtain ⟨Hk2, e2, h2⟩ := c Hk1 H1 h1
    exact k v r O2 Hk2 H1 (e1.trans e2) h2 (s1.mono e2) q
theorem s_cv (c : Cv K O O') (h : StW K t O' ds A) : StW K t O ds A := fun Hk σ H D p l => by
  obtain ⟨Hk2, e2, h2⟩ := c Hk H p.hold
  exact h Hk2 σ H D (p.ext e2 h2) (l.ext e2)
theorem SDall.split : ∀ {us : List SD} {vs : List V} {ws : List SD}, SDall K Hk vs (us ++ ws) → ∃ v1 v2, vs = v1 ++ v2 ∧ SDall K Hk v1 us ∧ SDall K Hk v2 ws
  | [], vs, ws, h => ⟨[], vs, rfl, .nil, h⟩
  | u :: us, _, ws, h => by
    rw [List.cons_append] at h
    cases h with
    | cons a r =>
      obtain ⟨v1, v2, rfl, h1, h2⟩ := SDall.split r
      exact ⟨_ :: v1, v2, rfl, .cons a h1, h2⟩
/-- an owned list of data within an owned list becomes data -/
theorem Cv.frzIn {c a : Addr} {us ws rs : List SD} {es : List PyData} (hd : Dats rs es) : Cv K ((c, .lst (us ++ .ad a :: ws)) :: (a, .lst rs) :: O) ((c, .lst (us ++ .dat (.list es) :: ws)) :: O) := fun Hk H h => by
  obtain rfl := hd.eq
  obtain ⟨Hk2, e2, h2, d2⟩ := (h.perm (.swap ..)).freeze
  obtain ⟨⟨vs, g1, g2⟩, _⟩ := h2.ow _ List.mem_cons_self
  obtain ⟨v1, v2, rfl, s1, s2⟩ := g2.split
  cases s2 with
  | cons s3 s4 =>
    cases (show _ = V.ref a from s3)
    exact ⟨Hk2, e2, h2.tell ⟨_, g1, s1.append (.cons d2 s4)⟩⟩
/-- a tuple that holds what is owned -/
theorem w_tupO (h : AvW K ta O ds fun rs O1 => rs.length ≤ sizeLine ∧ ∀ l, Q (.ad l) ((l, .tup rs) :: O1)) : EvW K (tTup ta) O ds Q := fun Hk σ H p Q' k =>
  h Hk σ H p _ fun vs rs O1 Hk1 H1 e1 h1 s1 q1 => by
    obtain ⟨hl, q⟩ := q1
    exact ⟨by rw [s1.length]; exact hl, fun l hp => k _ (.ad l) _ Hk1 _ e1 (h1.ownG (x := .tup rs) hp ⟨vs, upd_same, s1⟩) rfl (q l)⟩
theorem o_ixTO {a : Addr} {rs : List SD} {i : Int} {d : SD} (hm : (a, OD.tup rs) ∈ O) (ha : atI rs i = some d) (q : Q d O) : OpW K (rIxT K) (.ad a) (iV i) O Q := fun Hk H h u v hu hv Q' k => by
  cases (show Da Hk v (.int i) from hv)
  cases (show u = .ref a from hu)
  obtain ⟨⟨vs, h1, h2⟩, _⟩ := h.ow _ hm
  obtain ⟨j, e1, e2⟩ := atI_get ha
  obtain ⟨w, g1, g2⟩ := h2.get e2
  exact ⟨a, vs, i, w, rfl, rfl, .inl (.inl h1), atI_of (by rw [h2.length]; exact e1) g1, k.now h g2 q⟩
theorem i_TO {a : Addr} {rs : List SD} {n : String} {b : Bool} (hm : (a, OD.tup rs) ∈ O) (hb : kitB "tuple" n = some b) (q : Q (bV b) O) : CbW K (rIsi K) [.ad a, .ty n] O Q := fun Hk H h us hus Q' k => by
  obtain ⟨u, v, rfl, hu, hv⟩ := all2 hus
  cases (show v = .ty n from hv)
  cases (show u = .ref a from hu)
  obtain ⟨⟨vs, h1, h2⟩, _⟩ := h.ow _ hm
  exact ⟨_, .ty n, _, _, b, rfl, .ty n, .base (.tup h1), kit_ty hb, k.now h (r := bV _) (.bl _) q⟩
theorem VD.ot {a : Addr} {rs : List SD} {es : List PyData} (hm : (a, OD.tup rs) ∈ O) (hv : VDs K O rs es) : VD K O (.ad a) (.tuple es) := fun Hk H h u hu => by
  obtain ⟨⟨vs, h1, h2⟩, _⟩ := h.ow _ hm
  cases (show u = .ref a from hu)
  exact .tup h1 (hv.all h h2)
/-- [e for x in xs if t] over an owned list -/
theorem w_lcX {tl : TE} {j : Nat} {tt : TT} {te : TE} (h : EvW K tl O ds fun r O1 => ∃ a rs Oa, r = .ad a ∧ O1.Perm ((a, OD.lst rs) :: Oa) ∧ rs.length ≤ 1000000 ∧ ∀ vs : List V, ∃ I : Nat → List SD → Own → Prop, I 0 [] ((a, .lstX vs rs) :: Oa) ∧
    (∀ i acc O2, I i acc O2 → (a, OD.lstX vs rs) ∈ O2) ∧
    (∀ (i : Nat) r acc O2, rs[i]? = some r → acc.length ≤ i → I i acc O2 → LcTurn K tt te O2 (ds.set j r) acc (I (i + 1))) ∧ ∀ acc O2 Dl, I rs.length acc O2 → ∃ Ob, O2.Perm ((a, OD.lstX vs rs) :: Ob) ∧ Q (.ad Dl) ((Dl, .lst acc) :: (a, .lst rs) :: Ob)) : EvW K (tLc (iList K tl) (gName j) tt te [j]) O ds Q := fun Hk σ H p Q' k =>
  h Hk σ H p _ fun v rs O1 Hk1 H1 e1 h1' s1 q1 => by
    obtain ⟨a, rs, Oa, rfl, hp, hn, q1⟩ := q1
    cases (show v = .ref a from s1)
    have h1 := h1'.perm hp
    obtain ⟨⟨xs, g1, g2⟩, _⟩ := h1.ow _ List.mem_cons_self
    obtain ⟨I, h0, hin, hs, hd⟩ := q1 xs
    have h2 : Hold K Hk1 ((a, .lstX xs rs) :: Oa) H1 := h1.tell ⟨g1, g2⟩
    have seq : ∀ {acc : List SD} {O2 : Own} {Hk2 H2 : Hp} {i : Nat} {Dl : Addr}, Hold K Hk2 ((Dl, OD.lst acc) :: O2) H2 → I i acc O2 → H2 a = some (.lst xs) ∧ SDall K Hk2 xs rs := fun {acc O2 Hk2 H2 i Dl} hh q => (hh.ow _ (List.mem_cons_of_mem _ (hin _ _ _ q))).1
    refine ⟨a, rfl, ⟨xs, .inl (.inl g1)⟩, fun Dl hf => lc_list (xs := xs) (fun i H => ∃ acc O2 Hk2, Same Hk1 Hk2 ∧ acc.length ≤ i ∧ Hold K Hk2 ((Dl, OD.lst acc) :: O2) H ∧ I i acc O2)
      ⟨[], _, Hk1, Same.refl _, Nat.le_refl _, h2.own hf .nil, h0⟩ (fun i H2 _ ⟨acc, O2, Hk2, e2, hl, hh, q⟩ => .inl (.inl (seq hh q).1)) (fun i x H2 hi hP => ?_) (fun H2 hP => ?_)⟩
    · obtain ⟨acc, O2, Hk2, e2, hl, hh, q⟩ := hP
      have sa := (seq hh q).2
      obtain ⟨r, hr1⟩ : ∃ r, rs[i]? = some r := by
        have hlt := (List.getElem?_eq_some_iff.mp hi).1
        exact ⟨_, List.getElem?_eq_getElem (by rw [← sa.length]; exact hlt)⟩
      obtain ⟨w, hw1, hw2⟩ := sa.get hr1
      rw [hi] at hw1
      cases hw1
      have hlt := (List.getElem?_eq_some_iff.mp hr1).1
      have hz : acc.length < sizeLine := Nat.lt_of_lt_of_le (show acc.length < 1000001 by omega) (by decide)
      have ht := hs i r acc O2 hr1 hl q
      refine lc_turn (d := r) (P' := fun H => ∃ acc2 O3 Hk2, Same Hk1 Hk2 ∧ acc2.length ≤ i + 1 ∧ Hold K Hk2 ((Dl, OD.lst acc2) :: O3) H ∧ I (i + 1) acc2 O3) (I' := fun acc2 O3 => acc2.length ≤ i + 1 ∧ I (i + 1) acc2 O3) ?_ hz ((p.ext e1 h1').ext e2 (hh.sub (List.sublist_cons_self ..))) hh hw2 fun acc2 O3 Hk3 H3 e3 h3 q3 => ⟨acc2, O3, Hk3, e2.trans e3, q3.1, h3, q3.2⟩
      intro Dl2 Hk3 σ3 H3 p3 Q3 k3
      refine ht Dl2 Hk3 σ3 H3 p3 Q3 fun b O3 Hk4 H4 e4 h4 q4 => k3 b O3 Hk4 H4 e4 h4 ⟨fun hb => w_mono (q4.1 hb) fun r O4 ⟨O5, hp, q5⟩ => ⟨O5, hp, by rw [List.length_append]; simp; omega, q5⟩, fun hb => ?_⟩
      obtain ⟨O5, hp, q5⟩ := q4.2 hb
      exact ⟨O5, hp, by omega, q5⟩
    · obtain ⟨acc, O2, Hk2, e2, hl, hh, q⟩ := hP
      have sa := (seq hh q)
      rw [sa.2.length] at q
      obtain ⟨Ob, hp2, q2⟩ := hd acc O2 Dl q
      have h3 := (hh.perm (hp2.cons (Dl, OD.lst acc))).perm (.swap ..)
      exact k _ (.ad Dl) _ Hk2 H2 (e1.trans e2) ((h3.tell (y := .lst rs) ⟨xs, sa.1, sa.2⟩).perm (.swap ..)) rfl q2
end
end Wk
namespace Wk
open PySem PySem.Spec PyProof.Rows L2
section
variable {K : PySem.W.Frag} {Hk Hk' H H' : Hp} {O O' Oa : Own} {ds : List SD} {σ : L2.St} {Q : SD → Own → Prop} {Q' : VK} {x y : SD} {A : AE} {D : Ends} {t u : TS} {te : TE} {ta : TA} {W : WX}
  {Qs : Addr → Option (Str × PyData) → Own → List SD → Prop}
/-- for x in range(lo, hi, -1) -/
theorem s_for3N {ta : TA} {j : Nat} {tb : TS} (h : AvW K ta O ds fun rs O1 => ∃ lo hi : Int, rs = [iV lo, iV hi, iV (-1)] ∧ (-(2 ^ 62) ≤ lo ∧ lo < 2 ^ 62 ∧ -(2 ^ 62) ≤ hi ∧ hi < 2 ^ 62) ∧ ∃ I : Nat → Own → List SD → Prop, I 0 O1 ds ∧
    (∀ (i : Nat) O2 ds2, hi + (i : Int) < lo → I i O2 ds2 → ∀ B : AE, Bdy I i A B → StW K tb O2 (ds2.set j (iV (lo - (i : Int)))) B) ∧ ∀ O2 ds2, I (lo - hi).toNat O2 ds2 → A.nx O2 ds2) : StW K (tFor (iRng3 ta) (gName j) tb) O ds A := fun Hk σ H D p l =>
  h Hk σ H p _ fun vs rs O1 Hk1 H1 e1 h1 s1 q1 => by
    obtain ⟨lo, hi, rfl, ⟨b1, b2, b3, b4⟩, I, h0, hs, hd⟩ := q1
    cases s1 with
    | @cons v1 _ _ _ g1 r =>
      cases r with
      | @cons v2 _ _ _ g2 r =>
        cases r with
        | @cons v3 _ _ _ g3 r =>
          cases r
          cases (show Da Hk1 v1 (.int lo) from g1)
          cases (show Da Hk1 v2 (.int hi) from g2)
          cases (show Da Hk1 v3 (.int (-1)) from g3)
          have p1 := p.ext e1 h1
          have l1 := l.ext e1
          refine ⟨lo, hi, -1, (lo - hi).toNat, rfl, RgC.neg b1 b2 b3 b4, for_rangeC (fun i σ H => ∃ O2 ds2 Hk2, Same Hk1 Hk2 ∧ Pt K Hk2 O2 ds2 σ H ∧ I i O2 ds2) ⟨O1, ds, Hk1, Same.refl _, p1, h0⟩
            (fun i σ' H' hi' ⟨O2, ds2, Hk2, e, p2, q⟩ => ?_) (fun σ' H' ⟨O2, ds2, Hk2, e, p2, q⟩ => l1.nx O2 ds2 Hk2 σ' H' e p2 (hd O2 ds2 q))⟩
          have ev : lo + ((i : Nat) : Int) * -1 = lo - (i : Int) := by omega
          rw [ev]
          exact hs i O2 ds2 (by omega) q _ .mk' Hk2 _ H' _ (p2.set (r := iV (lo - (i : Int))) (.int _))
            ⟨fun O3 ds3 Hk3 σ3 H3 e3 p3 q3 => ⟨O3, ds3, Hk3, e.trans e3, p3, q3⟩, l1.rt.ext e, l1.nx.ext e, fun O3 ds3 Hk3 σ3 H3 e3 p3 q3 => ⟨O3, ds3, Hk3, e.trans e3, p3, q3⟩, l1.xt.ext e⟩
/-- f'..{e}', e an int -/
def tFs (m : Str) (te : TE) : TE := fun σ H Q => tJs [tC (.str m), tFmt te] Str.empty σ H fun out H1 => Q (.str out) H1
theorem w_fs {m : Str} (hm : m.length ≤ 1000) (h : EvW K te O ds fun r O1 => ∃ i : Int, r = iV i ∧ i.natAbs.log2 < 1920 ∧ ∀ s, Q (.dat (.str s)) O1) : EvW K (tFs m te) O ds Q := fun Hk σ H p Q' k => by
  have e0 : (Str.empty ++ m).length ≤ 1000 := by
    rw [Str.length_append]
    show 0 + m.length ≤ 1000
    omega
  refine ⟨m, rfl, Nat.le_trans e0 (by decide), ?_⟩
  refine h Hk σ H p _ fun v r O1 Hk1 H1 e1 h1 s1 q1 => ?_
  obtain ⟨i, rfl, hi, q⟩ := q1
  cases (show Da Hk1 v (.int i) from s1)
  refine .inr ⟨i, rfl, hi, _, rfl, ?_, ?_⟩
  · have e := int_text_length_le (k := 1920) (by decide) hi
    rw [Str.length_append, PySem.ofString_length]
    refine Nat.le_trans (Nat.add_le_add e0 e) (by decide)
  · exact k _ (.dat (.str _)) O1 Hk1 H1 e1 h1 (.str _) (q _)
/-- raise X(e), X without an __init__ -/
def tRz1 (C : Addr) (W : WX) (te : TE) : TS := fun _ σ H => te σ H fun _ H1 => W (.ref C) none σ H1
theorem s_rz1 {C : Addr} (hW : ∀ Hk, A.xt Hk → KonW K Hk Qs W) (h : EvW K te O ds fun _ O1 => Qs C none O1 ds) : StW K (tRz1 C W te) O ds A := fun Hk σ H D p l =>
  h Hk σ H p _ fun v r O1 Hk1 H1 e1 h1 s1 q1 => hW Hk (l.xt Hk (Same.refl _)) (.ref C) none C none σ O1 ds Hk1 H1 e1 (p.ext e1 h1) ⟨rfl, rfl⟩ q1
end
section
variable {X : Cx} {K : PySem.W.Frag} {W : WX}
theorem psRz1 {x : Str} {e : Expr} {te : TE} {p pos pos2 : Pos} {C : Addr} (T : ExN K X.mg x C) (hc : X.calm = true) (tk : Takes X W) (hg : Gl X x) (he : PE X e te) (hK : X.K = K := by rfl) (hs : starEach [e] X.env = (false, eval e X.env) :: starEach [] X.env := by rfl) (hdb : (x == ("__debug__" : Str)) = false := by decide) :
    PS X (.Raise (some (.Call (.Name x p) [e] [] pos)) none pos2) (tRz1 C W te) := by
  subst hK
  exact ps_raise hc tk (SkE.pmk_own1 PySem.F.excBase_ValueError T.ex T.s.g T.s.k (raises_own T.s.is.hs T.s.ty) hg he hs hdb)
theorem psFs {te : TE} {pos p2 : Pos} {m : Str} {j : Nat} {v2 : Expr} (h1 : PE X (.Constant (.str m) j p2) (tC (.str m))) (h2 : PE X v2 (tFmt te)) : PE X (.JoinedStr [.Constant (.str m) j p2, v2] pos) (tFs m te) := pe_joined (.cons h1 (.cons h2 .nil))
end
section
variable {K : PySem.W.Frag} {Hk Hk' H H' : Hp} {O O' Oa : Own} {ds : List SD} {Q : SD → Own → Prop} {A : AE} {ta : TA} {W : WX} {preX : List SD → Own → (SD → Own → Prop) → (Addr → Option (Str × PyData) → Own → Prop) → Prop}
  {Qs : Addr → Option (Str × PyData) → Own → List SD → Prop}
/-- what is owned besides may be let go -/
theorem KonW.sub (k : KonW K Hk Qs W) : KonW K Hk (fun C fs O2 ds2 => ∃ O3, List.Sublist O3 O2 ∧ Qs C fs O3 ds2) W := fun cls d C fs σ O2 ds2 Hk2 H2 e p ok ⟨O3, s, q⟩ =>
  k cls d C fs σ O3 ds2 Hk2 H2 e ⟨p.hold.sub s, p.len, p.env⟩ ok q
/-- a def that may raise, called where it does not -/
theorem w_callN (h : AvW K ta O ds fun rs O1 => preX rs O1 Q fun _ _ _ => False) : EvW K (tCallS (spX K preX) (WE fun _ _ _ _ => False) ta) O ds Q := fun Hk σ H p Q' k =>
  h Hk σ H p _ fun vs rs O1 Hk1 H1 e1 h1 s1 q1 => ⟨Hk1, O1, rs, Q, _, h1, s1, q1, k.ext e1, fun cls d C fs O2 Hk2 H2 e2 h2 ok q => q.elim⟩
/-- {'k': e, 'l': f} as data -/
theorem w_dic2 {f g : Str} {tv tw : TE} (hfg : ∀ v w : V, mergeK [] [((Sum.inr f : Key), v), (Sum.inr g, w)] = [(Sum.inr f, v), (Sum.inr g, w)]) (h : ∀ pn, EvW K tv ((pn, .dK []) :: O) ds fun r O1 => ∃ d, r = .dat d ∧ EvW K tw O1 ds fun r2 O2 => ∃ e Oa, r2 = .dat e ∧ O2 = (pn, .dK []) :: Oa ∧ Q (.dic [(.inr f, d), (.inr g, e)]) Oa) : EvW K (tDisp [(tC (.str f), tv), (tC (.str g), tw)]) O ds Q := fun Hk σ H p Q' k pn hf => by
  have h0 := p.hold.ownG (p := pn) (o := .dK []) (x := .dK []) hf ⟨[], upd_same, rfl, .nil⟩
  have p0 : Pt K Hk ((pn, .dK []) :: O) ds σ (upd H pn (.dK [])) := ⟨h0, p.len, p.env⟩
  show tv σ (upd H pn (.dK [])) fun y H2 => tw σ H2 _
  refine h pn Hk σ _ p0 _ fun v r O1 Hk1 H1 e1 h1 s1 q1 => ?_
  obtain ⟨d, rfl, q1⟩ := q1
  refine q1 Hk1 σ H1 (p0.ext e1 h1) _ fun w r2 O2 Hk2 H2 e2 h2 s2 q2 => ?_
  obtain ⟨e, Oa, rfl, rfl, q⟩ := q2
  obtain ⟨⟨vs, g1, g2, g3⟩, g4⟩ := h2.ow (pn, .dK []) List.mem_cons_self
  have e0 : vs = [] := by
    cases vs with
    | nil => rfl
    | cons a b => cases g2
  subst e0
  refine ⟨g1, [(.inr f, v), (.inr g, w)], rfl, Nat.le_of_ble_eq_true rfl, ?_⟩
  rw [hfg]
  have nd := h2.nd
  rw [List.map_cons, List.nodup_cons] at nd
  have sm : Same Hk2 (upd Hk2 pn (.dK [(.inr f, v), (.inr g, w)])) := same_new g4
  refine k _ (.dic [(.inr f, d), (.inr g, e)]) Oa (upd Hk2 pn (.dK [(.inr f, v), (.inr g, w)])) _ (e1.trans (e2.trans sm)) ⟨fun b y e => ?_, fun q hq => ?_, nd.2⟩ ⟨pn, [(.inr f, v), (.inr g, w)], rfl, upd_same, rfl, .cons (Da.mono (e2.trans sm) s1) (.cons (Da.mono sm s2) .nil)⟩ q
  · by_cases hb : b = pn
    · subst hb
      rw [upd_same] at e ⊢
      exact e
    · rw [upd_ne hb] at e ⊢
      exact h2.kn b y e
  · have ne : q.1 ≠ pn := fun z => nd.1 (z ▸ List.mem_map.mpr ⟨q, hq, rfl⟩)
    obtain ⟨h5, h6⟩ := h2.ow q (List.mem_cons_of_mem _ hq)
    exact ⟨h5.mono sm (upd_ne ne), by rw [upd_ne ne]; exact h6⟩
theorem flat_all : ∀ {kvs : List (Key × PyData)} {ks ls : List (Key × V)} {H : Hp}, (∀ p ∈ kvs, flatD p.2 = true) → ks.map (·.1) = kvs.map (·.1) → ls.map (·.1) = kvs.map (·.1) → DaAll H (ks.map (·.2)) (kvs.map (·.2)) → DaAll H (ls.map (·.2)) (kvs.map (·.2)) → ks = ls ∧ ∀ p ∈ ks, flatB p.2 = true
  | [], [], [], _, _, _, _, _, _ => ⟨rfl, fun _ h => absurd h List.not_mem_nil⟩
  | [], _ :: _, _, _, _, h, _, _, _ => by cases h
  | [], [], _ :: _, _, _, _, h, _, _ => by cases h
  | _ :: _, [], _, _, _, h, _, _, _ => by cases h
  | _ :: _, _ :: _, [], _, _, _, h, _, _ => by cases h
  | (k, d) :: kvs, (k1, v1) :: ks, (k2, v2) :: ls, H, hf, h1, h2, .cons a1 r1, .cons a2 r2 => by
    injection h1 with e1 h1
    injection h2 with e2 h2
    obtain ⟨e, hr⟩ := flat_all (fun p hp => hf p (List.mem_cons_of_mem _ hp)) h1 h2 r1 r2
    have hd := hf _ List.mem_cons_self
    have ev : v1 = v2 := flat_one a1 a2 hd
    have e1' : k1 = k := e1
    have e2' : k2 = k := e2
    refine ⟨by rw [e1', e2', ev, e], fun p hp => ?_⟩
    rcases List.mem_cons.mp hp with rfl | hp
    · exact flat_of a1 hd
    · exact hr p hp
theorem val_of : ∀ {ks : List (Key × V)}, (ks.map (·.1)).Nodup → ∀ p ∈ ks, valV ks p.1 = some p.2
  | [], _, _, h => absurd h List.not_mem_nil
  | q :: ks, hn, p, hp => by
    rw [List.map_cons, List.nodup_cons] at hn
    rcases List.mem_cons.mp hp with rfl | hp
    · exact valV_pos rfl
    · have ne : q.1 ≠ p.1 := fun z => hn.1 (z ▸ List.mem_map.mpr ⟨p, hp, rfl⟩)
      rw [valV_neg ne]
      exact val_of hn.2 p hp
theorem o_neDic {kvs : List (Key × PyData)} (hf : ∀ p ∈ kvs, flatD p.2 = true) (hn : (kvs.map (·.1)).Nodup) (q : Q (bV false) O) : OpW K rNeDA (.dic kvs) (.dic kvs) O Q := fun Hk H h u v hu hv Q' k => by
  obtain ⟨a, vs, rfl, g1, g2, g3⟩ := hu
  obtain ⟨b, ws, rfl, j1, j2, j3⟩ := hv
  obtain ⟨e, hfl⟩ := flat_all hf g2 j2 g3 j3
  subst e
  exact ⟨a, b, vs, vs, rfl, rfl, h.kn _ _ g1, h.kn _ _ j1, rfl, fun p hp => ⟨val_of (by rw [g2]; exact hn) p hp, hfl p hp⟩, k.now h (r := bV false) (.bl _) q⟩
end
end Wk
namespace Wk
open PySem PySem.Spec PyProof.Rows L2
/-! ### dicts that are owned -/
def valS (kvs : List (Key × SD)) (k : Key) : Option SD := (kvs.find? fun p => decide (p.1 = k)).map (·.2)
def putS (kvs : List (Key × SD)) (k : Key) (r : SD) : List (Key × SD) := kvs.map fun p => if p.1 = k then (p.1, r) else p
section
variable {K : PySem.W.Frag} {Hk Hk' H H' : Hp} {O O' Oa : Own} {ds : List SD} {σ : L2.St} {Q : SD → Own → Prop} {Q' : VK} {x y : SD} {A : AE} {D : Ends} {t u : TS} {te td to : TE} {ta : TA}
theorem val_at {k : Key} {d : SD} : ∀ {vs : List (Key × V)} {kvs : List (Key × SD)}, vs.map (·.1) = kvs.map (·.1) → SDall K Hk (vs.map (·.2)) (kvs.map (·.2)) → valS kvs k = some d → ∃ v, valV vs k = some v ∧ SDok K Hk v d
  | _, [], _, _, h => by cases h
  | [], _ :: _, e, _, _ => by cases e
  | v :: vs, p :: kvs, e, .cons a r, h => by
    injection e with e1 e2
    have e1' : v.1 = p.1 := e1
    by_cases z : p.1 = k
    · have : valS (p :: kvs) k = some p.2 := by simp [valS, List.find?_cons, z]
      rw [this] at h
      cases h
      exact ⟨v.2, valV_pos (e1'.trans z), a⟩
    · have : valS (p :: kvs) k = valS kvs k := by simp [valS, List.find?_cons, z]
      rw [this] at h
      obtain ⟨w, h1, h2⟩ := val_at e2 r h
      exact ⟨w, by rw [valV_neg (by rw [e1']; exact z)]; exact h1, h2⟩
theorem put_at {k : Key} {d r : SD} {v : V} (hv : SDok K Hk v r) {vs : List (Key × V)} {kvs : List (Key × SD)} (e : vs.map (·.1) = kvs.map (·.1)) (h : SDall K Hk (vs.map (·.2)) (kvs.map (·.2))) (hk : valS kvs k = some d) :
    (putK vs k v).map (·.1) = (putS kvs k r).map (·.1) ∧ SDall K Hk ((putK vs k v).map (·.2)) ((putS kvs k r).map (·.2)) := by
  have hany : (vs.any fun kv => decide (kv.1 = k)) = true := by
    obtain ⟨w, h1, _⟩ := val_at e h hk
    rw [valV_any, h1]
    rfl
  have key : ∀ {vs : List (Key × V)} {kvs : List (Key × SD)}, vs.map (·.1) = kvs.map (·.1) → SDall K Hk (vs.map (·.2)) (kvs.map (·.2)) → (vs.map fun kv => if kv.1 = k then (kv.1, v) else kv).map (·.1) = (putS kvs k r).map (·.1) ∧ SDall K Hk ((vs.map fun kv => if kv.1 = k then (kv.1, v) else kv).map (·.2)) ((putS kvs k r).map (·.2)) := by
    intro vs
    induction vs with
    | nil =>
      intro kvs e h
      cases kvs with
      | nil => exact ⟨rfl, .nil⟩
      | cons p kvs => cases e
    | cons w vs ih =>
      intro kvs e h
      cases kvs with
      | nil => cases e
      | cons p kvs =>
        injection e with e1 e2
        have e1' : w.1 = p.1 := e1
        cases h with
        | cons a b =>
          obtain ⟨i1, i2⟩ := ih e2 b
          by_cases z : p.1 = k
          · have z' : w.1 = k := e1'.trans z
            refine ⟨?_, ?_⟩
            · show (if w.1 = k then (w.1, v) else w).1 :: _ = (if p.1 = k then (p.1, r) else p).1 :: _
              rw [if_pos z, if_pos z']
              exact congr (congrArg _ e1') i1
            · show SDall K Hk ((if w.1 = k then (w.1, v) else w).2 :: _) ((if p.1 = k then (p.1, r) else p).2 :: _)
              rw [if_pos z, if_pos z']
              exact .cons hv i2
          · have z' : ¬ w.1 = k := fun q => z (e1'.symm.trans q)
            refine ⟨?_, ?_⟩
            · show (if w.1 = k then (w.1, v) else w).1 :: _ = (if p.1 = k then (p.1, r) else p).1 :: _
              rw [if_neg z, if_neg z']
              exact congr (congrArg _ e1') i1
            · show SDall K Hk ((if w.1 = k then (w.1, v) else w).2 :: _) ((if p.1 = k then (p.1, r) else p).2 :: _)
              rw [if_neg z, if_neg z']
              exact .cons a i2
  have := key e h
  unfold putK
  rw [if_pos hany]
  exact this
/-- d['k'], d owned -/
theorem w_dget {f : Str} (h : EvW K td O ds fun r O1 => ∃ a kvs d, r = .ad a ∧ (a, OD.dK kvs) ∈ O1 ∧ valS kvs (.inr f) = some d ∧ Q d O1) : EvW K (tDGet td (tC (.str f))) O ds Q := fun Hk σ H p Q' k =>
  h Hk σ H p _ fun v r O1 Hk1 H1 e1 h1 s1 q1 => by
    obtain ⟨a, kvs, d, rfl, hm, hv, q⟩ := q1
    cases (show v = .ref a from s1)
    obtain ⟨⟨vs, g1, g2, g3⟩, _⟩ := h1.ow _ hm
    obtain ⟨w, h2, h3⟩ := val_at g2 g3 hv
    refine ⟨a, w, rfl, ?_, k w d O1 Hk1 H1 e1 h1 h3 q⟩
    have := DGet.k (k := .inr f) g1
    rw [h2] at this
    exact this
/-- d['k'] = e, d owned, k there -/
theorem s_setD {f : Str} (h : EvW K te O ds fun r O1 => EvW K to O1 ds fun ro O2 => ∃ a kvs d Oa O4, ro = .ad a ∧ O2.Perm ((a, .dK kvs) :: Oa) ∧ kvs.length ≤ 1000 ∧ valS kvs (.inr f) = some d ∧ Own.P ((a, .dK (putS kvs (.inr f) r)) :: Oa) O4 ∧ A.nx O4 ds) : StW K (tAsg te (gSub to (tC (.str f)) rSetD)) O ds A := fun Hk σ H D p l =>
  h Hk σ H p _ fun v r O1 Hk1 H1 e1 h1 s1 q1 => q1 Hk1 σ H1 (p.ext e1 h1) _ fun vo ro O2 Hk2 H2 e2 h2 s2 q2 => by
    obtain ⟨a, kvs, d, Oa, O4, rfl, hp, hl, hv, hp2, q⟩ := q2
    cases (show vo = .ref a from s2)
    have h' := h2.perm hp
    obtain ⟨⟨vs, g1, g2, g3⟩, _⟩ := h'.ow _ List.mem_cons_self
    obtain ⟨p1, p2⟩ := put_at (s1.mono e2) g2 g3 hv
    have hlen : vs.length < sizeLine := by
      have := congrArg List.length g2
      rw [List.length_map, List.length_map] at this
      rw [this]
      exact Nat.lt_of_le_of_lt hl (by decide)
    refine ⟨a, _, rfl, DPut.k (k := .inr f) g1 hlen, ?_⟩
    exact l.nx _ ds Hk2 σ _ (e1.trans e2) (p.ext (e1.trans e2) ((h'.writeG (y := .dK (putS kvs (.inr f) r)) ⟨_, upd_same, p1, p2⟩).perm hp2)) q
/-- {'k': e, 'l': f} as a dict that is owned -/
theorem w_dic2O {f g : Str} {tv tw : TE} (hfg : ∀ v w : V, mergeK [] [((Sum.inr f : Key), v), (Sum.inr g, w)] = [(Sum.inr f, v), (Sum.inr g, w)]) (h : ∀ pn, EvW K tv ((pn, .dK []) :: O) ds fun r O1 => EvW K tw O1 ds fun r2 O2 => ∃ Oa, O2 = (pn, .dK []) :: Oa ∧ Q (.ad pn) ((pn, .dK [(.inr f, r), (.inr g, r2)]) :: Oa)) : EvW K (tDisp [(tC (.str f), tv), (tC (.str g), tw)]) O ds Q := fun Hk σ H p Q' k pn hf => by
  have h0 := p.hold.ownG (p := pn) (o := .dK []) (x := .dK []) hf ⟨[], upd_same, rfl, .nil⟩
  have p0 : Pt K Hk ((pn, .dK []) :: O) ds σ (upd H pn (.dK [])) := ⟨h0, p.len, p.env⟩
  show tv σ (upd H pn (.dK [])) fun y H2 => tw σ H2 _
  refine h pn Hk σ _ p0 _ fun v r O1 Hk1 H1 e1 h1 s1 q1 => ?_
  refine q1 Hk1 σ H1 (p0.ext e1 h1) _ fun w r2 O2 Hk2 H2 e2 h2 s2 q2 => ?_
  obtain ⟨Oa, rfl, q⟩ := q2
  obtain ⟨⟨vs, g1, g2, g3⟩, g4⟩ := h2.ow (pn, .dK []) List.mem_cons_self
  have e0 : vs = [] := by
    cases vs with
    | nil => rfl
    | cons a b => cases g2
  subst e0
  refine ⟨g1, [(.inr f, v), (.inr g, w)], rfl, Nat.le_of_ble_eq_true rfl, ?_⟩
  rw [hfg]
  exact k _ (.ad pn) _ Hk2 _ (e1.trans e2) (h2.writeG (y := .dK [(.inr f, r), (.inr g, r2)]) ⟨[(.inr f, v), (.inr g, w)], upd_same, rfl, .cons (s1.mono e2) (.cons s2 .nil)⟩) rfl q
/-- two owned lists, one behind the other -/
theorem g_catS {a b : Addr} {rs qs : List SD} (hm : (a, OD.lst rs) ∈ O) (hn : (b, OD.lst qs) ∈ O) (hz : rs.length + qs.length ≤ 1000000) (q : ∀ l, Q (.ad l) ((l, .lst (rs ++ qs)) :: O)) : OpW K rCat (.ad a) (.ad b) O Q := fun Hk H h u v hu hv Q' k => by
  cases (show u = .ref a from hu)
  cases (show v = .ref b from hv)
  obtain ⟨⟨vs, h1, h2⟩, _⟩ := h.ow _ hm
  obtain ⟨⟨ws, g1, g2⟩, _⟩ := h.ow _ hn
  exact ⟨a, b, vs, ws, rfl, rfl, h1, g1, by rw [h2.length, g2.length]; exact Nat.le_trans hz (by decide), fun l hf => k _ (.ad l) _ Hk _ (Same.refl _) (h.own hf (h2.append g2)) rfl (q l)⟩
theorem o_eqT {i j : Str} (q : Q (bV (decide (i = j))) O) : OpW K rEq (.dat (.str i)) (.dat (.str j)) O Q := fun Hk H h u v hu hv Q' k => by
  cases (show Da Hk u (.str i) from hu)
  cases (show Da Hk v (.str j) from hv)
  refine ⟨rfl, ?_⟩
  have e : decide (V.str i = V.str j) = decide (i = j) := by
    by_cases z : i = j
    · rw [decide_eq_true z, decide_eq_true (congrArg V.str z)]
    · rw [decide_eq_false z, decide_eq_false fun q => z (V.str.inj q)]
  rw [e]
  exact k.now h (r := bV _) (.bl _) q
/-! ### exceptions as values -/
/-- X(e), X without an __init__ -/
def tXv0 (C : Addr) (te : TE) : TE := fun σ H Q => te σ H fun _ H1 => ∀ a, H1 a = none → Q (.ref a) (upd H1 a (ExO (.ref C) a))
theorem w_xv0 {C : Addr} (h : EvW K te O ds fun _ O1 => Q (.xob C none) O1) : EvW K (tXv0 C te) O ds Q := fun Hk σ H p Q' k =>
  h Hk σ H p _ fun v r O1 Hk1 H1 e1 h1 s1 q1 a ha => by
    have sm : Same Hk1 (upd Hk1 a (ExO (.ref C) a)) := same_new (h1.kn.free ha)
    exact k _ (.xob C none) O1 _ _ (e1.trans sm) (h1.know ha) ⟨a, rfl, upd_same⟩ q1
/-- X(e), X's __init__ keeps e as its field f -/
def tXvI (C : Addr) (f : Str) (ta : TA) : TE := fun σ H Q => ta σ H fun vs H1 => vs.length ≤ 1000 ∧ ∀ a, H1 a = none → spIni C f (.ref a :: vs) (upd H1 a (exo a C none)) (fun v H2 => v = .non ∧ Q (.ref a) H2) (fun _ _ _ => False)
theorem w_xvI {C : Addr} {f : Str} (h : AvW K ta O ds fun rs O1 => ∃ d, rs = [.dat d] ∧ Q (.xob C (some (f, d))) O1) : EvW K (tXvI C f ta) O ds Q := fun Hk σ H p Q' k =>
  h Hk σ H p _ fun vs rs O1 Hk1 H1 e1 h1 s1 q1 => by
    obtain ⟨x, rfl, q⟩ := q1
    obtain ⟨v, rfl, hv⟩ := all1 s1
    refine ⟨Nat.le_of_ble_eq_true rfl, fun a ha => ⟨a, v, rfl, upd_same, fun dx hdx hne => ⟨rfl, ?_⟩⟩⟩
    rw [upd_ne hne] at hdx
    have eH : upd (upd (upd H1 a (exo a C none)) dx (exd dx [(f, v)])) a (exo a C (some dx)) = upd (upd H1 dx (exd dx [(f, v)])) a (exo a C (some dx)) := by
      funext b
      by_cases hb : b = a
      · rw [hb, upd_same, upd_same]
      · rw [upd_ne hb, upd_ne hb]
        by_cases hd : b = dx
        · rw [hd, upd_same, upd_same]
        · rw [upd_ne hd, upd_ne hd, upd_ne hb]
    rw [eH]
    have ha2 : upd H1 dx (exd dx [(f, v)]) a = none := by rw [upd_ne (Ne.symm hne)]; exact ha
    have h2 := h1.know (o := exd dx [(f, v)]) hdx
    have h3 := h2.know (o := exo a C (some dx)) ha2
    have s2 : Same Hk1 (upd Hk1 dx (exd dx [(f, v)])) := same_new (h1.kn.free hdx)
    have s3 : Same (upd Hk1 dx (exd dx [(f, v)])) (upd (upd Hk1 dx (exd dx [(f, v)])) a (exo a C (some dx))) := same_new (h2.kn.free ha2)
    exact k _ (.xob C (some (f, x))) O1 _ _ (e1.trans (s2.trans s3)) h3 ⟨a, rfl, dx, v, upd_same, by rw [upd_ne hne]; exact upd_same, Da.mono (s2.trans s3) hv⟩ q
/-- e.f of such a value -/
def tXvf (C : Addr) (f : Str) (te : TE) : TE := fun σ H Q => te σ H fun x H1 => ∃ a d fs v, x = .ref a ∧ H1 a = some (exo a C (some d)) ∧ H1 d = some (exd d fs) ∧ fs.lookup f = some v ∧ Q v H1
theorem w_xvf {C : Addr} {f : Str} (h : EvW K te O ds fun r O1 => ∃ x, r = .xob C (some (f, x)) ∧ Q (.dat x) O1) : EvW K (tXvf C f te) O ds Q := fun Hk σ H p Q' k =>
  h Hk σ H p _ fun v r O1 Hk1 H1 e1 h1 s1 q1 => by
    obtain ⟨x, rfl, q⟩ := q1
    obtain ⟨a, rfl, d, w, g1, g2, g3⟩ := s1
    exact ⟨a, d, _, w, rfl, h1.kn _ _ g1, h1.kn _ _ g2, by simp [List.lookup], k _ (.dat x) O1 Hk1 H1 e1 h1 g3 q⟩
/-- isinstance(e, c) of such a value -/
def rIsV (K : PySem.W.Frag) : List V → Hp → VK → Prop := fun xs H Q => ∃ (a C : Addr) (c : V) (cv : Value) (b : Bool), ExcC K C ∧ (H a = some (ExO (.ref C) a) ∨ ∃ d fs, H a = some (exo a C (some d)) ∧ H d = some (exd d fs)) ∧ xs = [.ref a, c] ∧ (∀ u, RelV c u → u = cv) ∧ PySem.W.kitOne K (.ref C) cv = some b ∧ Q (.bl b) H
theorem g_isV {C C' : Addr} {fs : Option (Str × PyData)} {b : Bool} (T : ExcC K C) (e : PySem.W.kitOne K (.ref C) (.ref C') = some b) (q : Q (bV b) O) : CbW K (rIsV K) [.xob C fs, .ad C'] O Q := fun Hk H h us hus Q' k => by
  obtain ⟨u, v, rfl, hu, hv⟩ := all2 hus
  cases (show v = .ref C' from hv)
  obtain ⟨a, rfl, hx⟩ := hu
  refine ⟨a, C, .ref C', .ref C', b, T, ?_, rfl, fun u r => r, e, k.now h (r := bV _) (.bl _) q⟩
  cases fs with
  | none => exact .inl (h.kn _ _ hx)
  | some p =>
    obtain ⟨d, w, h1, h2, _⟩ := hx
    exact .inr ⟨d, _, h.kn _ _ h1, h.kn _ _ h2⟩
theorem g_isVT {C : Addr} {n : String} {fs : Option (Str × PyData)} {b : Bool} (T : ExcC K C) (e : PySem.W.kitOne K (.ref C) (.type n) = some b) (q : Q (bV b) O) : CbW K (rIsV K) [.xob C fs, .ty n] O Q := fun Hk H h us hus Q' k => by
  obtain ⟨u, v, rfl, hu, hv⟩ := all2 hus
  cases (show v = .ty n from hv)
  obtain ⟨a, rfl, hx⟩ := hu
  refine ⟨a, C, .ty n, .type n, b, T, ?_, rfl, fun u r => r, e, k.now h (r := bV _) (.bl _) q⟩
  cases fs with
  | none => exact .inl (h.kn _ _ hx)
  | some p =>
    obtain ⟨d, w, h1, h2, _⟩ := hx
    exact .inr ⟨d, _, h.kn _ _ h1, h.kn _ _ h2⟩
theorem w_xob {i : Nat} {C : Addr} {fs : Option (Str × PyData)} (h : ds[i]? = some (.xob C fs)) (q : Q (.xob C fs) O) : EvW K (tVar i) O ds Q := w_var h (fun z => nomatch z) q
end
section
variable {X : Cx} {K : PySem.W.Frag}
theorem peXv0 {x : Str} {e : Expr} {te : TE} {p pos : Pos} {C : Addr} (T : ExN K X.mg x C) (hg : Gl X x) (he : PE X e te) (hK : X.K = K := by rfl) (hs : starEach [e] X.env = (false, eval e X.env) :: starEach [] X.env := by rfl) (hdb : (x == ("__debug__" : Str)) = false := by decide) :
    PE X (.Call (.Name x p) [e] [] pos) (tXv0 C te) := by
  subst hK
  exact pe_exc1 PySem.F.excBase_ValueError T.ex T.s.g T.s.k hg he hs hdb
theorem peXvI {x f : Str} {e : Expr} {p pos : Pos} {C : Addr} {ta : TA} (T : ExI X.prog X.w K X.mg X.base x f C) (hr : Room 2 X.A) (hg : Gl X x) (ha : PA X [e] ta) (hK : X.K = K := by rfl) (hdb : (x == ("__debug__" : Str)) = false := by decide)
    (he : starEach [e] X.env = (false, eval e X.env) :: starEach [] X.env := by rfl) (hpl : (backTo pos (starEach [] X.env)).any (·.1) = false := by rfl) :
    PE X (.Call (.Name x p) [e] [] pos) (tXvI C f ta) := by
  subst hK
  obtain ⟨fI, fd, iC, tI, F1, hb⟩ := T.ic
  refine ⟨fun pins s σ H Q I h => ?_⟩
  obtain ⟨nm, q, N, bs, bm, sn, sub, ab, col, dd, k0, k1, k2, k3, k5, hC, hbm⟩ := T.o.cls
  refine wpAny_Call_Name_kw (ld_glob I hg T.s.g ?_ hdb)
  refine PySem.W.callWith_K (h₀ := X.base) I.ok.mod.kin T.o.kC (thn (ha.run pos pins s σ H _ I h) fun us s1 ⟨vs, H1, I1, r1, hz, q1⟩ => ⟨I1.kIn, ?_⟩) he hpl
  show wpAny _ _ (call (.ref C) us) _ _ _
  obtain ⟨hp, g, dr, tk, os⟩ := s1
  have hsz : hp.objs.size ≤ hp.objs.size + 1 := Nat.le_succ _
  have hn : H1 (hp.objs.size + 1) = none := I1.hok.fresh hsz
  have hq := q1 (hp.objs.size + 1) hn
  have kk : ∀ b o, hp.get? b = some o → ((hp.push (PySem.W.kdv_tup us)).push (PySem.HandSPX.excO C hp.objs.size)).get? b = some o := fun b o e => Heap.get?_push_of_some _ (Heap.get?_push_of_some _ e)
  have hget : ((hp.push (PySem.W.kdv_tup us)).push (PySem.HandSPX.excO C hp.objs.size)).get? (hp.objs.size + 1) = some (PySem.HandSPX.excO C hp.objs.size) := by heap_get
  have I2 : Inv X pins σ (upd H1 (hp.objs.size + 1) (exo (hp.objs.size + 1) C none)) ⟨(hp.push (PySem.W.kdv_tup us)).push (PySem.HandSPX.excO C hp.objs.size), g, dr, tk, os⟩ :=
    I1.laid (t' := tk) (a := hp.objs.size + 1) (o := exo (hp.objs.size + 1) C none) (h' := (hp.push (PySem.W.kdv_tup us)).push (PySem.HandSPX.excO C hp.objs.size)) kk hsz (exo_ok hget)
  have r2 : Vals (V.ref (hp.objs.size + 1) :: vs) (Value.ref (hp.objs.size + 1) :: us) := .cons rfl r1
  have hl : (Value.ref (hp.objs.size + 1) :: us).length = ([("self" : Str), f] : List Str).length := by
    have e := r2.length
    rw [F1.len _ _ _ _ hq] at e
    exact e.symm
  have hus : us.length ≤ sizeLine := by
    rw [← Paired.length r1, sizeLine_eq]
    omega
  have hb2 := hb ⟨(hp.push (PySem.W.kdv_tup us)).push (PySem.HandSPX.excO C hp.objs.size), g, dr, tk, os⟩ (Value.ref (hp.objs.size + 1) :: us) I2.kIn (by rw [List.append_nil]; exact hl)
  rw [List.append_nil] at hb2
  refine wpAny_call (PySem.HandSPX.call_own F.excBase_ValueError (fun Y => PySem.HandSPX.refsVE_contains Y bm hbm) (I1.kIn _ _ hC) (PySem.W.looks_findIn I1.kIn iC) (fun self => PySem.W.bind_fn I1.kIn self tI) hus
    (codeAny_mono (F1.run _ X.stack _ _ ⟨Value.ref (hp.objs.size + 1) :: us, []⟩ (Value.ref (hp.objs.size + 1) :: us) _ _ (fun _ _ _ => False) (hr.make C us []) (I2.env0.make C us []) hb2 r2 hq) fun r s' hq' => ?_))
  cases r with
  | error er => exact hq'.elim
  | ok fl =>
    cases fl with
    | ret u =>
      obtain ⟨v, H2, I3, r3, ev, q2⟩ := I2.after hq'
      subst ev
      exact ⟨r3, .ref (hp.objs.size + 1), H2, I3, rfl, q2⟩
    | next => exact False.elim hq'
    | brk => exact False.elim hq'
    | cont => exact False.elim hq'
theorem peXvf {C : Addr} {e : Expr} {te : TE} {pos : Pos} {n x : Str} {mg : Str → Option Value} (T : ExS K mg x C) (hno : PySem.W.findIn K (.ref C) n = some none) (he : PE X e te) (hK : X.K = K := by rfl) (hb : attributeBase e n X.env (eval e X.env) = eval e X.env := by rfl) :
    PE X (.Attribute e n pos) (tXvf C n te) := by
  subst hK
  refine ⟨fun pins s σ H Q I h => ?_⟩
  refine attr_of hb (thn (he.run pins s σ H _ I h) fun u s1 hh => ?_)
  obtain ⟨x, H1, I1, rx, a, d, fs, v, ex, ea, ed, l, q⟩ := hh
  subst ex
  obtain rfl : u = Value.ref a := rx
  obtain ⟨t1, ho⟩ := exo_at I1.hok ea
  obtain ⟨mA, hns, hr⟩ := exd_at I1.hok ed
  obtain ⟨od, ho2, hl⟩ := lookIn_ns hns
  obtain ⟨u, hu, ru⟩ := RelO.some_of (v := v) (o := mA n) (by rw [← l]; exact hr n)
  have J : PySem.W.InstAt s1.heap a { cls := .ref C, dict := some d, data := .fields #[.ref t1, .none, .none, .none, .bool false, .none] } C (some od) := ⟨ho, rfl, rfl, ho2⟩
  exact PySem.HandSPX.exc_get I1.kIn J T.xf.ga T.xf.gg T.xf.exC (PySem.W.findObj_own T.xf.hdC hno rfl (by rw [hl, hu])) (handed_of ru) ⟨v, H1, I1.tok _, ru, q⟩
theorem kIsV (hK : X.K = K := by rfl) : CallR X (.builtin "isinstance") (rIsV K) := by
  subst hK
  intro pins s σ H xs us Q I r h
  obtain ⟨a, C, c, cv, b, T, hx, rfl, hcv, e, q⟩ := h
  cases r with
  | cons rx rr =>
    cases rr with
    | cons rt rr =>
      cases rr
      cases rx
      have ec := hcv _ rt
      subst ec
      have J : ∃ oe od, PySem.W.InstAt s.heap a oe C od := by
        rcases hx with ha | ⟨d, fs, ha, hd⟩
        · obtain ⟨⟨oe, vs, g1, g2, g3, _⟩, _⟩ := I.hok a _ ha
          refine ⟨oe, none, g1, g2.1, by unfold PySem.W.notCls; rw [g3] <;> rfl, ?_⟩
          rw [g2.2]
          trivial
        · obtain ⟨t1, ho⟩ := exo_at I.hok ha
          obtain ⟨mA, hns, hr⟩ := exd_at I.hok hd
          obtain ⟨od, ho2, hl⟩ := lookIn_ns hns
          exact ⟨_, some od, ho, rfl, rfl, ho2⟩
      obtain ⟨oe, od, J⟩ := J
      exact PySem.W.kia_one (PySem.W.kitx_exc (any_isSome T.hd) T.hg T.hk T.hs T.ha T.hn T.ht T.hm) I.kIn J e (fun z => nomatch z) fun tk => ⟨.bl b, H, I.kept (t' := tk) fun _ _ z => z, rfl, q⟩
end
end Wk
namespace LW
open PySem PySem.Spec PyProof.Rows L2 Wk
abbrev Pre := List SD → Own → (SD → Own → Prop) → Prop
abbrev PreX := List SD → Own → (SD → Own → Prop) → (Addr → Option (Str × PyData) → Own → Prop) → Prop
abbrev xF (f x : Str) : Option (Str × PyData) := some (f, PyData.str x)
abbrev dic1 (f x : Str) : SD := .dic [(.inr f, PyData.str x)]
abbrev dL (rs : List (List (List Int))) : List SD := rs.map fun r => SD.dat (lS r)
abbrev dS (cs : List (List Int)) : List SD := cs.map fun c => SD.dat (tI c)
def TapeOk (ts : List Int) : Prop := ∀ t ∈ ts, 0 ≤ t ∧ t < 2147483629
abbrev Sta (st : Addr) (ts : List Int) (k : Int) : Addr × OD := (st, .lst [.dat (lI ts), iV k])
theorem TapeOk.snoc {ts : List Int} {t : Int} (h : TapeOk ts) (h0 : 0 ≤ t) (h1 : t < 2147483629) : TapeOk (ts ++ [t]) := fun x hx => by
  rcases List.mem_append.mp hx with hx | hx
  · exact h x hx
  · have e : x = t := by simpa using hx
    rw [e]; exact ⟨h0, h1⟩
theorem getD_mem {ts : List Int} {P : Int → Prop} (h : ∀ t ∈ ts, P t) {i : Int} (h0 : 0 ≤ i) (h1 : i < ts.length) : P (ts.getD i.toNat 0) := by
  obtain ⟨j, rfl⟩ : ∃ j : Nat, i = (j : Int) := ⟨i.toNat, by omega⟩
  have hj : j < ts.length := by omega
  rw [Int.toNat_natCast, List.getD_eq_getElem?_getD, List.getElem?_eq_getElem hj]
  exact h _ (List.getElem_mem hj)
local macro_rules | `(tactic| walk_at "pl") => `(tactic| ((repeat' (first | exact pl_int _ _ | exact pl_none _ | exact PlAll.nil _ | assumption | refine pl_list ?_ | refine pl_tuple ?_ | refine PlAll.cons ?_ ?_ | refine PlAll.app ?_ ?_ | refine PlAll.map (fun _ => ?_))); done))
local macro_rules | `(tactic| walk_at "len") => `(tactic| first
  | omega
  | (simp only [List.length_map, List.length_append, List.length_cons, List.length_nil, List.length_reverse, List.length_range, List.length_replicate, cut_length] at *; omega))
local macro_rules | `(tactic| walk_at "e") => `(tactic| first
  | with_reducible refine w_op ?_
  | with_reducible refine w_cb ?_
  | with_reducible refine w_call ?_
  | with_reducible refine w_cons ?_
  | with_reducible refine w_nil ?_
  | with_reducible refine w_int ?_
  | with_reducible refine w_bl ?_
  | with_reducible refine w_str ?_
  | with_reducible refine w_none ?_
  | with_reducible refine w_ty ?_
  | with_reducible refine w_ref ?_
  | with_reducible refine w_un ?_
  | with_reducible refine w_if ?_
  | with_reducible refine t_yes ?_
  | (with_reducible refine t_test ?_)
  | (with_reducible refine t_B ?_)
  | with_reducible refine t_and ?_
  | with_reducible refine t_or ?_
  | with_reducible refine t_not ?_
  | with_reducible refine w_andV ?_
  | with_reducible refine w_orV ?_
  | with_reducible refine w_notV ?_
  | with_reducible refine w_chain ?_
  | with_reducible refine i_none ?_
  | with_reducible refine i_some ?_
  | with_reducible refine w_sl ?_
  | ((with_reducible show EvW _ (tVar _) _ _ _); refine w_vD rfl ?_)
  | ((with_reducible show EvW _ (tVar _) _ _ _); refine w_vA rfl ?_)
  | ((with_reducible show EvW _ (tVar _) _ _ _); refine w_vS rfl ?_)
  | ((with_reducible show EvW _ (tVar _) _ _ _); refine w_exc rfl ?_)
  | ((with_reducible show EvW _ (tVar _) _ _ _); refine w_vDic rfl ?_)
  | with_reducible refine g_isX (ExS.is (by assumption)) (by assumption) ?_
  | with_reducible refine g_isXT (ExS.is (by assumption)) (by assumption) ?_
  | ((with_reducible show OpW _ (rOr _ _) (SD.dic _) (SD.dic _) _ _); first | refine o_orR (o_neDic1 rfl ?_) | refine o_orR (o_neDic (fun p hp => by simp only [List.mem_cons, List.not_mem_nil, or_false] at hp; cases hp <;> (subst_vars; exact (Eq.refl true))) (by decide) ?_))
  | ((with_reducible show OpW _ (rOr _ _) (SD.dat _) (SD.dat _) _ _); refine o_orL ?_)
  | ((with_reducible refine i_Dic (b := true) ?hh ?_); (case hh => decide +kernel))
  | ((with_reducible refine i_Dic (b := false) ?hh ?_); (case hh => decide +kernel))
  | with_reducible refine w_xf ?_
  | with_reducible refine w_xv0 ?_
  | with_reducible refine w_xvI ?_
  | with_reducible refine w_xvf ?_
  | ((with_reducible show EvW _ (tVar _) _ _ _); refine w_xob rfl ?_)
  | with_reducible refine g_isV (by assumption) (by assumption) ?_
  | with_reducible refine g_isVT (by assumption) (by assumption) ?_
  | with_reducible refine w_dic1 (fun _ => ?_)
  | with_reducible refine w_dic2 (fun _ _ => rfl) (fun _ => ?_)
  | with_reducible refine w_bm ?_
  | ((with_reducible refine m_app0 ?hh ?_); (case hh => walk_at "len"))
  | ((with_reducible refine m_app1 ?hh ?_); (case hh => walk_at "len"))
  | ((with_reducible refine m_app2 ?hh ?_); (case hh => walk_at "len"))
  | refine ⟨ty_own List.mem_cons_self, ?_⟩
  | refine ⟨ty_own (List.mem_cons_of_mem _ List.mem_cons_self), ?_⟩
  | refine ⟨ty_own (List.mem_cons_of_mem _ (List.mem_cons_of_mem _ List.mem_cons_self)), ?_⟩
  | ((with_reducible show EvW _ (tVar _) _ _ _); refine w_vX rfl (by assumption) ?_)
  | with_reducible refine o_add ?_
  | with_reducible refine o_sub ?_
  | with_reducible refine o_pow18 ?_
  | with_reducible refine o_lt ?_
  | with_reducible refine o_le ?_
  | with_reducible refine o_gt ?_
  | with_reducible refine o_ge ?_
  | with_reducible refine o_eqI ?_
  | with_reducible refine o_neI ?_
  | with_reducible refine o_eqB ?_
  | with_reducible refine o_neB ?_
  | with_reducible refine o_isB ?_
  | with_reducible refine o_notB ?_
  | with_reducible refine u_neg ?_
  | ((with_reducible refine o_mul ?hh ?_); (case hh => first | exact cmul_l (by omega) (by omega) | exact cmul_r (by omega) (by omega)))
  | ((with_reducible refine o_modB ?hh ?_); (case hh => first | omega | (simp only [List.length_map] at *; omega)); intro _ _ _ _)
  | ((with_reducible refine o_fdiv ?hh ?_); (case hh => constructor <;> omega))
  | ((with_reducible show OpW _ (rIxL _) (SD.ad _) _ _ _); first | refine o_ixO List.mem_cons_self rfl ?_ | refine o_ixO (List.mem_cons_of_mem _ List.mem_cons_self) rfl ?_)
  | (with_reducible refine w_lst ?_)
  | (with_reducible refine w_tup ?_)
  | refine ⟨_, Dats.nil, sz_ok rfl, ?_⟩
  | refine ⟨_, (Dats.cons Dats.nil), sz_ok rfl, ?_⟩
  | refine ⟨_, (Dats.cons (Dats.cons Dats.nil)), sz_ok rfl, ?_⟩
  | refine ⟨_, (Dats.cons (Dats.cons (Dats.cons Dats.nil))), sz_ok rfl, ?_⟩
  | refine ⟨_, (Dats.cons (Dats.cons (Dats.cons (Dats.cons Dats.nil)))), sz_ok rfl, ?_⟩
  | refine ⟨_, (Dats.cons (Dats.cons (Dats.cons (Dats.cons (Dats.cons Dats.nil))))), sz_ok rfl, ?_⟩
  | refine ⟨_, (Dats.cons (Dats.cons (Dats.cons (Dats.cons (Dats.cons (Dats.cons Dats.nil)))))), sz_ok rfl, ?_⟩
  | refine ⟨_, (Dats.cons (Dats.cons (Dats.cons (Dats.cons (Dats.cons (Dats.cons (Dats.cons Dats.nil))))))), sz_ok rfl, ?_⟩
  | refine ⟨_, (Dats.cons (Dats.cons (Dats.cons (Dats.cons (Dats.cons (Dats.cons (Dats.cons (Dats.cons Dats.nil)))))))), sz_ok rfl, ?_⟩
  | refine ⟨_, (Dats.cons (Dats.cons (Dats.cons (Dats.cons (Dats.cons (Dats.cons (Dats.cons (Dats.cons (Dats.cons Dats.nil))))))))), sz_ok rfl, ?_⟩
  | refine ⟨_, (Dats.cons (Dats.cons (Dats.cons (Dats.cons (Dats.cons (Dats.cons (Dats.cons (Dats.cons (Dats.cons (Dats.cons Dats.nil)))))))))), sz_ok rfl, ?_⟩
  | refine ⟨_, (Dats.cons (Dats.cons (Dats.cons (Dats.cons (Dats.cons (Dats.cons (Dats.cons (Dats.cons (Dats.cons (Dats.cons (Dats.cons Dats.nil))))))))))), sz_ok rfl, ?_⟩
  | refine ⟨_, (Dats.cons (Dats.cons (Dats.cons (Dats.cons (Dats.cons (Dats.cons (Dats.cons (Dats.cons (Dats.cons (Dats.cons (Dats.cons (Dats.cons Dats.nil)))))))))))), sz_ok rfl, ?_⟩
  | ((with_reducible refine o_nthL ?h1 ?h2 ?_); (case h1 => omega); (case h2 => walk_at "len"))
  | ((with_reducible refine o_nthT ?h1 ?h2 ?_); (case h1 => omega); (case h2 => walk_at "len"))
  | ((with_reducible refine o_pickM ?h1 ?h2 ?h3 ?_); (case h1 => rfl); (case h2 => omega); (case h3 => walk_at "len"); intro v hv; simp only [List.map_cons, List.map_nil, intOf, List.mem_cons, List.not_mem_nil, or_false] at hv)
  | ((with_reducible refine g_cat .d .d ?hh ?_); (case hh => walk_at "len"))
  | ((with_reducible refine g_catT ?hh ?_); (case hh => walk_at "len"))
  | ((with_reducible show OpW _ (rIxT _) (SD.dat (PyData.tuple _)) (SD.dat (PyData.int _)) _ _); refine o_ixT rfl ?_)
  | ((with_reducible show OpW _ (rIxL _) (SD.dat (PyData.list _)) (SD.dat (PyData.int _)) _ _); refine o_ixL rfl ?_)
  | ((with_reducible refine o_nthS ?h1 ?h2 ?_); (case h1 => omega); (case h2 => walk_at "len"))
  | ((with_reducible refine o_nthG (by assumption) ?h1 ?h2 ?_); (case h1 => omega); (case h2 => walk_at "len"))
  | ((with_reducible refine o_nthST ?h1 ?h2 ?_); (case h1 => omega); (case h2 => walk_at "len"))
  | with_reducible refine g_rev ?_
  | with_reducible refine g_list .d ?_
  | with_reducible refine ⟨_, Lst.d, ?_⟩
  | with_reducible refine g_lenT ?_
  | with_reducible refine g_lenS ?_
  | with_reducible refine g_len .d ?_
  | with_reducible refine g_len (by assumption) ?_
  | with_reducible refine g_max2 ?_
  | with_reducible refine g_min2 ?_
  | with_reducible refine g_int ?_
  | with_reducible refine g_intB ?_
  | with_reducible refine g_tup .d ?_
  | with_reducible refine g_sumT ?_
  | with_reducible refine g_sum .d ?_
  | ((with_reducible show CbW _ (Wk.rLen _) [SD.ad _] _ _); first | refine g_lenO List.mem_cons_self ?_ | refine g_lenO (List.mem_cons_of_mem _ List.mem_cons_self) ?_ | refine g_lenO (List.mem_cons_of_mem _ (List.mem_cons_of_mem _ List.mem_cons_self)) ?_)
  | ((with_reducible show OpW _ (rIxT _) (SD.ad _) (SD.dat (PyData.int _)) _ _); refine o_ixTO List.mem_cons_self rfl ?_)
  | ((with_reducible show CbW _ (rIsi _) [SD.ad _, SD.ty _] _ _); first | refine i_TO (b := true) List.mem_cons_self (by decide +kernel) ?_ | refine i_TO (b := false) List.mem_cons_self (by decide +kernel) ?_ | refine i_O (b := true) (List.mem_cons_of_mem _ (List.mem_cons_of_mem _ List.mem_cons_self)) (by decide +kernel) ?_ | refine i_O (b := true) List.mem_cons_self (by decide +kernel) ?_ | refine i_O (b := true) (List.mem_cons_of_mem _ List.mem_cons_self) (by decide +kernel) ?_ | refine i_O (b := false) List.mem_cons_self (by decide +kernel) ?_ | refine i_O (b := false) (List.mem_cons_of_mem _ List.mem_cons_self) (by decide +kernel) ?_)
  | ((with_reducible refine i_B (b := true) ?hh ?_); (case hh => decide +kernel))
  | ((with_reducible refine i_B (b := false) ?hh ?_); (case hh => decide +kernel))
  | ((with_reducible refine i_I (b := true) ?hh ?_); (case hh => decide +kernel))
  | ((with_reducible refine i_I (b := false) ?hh ?_); (case hh => decide +kernel))
  | ((with_reducible refine i_T (b := true) ?hh ?_); (case hh => decide +kernel))
  | ((with_reducible refine i_T (b := false) ?hh ?_); (case hh => decide +kernel))
  | ((with_reducible refine i_L (b := true) ?hh ?_); (case hh => decide +kernel))
  | ((with_reducible refine i_L (b := false) ?hh ?_); (case hh => decide +kernel))
  | ((with_reducible refine i_N (b := true) ?hh ?_); (case hh => decide +kernel))
  | ((with_reducible refine i_N (b := false) ?hh ?_); (case hh => decide +kernel))
  | with_reducible refine g_sl .d ?_
  | with_reducible refine sl_T ?_
  | ((with_reducible refine o_eqP ?h1 ?h2 ?_); (case h1 => walk_at "pl"); (case h2 => walk_at "pl"); intro _ _)
  | ((with_reducible refine o_neP ?h1 ?h2 ?_); (case h1 => walk_at "pl"); (case h2 => walk_at "pl"); intro _ _)
  | refine b_dec (fun hd => ?_) (fun hd => ?_)
  | refine b_ndec (fun hd => ?_) (fun hd => ?_)
  | refine b_true ?_
  | refine b_false ?_
  | with_reducible refine b_any (fun hd => ?_) (fun hd => ?_)
  | with_reducible refine ⟨_, rfl, ?_⟩
  | with_reducible refine ⟨_, _, rfl, rfl, ?_⟩
  | with_reducible refine ⟨rfl, ?_⟩
  | fail "walk")
local macro_rules | `(tactic| walk_at "w") => `(tactic| first
  | with_reducible refine s_seq ?_
  | with_reducible refine s_next ?_
  | with_reducible refine s_asg ?_
  | with_reducible refine s_ret ?_
  | with_reducible refine s_retN ?_
  | with_reducible refine s_drop ?_
  | with_reducible refine s_if ?_
  | with_reducible refine s_setL ?_
  | ((with_reducible show StW _ (tRz _ _) _ _ _); refine s_rz (fun _ hx => hx) ?_)
  | ((with_reducible show StW _ (tRzI _ _ _ _) _ _ _); refine s_rzI (fun _ hx => hx) ?_)
  | walk_at "e")
def topS (i : Nat) : Stmt := PySem.Challenge.pw_walkhands_k37_errors.main.body.getD i (.Pass ⟨0, 0, 0, 0⟩)
section
variable {P : Program} {w : World} {K : PySem.W.Frag} {mg : Str → Option Value} {base : Heap}
def pre_law_draws : Pre := fun rs O Q => ∃ cell : Int, rs = [iV cell, iV 1000003, iV 6] ∧ ∀ row : List Int, row.length = 6 → (∀ v ∈ row, 0 ≤ v ∧ v < 1000003) → Q (.dat (lI row)) O
theorem len_law_draws (rs : List SD) (O : Own) (Q : SD → Own → Prop) (h : pre_law_draws rs O Q) : rs.length = 3 := by
  obtain ⟨ns, rfl, _⟩ := h
  rfl
abbrev s_law_draws : Stmt := topS 18
theorem sc_law_draws : FnScope ["cell", "modulus", "count", "number", "row", "k", "mixed"] ["cell", "modulus", "count"] (defScope s_law_draws) := ⟨rfl, rfl, rfl, by decide +kernel, rfl, by decide +kernel, by decide +kernel⟩
set_option maxHeartbeats 4000000 in
theorem ok_law_draws  (D : Def K mg "_law_draws" s_law_draws) (m_int : mg "int" = none) (m_range : mg "range" = none) : Callee P w K mg base "_law_draws" ["cell", "modulus", "count"] 1 pre_law_draws := by
  obtain ⟨f, fd, F, hmg⟩ := D
  refine ⟨f, fd, fn_ok F sc_law_draws len_law_draws fun cdv A outer s H E hr => ⟨_, (pss_cons (ps_set (i := 3) sc_law_draws.nd rfl (.inl rfl) (pv 0))
      (pss_cons (ps_if (pt_cmpR op_lt (pv 3) pe_int (nomark _)) (pss_one (ps_set (i := 3) sc_law_draws.nd rfl (.inl rfl) (pe_op op_sub pe_int (pv 3)))) pss_nil)
      (pss_cons (ps_set (i := 4) sc_law_draws.nd rfl (.inl rfl) (pe_lst pa_nil))
      (pss_cons (ps_if (pt_cmpR op_ge (pv 3) (pe_op op_pow pe_int pe_int) (nomark _)) (pss_cons (ps_for PassesOwn.never rfl (pi_range1 (by rfl) m_range (pa_cons (pv 2) pa_nil)) (pg_name (i := 5) sc_law_draws.nd rfl (.inl rfl)) (pss_cons (psApp K (ps_expr (pe_bm PySem.F.plainAttrs_list PySem.F.slot_list_append PySem.F.type_list_append mt_append (pv 4) (pa_cons (pe_op op_mod (pe_callTy kInt1 (by rfl) m_int (by decide +kernel) (pa_cons (pv 3) pa_nil)) (pv 1)) pa_nil))))
      (pss_one (ps_set (i := 3) sc_law_draws.nd rfl (.inl rfl) (pe_op op_fdiv (pv 3) (pv 1))))))
      (pss_one (ps_ret (pv 4)))) pss_nil)
      (pss_cons (ps_for PassesOwn.never rfl (pi_range1 (by rfl) m_range (pa_cons (pv 2) pa_nil)) (pg_name (i := 5) sc_law_draws.nd rfl (.inl rfl)) (pss_cons (ps_set (i := 6) sc_law_draws.nd rfl (.inl rfl) (pe_op op_mod (pe_callTy kInt1 (by rfl) m_int (by decide +kernel) (pa_cons (pe_op op_mul (pe_op op_add (pe_op op_add (pv 3) (pe_op op_mul pe_int (pv 5))) pe_int) pe_int) pa_nil)) pe_int))
      (pss_cons (ps_set (i := 6) sc_law_draws.nd rfl (.inl rfl) (pe_op op_mod (pe_callTy kInt1 (by rfl) m_int (by decide +kernel) (pa_cons (pe_op op_add (pe_op op_mul (pv 6) pe_int) (pe_op op_mul pe_int (pv 5))) pa_nil)) pe_int))
      (pss_one (psApp K (ps_expr (pe_bm PySem.F.plainAttrs_list PySem.F.slot_list_append PySem.F.type_list_append mt_append (pv 4) (pa_cons (pe_op op_mod (pe_callTy kInt1 (by rfl) m_int (by decide +kernel) (pa_cons (pe_op op_fdiv (pv 6) pe_int) pa_nil)) (pv 1)) pa_nil))))))))
      (pss_one (ps_ret (pv 4)))))))), ?_⟩, hmg, F.kp, F.binds fun _ _ _ _ _ _ us hl => match us, hl with | [_, _, _], _ => rfl, Wk.Fun.lk F⟩
  intro rs O Q h
  obtain ⟨cell, rfl, q⟩ := h
  show StW K _ O [iV cell, iV 1000003, iV 6, .non, .non, .non, .non] _
  refine s_seq (s_asg ?_)
  repeat' walk_at "e"
  refine s_cut (fun O1 ds1 => ∃ n : Int, 0 ≤ n ∧ O1 = O ∧ ds1 = [iV cell, iV 1000003, iV 6, iV n, .non, .non, .non]) ?_ ?_
  · repeat' walk_at "w"
    · exact ⟨0 - cell, by omega, rfl, rfl⟩
    · exact ⟨cell, by omega, rfl, rfl⟩
  · rintro O1 ds1 ⟨n, hn0, hO, rfl⟩
    subst hO
    refine s_seq (s_asg (w_lstO (w_nil ⟨sz_ok rfl, fun p => ?_⟩)))
    refine s_seq (s_if ?_)
    repeat' walk_at "e"
    · refine s_seq (s_for1 ?_)
      repeat' walk_at "e"
      refine ⟨by decide, by decide, fun j O2 ds2 => ∃ (us : List Int) (m : Int) (z : SD), 0 ≤ m ∧ us.length = j ∧ (∀ v ∈ us, 0 ≤ v ∧ v < 1000003) ∧ O2 = (p, .lst (us.map fun n => iV n)) :: O1 ∧ ds2 = [iV cell, iV 1000003, iV 6, iV m, .ad p, z, .non], ⟨[], n, .non, hn0, rfl, fun _ h => absurd h List.not_mem_nil, rfl, rfl⟩, fun j O2 ds2 hj hI B2 hB2 => ?_, fun O2 ds2 hI => ?_⟩
      · obtain ⟨us, m, z, hm0, hul, hu, rfl, rfl⟩ := hI
        repeat' walk_at "w"
        rename_i v hv0 hv1 hv
        refine hB2.nx _ _ ⟨us ++ [v], m / 1000003, _, by omega, by rw [List.length_append, hul]; rfl, fun x hx => ?_, by rw [List.map_append]; rfl, rfl⟩
        rcases List.mem_append.mp hx with hx | hx
        · exact hu x hx
        · rw [List.mem_singleton.mp hx]
          exact ⟨hv0, hv1⟩
      · obtain ⟨us, m, z, hm0, hul, hu, rfl, rfl⟩ := hI
        refine s_ret (w_frz (w_vA rfl ⟨p, _, _, O1, rfl, .refl _, Dats.ints us, ?_⟩))
        exact q us hul hu
    · with_reducible refine s_next ?_
      refine s_seq (s_for1 ?_)
      repeat' walk_at "e"
      refine ⟨by decide, by decide, fun j O2 ds2 => ∃ (us : List Int) (z z2 : SD), us.length = j ∧ (∀ v ∈ us, 0 ≤ v ∧ v < 1000003) ∧ O2 = (p, .lst (us.map fun n => iV n)) :: O1 ∧ ds2 = [iV cell, iV 1000003, iV 6, iV n, .ad p, z, z2], ⟨[], .non, .non, rfl, fun _ h => absurd h List.not_mem_nil, rfl, rfl⟩, fun j O2 ds2 hj hI B2 hB2 => ?_, fun O2 ds2 hI => ?_⟩
      · obtain ⟨us, z, z2, hul, hu, rfl, rfl⟩ := hI
        repeat' walk_at "w"
        rename_i v hv0 hv1 hv
        refine hB2.nx _ _ ⟨us ++ [v], _, _, by rw [List.length_append, hul]; rfl, fun x hx => ?_, by rw [List.map_append]; rfl, rfl⟩
        rcases List.mem_append.mp hx with hx | hx
        · exact hu x hx
        · rw [List.mem_singleton.mp hx]
          exact ⟨hv0, hv1⟩
      · obtain ⟨us, z, z2, hul, hu, rfl, rfl⟩ := hI
        refine s_ret (w_frz (w_vA rfl ⟨p, _, _, O1, rfl, .refl _, Dats.ints us, ?_⟩))
        exact q us hul hu
structure BoxOk (row : List Int) : Prop where
  pos : 0 < row.length
  len : row.length ≤ 1000
  all : ∀ v ∈ row, 0 ≤ v ∧ v < 1000003
abbrev Box (bx : Addr) (row : List Int) (k : Int) : Addr × OD := (bx, .dK [(.inr "row", .dat (lI row)), (.inr "at", iV k)])
def pre_law_box : Pre := fun rs O Q => ∃ ns : List Int, rs = [.scr ns] ∧ ns.length ≤ 63 ∧ ∀ (bx : Addr) (row : List Int), BoxOk row → Q (.ad bx) (Box bx row 0 :: O)
theorem len_law_box (rs : List SD) (O : Own) (Q : SD → Own → Prop) (h : pre_law_box rs O Q) : rs.length = 1 := by
  obtain ⟨ns, rfl, _⟩ := h
  rfl
abbrev s_law_box : Stmt := topS 19
theorem sc_law_box : FnScope ["script", "row", "cell"] ["script"] (defScope s_law_box) := ⟨rfl, rfl, rfl, by decide +kernel, rfl, by decide +kernel, by decide +kernel⟩
set_option maxHeartbeats 4000000 in
theorem ok_law_box  (D : Def K mg "_law_box" s_law_box) (C_law_draws : Callee P w K mg base "_law_draws" ["cell", "modulus", "count"] 1 pre_law_draws) (m_len : mg "len" = none) : Callee P w K mg base "_law_box" ["script"] 2 pre_law_box := by
  obtain ⟨f, fd, F, hmg⟩ := D
  obtain ⟨f_law_draws, fd_law_draws, G_law_draws, g_law_draws, kp_law_draws, b_law_draws, _⟩ := C_law_draws
  refine ⟨f, fd, fn_ok F sc_law_box len_law_box fun cdv A outer s H E hr => ⟨_, (pss_cons (ps_set (i := 1) sc_law_box.nd rfl (.inl rfl) (pe_lst pa_nil))
      (pss_cons (ps_for PassesOwn.never rfl (piL K (pv 0)) (pg_name (i := 2) sc_law_box.nd rfl (.inl rfl)) (pss_one (ps_set (i := 1) sc_law_box.nd rfl (.inl rfl) (pe_op op_cat (pv 1) (pe_call G_law_draws (hr.mono (by decide)) (by rfl) g_law_draws kp_law_draws b_law_draws .nil pass0 (pa_cons (pv 2) (pa_cons pe_int (pa_cons pe_int pa_nil))))))))
      (pss_cons (ps_if (pt_cmpR op_eq (pe_callB (kLen K) (by rfl) m_len PySem.boot_len (pa_cons (pv 1) pa_nil)) pe_int (nomark _)) (pss_one (ps_set (i := 1) sc_law_box.nd rfl (.inl rfl) (pe_lst (pa_cons pe_int (pa_cons pe_int (pa_cons pe_int (pa_cons pe_int (pa_cons pe_int (pa_cons pe_int (pa_cons pe_int pa_nil)))))))))) pss_nil)
      (pss_one (ps_ret (pe_disp (pps_cons pe_str (pv 1) (pps_cons pe_str pe_int pps_nil)) (by rfl) (by rfl) (fun z => by cases z) (by decide))))))), ?_⟩, hmg, F.kp, F.binds fun _ _ _ _ _ _ us hl => match us, hl with | [_], _ => rfl, Wk.Fun.lk F⟩
  intro rs O Q h
  obtain ⟨ns, rfl, hn, q⟩ := h
  show StW K _ O [.scr ns, .non, .non] _
  refine s_seq (s_asg ?_)
  repeat' walk_at "e"
  refine s_seq (s_forS (w_vS rfl ⟨ns, rfl, fun i O2 ds2 => ∃ (us : List Int) (z : SD), us.length = 6 * i ∧ (∀ v ∈ us, 0 ≤ v ∧ v < 1000003) ∧ O2 = O ∧ ds2 = [.scr ns, .dat (lI us), z], ⟨[], .non, rfl, fun _ h => absurd h List.not_mem_nil, rfl, rfl⟩, fun i d O2 ds2 hd hI B hB => ?_, fun O2 ds2 hI => ?_⟩))
  · obtain ⟨us, z, hul, hu, hO, rfl⟩ := hI
    have hi : i < ns.length := (List.getElem?_eq_some_iff.mp hd).1
    refine s_asg ?_
    repeat' walk_at "e"
    refine ⟨d, rfl, fun row hr hrow => ?_⟩
    refine g_cat .d .d (by rw [List.length_map, List.length_map]; omega) ?_
    rw [← List.map_append]
    refine hB.nx _ _ ⟨us ++ row, _, by rw [List.length_append, hul, hr]; omega, fun x hx => ?_, hO, rfl⟩
    rcases List.mem_append.mp hx with hx | hx
    · exact hu x hx
    · exact hrow x hx
  · obtain ⟨us, z, hul, hu, hO, rfl⟩ := hI
    subst hO
    refine s_cut (fun O1 ds1 => ∃ row : List Int, BoxOk row ∧ O1 = O2 ∧ ds1 = [.scr ns, .dat (lI row), z]) ?_ ?_
    · refine s_if ?_
      repeat' walk_at "e"
      · refine s_asg ?_
        repeat' walk_at "e"
        exact ⟨[11, 5, 2, 7, 31, 101, 997], ⟨by decide, by decide, by decide⟩, rfl, rfl⟩
      · rename_i hf
        rw [List.length_map] at hf
        with_reducible refine s_next ?_
        exact ⟨us, ⟨by omega, by omega, hu⟩, rfl, rfl⟩
    · rintro O1 ds1 ⟨row, hrow, hO, rfl⟩
      subst hO
      refine s_ret (w_dic2O (fun _ _ => rfl) (fun pn => ?_))
      repeat' walk_at "e"
      exact q pn row hrow
def pre_law_next : Pre := fun rs O Q => ∃ (bx : Addr) (row : List Int) (k m : Int) (O' : Own), rs = [.ad bx, iV m] ∧ O = Box bx row k :: O' ∧ BoxOk row ∧ 0 ≤ k ∧ k < 1000000000 ∧ 0 < m ∧ ∀ n : Int, 0 ≤ n → n < m → Q (iV n) (Box bx row (k + 1) :: O')
theorem len_law_next (rs : List SD) (O : Own) (Q : SD → Own → Prop) (h : pre_law_next rs O Q) : rs.length = 2 := by
  obtain ⟨ts, a, m, x, y, rfl, _⟩ := h
  rfl
local macro_rules | `(tactic| walk_at "e") => `(tactic| ((with_reducible show pre_law_next _ _ _); refine ⟨_, _, _, _, _, rfl, rfl, by assumption, by omega, by omega, by omega, ?_⟩; intro _ _ _))
abbrev s_law_next : Stmt := topS 20
theorem sc_law_next : FnScope ["box", "modulus", "at", "number"] ["box", "modulus"] (defScope s_law_next) := ⟨rfl, rfl, rfl, by decide +kernel, rfl, by decide +kernel, by decide +kernel⟩
set_option maxHeartbeats 4000000 in
theorem ok_law_next  (D : Def K mg "_law_next" s_law_next) (m_int : mg "int" = none) (m_len : mg "len" = none) : Callee P w K mg base "_law_next" ["box", "modulus"] 1 pre_law_next := by
  obtain ⟨f, fd, F, hmg⟩ := D
  refine ⟨f, fd, fn_ok F sc_law_next len_law_next fun cdv A outer s H E hr => ⟨_, (pss_cons (ps_set (i := 2) sc_law_next.nd rfl (.inl rfl) (pe_dget (Nat.lt_of_le_of_lt (Nat.add_le_add_left (by decide : 1 ≤ 64) _) hr.units) (pv 0) pe_str (fun _ _ => rfl)))
      (pss_cons (ps_asg (pe_op op_add (pv 2) pe_int) (pg_sub (pv 0) pe_str (set_dict (Nat.lt_of_le_of_lt (Nat.add_le_add_left (by decide : 1 ≤ 64) _) hr.units))))
      (pss_cons (ps_set (i := 3) sc_law_next.nd rfl (.inl rfl) (pe_ix (ixL K) (pe_dget (Nat.lt_of_le_of_lt (Nat.add_le_add_left (by decide : 1 ≤ 64) _) hr.units) (pv 0) pe_str (fun _ _ => rfl)) (pe_op op_mod (pv 2) (pe_callB (kLen K) (by rfl) m_len PySem.boot_len (pa_cons (pe_dget (Nat.lt_of_le_of_lt (Nat.add_le_add_left (by decide : 1 ≤ 64) _) hr.units) (pv 0) pe_str (fun _ _ => rfl)) pa_nil))) (fun _ _ => rfl)))
      (pss_one (ps_ret (pe_op op_mod (pe_callTy kInt1 (by rfl) m_int (by decide +kernel) (pa_cons (pe_op op_add (pv 3) (pe_op op_mul pe_int (pe_op op_fdiv (pv 2) (pe_callB (kLen K) (by rfl) m_len PySem.boot_len (pa_cons (pe_dget (Nat.lt_of_le_of_lt (Nat.add_le_add_left (by decide : 1 ≤ 64) _) hr.units) (pv 0) pe_str (fun _ _ => rfl)) pa_nil))))) pa_nil)) (pv 1))))))), ?_⟩, hmg, F.kp, F.binds fun _ _ _ _ _ _ us hl => match us, hl with | [_, _], _ => rfl, Wk.Fun.lk F⟩
  intro rs O Q h
  obtain ⟨bx, row, k, m, O', rfl, rfl, hr, h0, h1, hm, q⟩ := h
  have hp := hr.pos
  have hl := hr.len
  have hlm : (row.map PyData.int).length = row.length := List.length_map ..
  show StW K _ (Box bx row k :: O') [.ad bx, iV m, .non, .non] _
  refine s_seq (s_asg (w_dget (w_vA rfl ⟨bx, _, iV k, rfl, List.mem_cons_self, rfl, ?_⟩)))
  refine s_seq (s_setD ?_)
  repeat' walk_at "e"
  refine ⟨bx, _, iV k, O', _, rfl, .refl _, Nat.le_of_ble_eq_true rfl, rfl, .refl _, ?_⟩
  show StW K _ (Box bx row (k + 1) :: O') [.ad bx, iV m, iV k, .non] _
  refine s_seq (s_asg (w_op (w_dget (w_vA rfl ⟨bx, _, .dat (lI row), rfl, List.mem_cons_self, rfl, ?_⟩))))
  refine w_op (w_vD rfl (w_cb (w_cons (w_dget (w_vA rfl ⟨bx, _, .dat (lI row), rfl, List.mem_cons_self, rfl, ?_⟩)))))
  repeat' walk_at "e"
  refine s_ret (w_op (w_cb (w_cons (w_op ?_))))
  repeat' walk_at "e"
  refine w_dget (w_vA rfl ⟨bx, _, .dat (lI row), rfl, List.mem_cons_self, rfl, ?_⟩)
  repeat' walk_at "e"
  exact q _ (by assumption) (by assumption)
def pre_law_kinds (c0 c1 c2 c3 c4 c5 c6 c7 c8 c9 c10 c11 c12 c13 c14 : Addr) : Pre := fun rs O Q => ∃ (i : Nat) (f : Option (Str × PyData)), i < 15 ∧ rs = [.xob ([c0, c1, c2, c3, c4, c5, c6, c7, c8, c9, c10, c11, c12, c13, c14].getD i 0) f] ∧ Q (.dat (.list ((List.range 15).map fun j => .bool (decide (i = j))))) O
theorem len_law_kinds {c0 c1 c2 c3 c4 c5 c6 c7 c8 c9 c10 c11 c12 c13 c14 : Addr} (rs : List SD) (O : Own) (Q : SD → Own → Prop) (h : pre_law_kinds c0 c1 c2 c3 c4 c5 c6 c7 c8 c9 c10 c11 c12 c13 c14 rs O Q) : rs.length = 1 := by
  obtain ⟨i, f, _, rfl, _⟩ := h
  rfl
abbrev s_law_kinds : Stmt := topS 21
theorem sc_law_kinds : FnScope ["e", "kinds"] ["e"] (defScope s_law_kinds) := ⟨rfl, rfl, rfl, by decide +kernel, rfl, by decide +kernel, by decide +kernel⟩
set_option maxHeartbeats 4000000 in
theorem ok_law_kinds  {C_AmountTooGreat : Addr} {C_DifferentEnds : Addr} {C_LetterTooGreat : Addr} {C_NoSuchColumn : Addr} {C_NoSuchCorner : Addr} {C_NoSuchRow : Addr} {C_NotAFamily : Addr} {C_NotAPair : Addr} {C_NotHeights : Addr} {C_NotStrip : Addr} {C_TooManyChanges : Addr} {C_TooManyLetters : Addr} {C_WrongAmounts : Addr} {C_WrongPlace : Addr} {C_WrongSize : Addr} (D : Def K mg "_law_kinds" s_law_kinds) (m_isinstance : mg "isinstance" = none) (S_AmountTooGreat : ExS K mg "AmountTooGreat" C_AmountTooGreat) (S_DifferentEnds : ExS K mg "DifferentEnds" C_DifferentEnds) (S_LetterTooGreat : ExS K mg "LetterTooGreat" C_LetterTooGreat) (S_NoSuchColumn : ExS K mg "NoSuchColumn" C_NoSuchColumn) (S_NoSuchCorner : ExS K mg "NoSuchCorner" C_NoSuchCorner) (S_NoSuchRow : ExS K mg "NoSuchRow" C_NoSuchRow) (S_NotAFamily : ExS K mg "NotAFamily" C_NotAFamily) (S_NotAPair : ExS K mg "NotAPair" C_NotAPair) (S_NotHeights : ExS K mg "NotHeights" C_NotHeights) (S_NotStrip : ExS K mg "NotStrip" C_NotStrip) (S_TooManyChanges : ExS K mg "TooManyChanges" C_TooManyChanges) (S_TooManyLetters : ExS K mg "TooManyLetters" C_TooManyLetters) (S_WrongAmounts : ExS K mg "WrongAmounts" C_WrongAmounts) (S_WrongPlace : ExS K mg "WrongPlace" C_WrongPlace) (S_WrongSize : ExS K mg "WrongSize" C_WrongSize) (q_NotStrip_NotStrip : PySem.W.kitOne K (.ref C_NotStrip) (.ref C_NotStrip) = some true) (q_NotStrip_DifferentEnds : PySem.W.kitOne K (.ref C_NotStrip) (.ref C_DifferentEnds) = some false) (q_NotStrip_AmountTooGreat : PySem.W.kitOne K (.ref C_NotStrip) (.ref C_AmountTooGreat) = some false) (q_NotStrip_LetterTooGreat : PySem.W.kitOne K (.ref C_NotStrip) (.ref C_LetterTooGreat) = some false) (q_NotStrip_TooManyLetters : PySem.W.kitOne K (.ref C_NotStrip) (.ref C_TooManyLetters) = some false) (q_NotStrip_NotAPair : PySem.W.kitOne K (.ref C_NotStrip) (.ref C_NotAPair) = some false) (q_NotStrip_NotAFamily : PySem.W.kitOne K (.ref C_NotStrip) (.ref C_NotAFamily) = some false) (q_NotStrip_NotHeights : PySem.W.kitOne K (.ref C_NotStrip) (.ref C_NotHeights) = some false) (q_NotStrip_NoSuchRow : PySem.W.kitOne K (.ref C_NotStrip) (.ref C_NoSuchRow) = some false) (q_NotStrip_NoSuchColumn : PySem.W.kitOne K (.ref C_NotStrip) (.ref C_NoSuchColumn) = some false) (q_NotStrip_NoSuchCorner : PySem.W.kitOne K (.ref C_NotStrip) (.ref C_NoSuchCorner) = some false) (q_NotStrip_WrongAmounts : PySem.W.kitOne K (.ref C_NotStrip) (.ref C_WrongAmounts) = some false) (q_NotStrip_WrongSize : PySem.W.kitOne K (.ref C_NotStrip) (.ref C_WrongSize) = some false) (q_NotStrip_TooManyChanges : PySem.W.kitOne K (.ref C_NotStrip) (.ref C_TooManyChanges) = some false) (q_NotStrip_WrongPlace : PySem.W.kitOne K (.ref C_NotStrip) (.ref C_WrongPlace) = some false) (q_DifferentEnds_NotStrip : PySem.W.kitOne K (.ref C_DifferentEnds) (.ref C_NotStrip) = some false) (q_DifferentEnds_DifferentEnds : PySem.W.kitOne K (.ref C_DifferentEnds) (.ref C_DifferentEnds) = some true) (q_DifferentEnds_AmountTooGreat : PySem.W.kitOne K (.ref C_DifferentEnds) (.ref C_AmountTooGreat) = some false) (q_DifferentEnds_LetterTooGreat : PySem.W.kitOne K (.ref C_DifferentEnds) (.ref C_LetterTooGreat) = some false) (q_DifferentEnds_TooManyLetters : PySem.W.kitOne K (.ref C_DifferentEnds) (.ref C_TooManyLetters) = some false) (q_DifferentEnds_NotAPair : PySem.W.kitOne K (.ref C_DifferentEnds) (.ref C_NotAPair) = some false) (q_DifferentEnds_NotAFamily : PySem.W.kitOne K (.ref C_DifferentEnds) (.ref C_NotAFamily) = some false) (q_DifferentEnds_NotHeights : PySem.W.kitOne K (.ref C_DifferentEnds) (.ref C_NotHeights) = some false) (q_DifferentEnds_NoSuchRow : PySem.W.kitOne K (.ref C_DifferentEnds) (.ref C_NoSuchRow) = some false) (q_DifferentEnds_NoSuchColumn : PySem.W.kitOne K (.ref C_DifferentEnds) (.ref C_NoSuchColumn) = some false) (q_DifferentEnds_NoSuchCorner : PySem.W.kitOne K (.ref C_DifferentEnds) (.ref C_NoSuchCorner) = some false) (q_DifferentEnds_WrongAmounts : PySem.W.kitOne K (.ref C_DifferentEnds) (.ref C_WrongAmounts) = some false) (q_DifferentEnds_WrongSize : PySem.W.kitOne K (.ref C_DifferentEnds) (.ref C_WrongSize) = some false) (q_DifferentEnds_TooManyChanges : PySem.W.kitOne K (.ref C_DifferentEnds) (.ref C_TooManyChanges) = some false) (q_DifferentEnds_WrongPlace : PySem.W.kitOne K (.ref C_DifferentEnds) (.ref C_WrongPlace) = some false) (q_AmountTooGreat_NotStrip : PySem.W.kitOne K (.ref C_AmountTooGreat) (.ref C_NotStrip) = some false) (q_AmountTooGreat_DifferentEnds : PySem.W.kitOne K (.ref C_AmountTooGreat) (.ref C_DifferentEnds) = some false) (q_AmountTooGreat_AmountTooGreat : PySem.W.kitOne K (.ref C_AmountTooGreat) (.ref C_AmountTooGreat) = some true) (q_AmountTooGreat_LetterTooGreat : PySem.W.kitOne K (.ref C_AmountTooGreat) (.ref C_LetterTooGreat) = some false) (q_AmountTooGreat_TooManyLetters : PySem.W.kitOne K (.ref C_AmountTooGreat) (.ref C_TooManyLetters) = some false) (q_AmountTooGreat_NotAPair : PySem.W.kitOne K (.ref C_AmountTooGreat) (.ref C_NotAPair) = some false) (q_AmountTooGreat_NotAFamily : PySem.W.kitOne K (.ref C_AmountTooGreat) (.ref C_NotAFamily) = some false) (q_AmountTooGreat_NotHeights : PySem.W.kitOne K (.ref C_AmountTooGreat) (.ref C_NotHeights) = some false) (q_AmountTooGreat_NoSuchRow : PySem.W.kitOne K (.ref C_AmountTooGreat) (.ref C_NoSuchRow) = some false) (q_AmountTooGreat_NoSuchColumn : PySem.W.kitOne K (.ref C_AmountTooGreat) (.ref C_NoSuchColumn) = some false) (q_AmountTooGreat_NoSuchCorner : PySem.W.kitOne K (.ref C_AmountTooGreat) (.ref C_NoSuchCorner) = some false) (q_AmountTooGreat_WrongAmounts : PySem.W.kitOne K (.ref C_AmountTooGreat) (.ref C_WrongAmounts) = some false) (q_AmountTooGreat_WrongSize : PySem.W.kitOne K (.ref C_AmountTooGreat) (.ref C_WrongSize) = some false) (q_AmountTooGreat_TooManyChanges : PySem.W.kitOne K (.ref C_AmountTooGreat) (.ref C_TooManyChanges) = some false) (q_AmountTooGreat_WrongPlace : PySem.W.kitOne K (.ref C_AmountTooGreat) (.ref C_WrongPlace) = some false) (q_LetterTooGreat_NotStrip : PySem.W.kitOne K (.ref C_LetterTooGreat) (.ref C_NotStrip) = some false) (q_LetterTooGreat_DifferentEnds : PySem.W.kitOne K (.ref C_LetterTooGreat) (.ref C_DifferentEnds) = some false) (q_LetterTooGreat_AmountTooGreat : PySem.W.kitOne K (.ref C_LetterTooGreat) (.ref C_AmountTooGreat) = some false) (q_LetterTooGreat_LetterTooGreat : PySem.W.kitOne K (.ref C_LetterTooGreat) (.ref C_LetterTooGreat) = some true) (q_LetterTooGreat_TooManyLetters : PySem.W.kitOne K (.ref C_LetterTooGreat) (.ref C_TooManyLetters) = some false) (q_LetterTooGreat_NotAPair : PySem.W.kitOne K (.ref C_LetterTooGreat) (.ref C_NotAPair) = some false) (q_LetterTooGreat_NotAFamily : PySem.W.kitOne K (.ref C_LetterTooGreat) (.ref C_NotAFamily) = some false) (q_LetterTooGreat_NotHeights : PySem.W.kitOne K (.ref C_LetterTooGreat) (.ref C_NotHeights) = some false) (q_LetterTooGreat_NoSuchRow : PySem.W.kitOne K (.ref C_LetterTooGreat) (.ref C_NoSuchRow) = some false) (q_LetterTooGreat_NoSuchColumn : PySem.W.kitOne K (.ref C_LetterTooGreat) (.ref C_NoSuchColumn) = some false) (q_LetterTooGreat_NoSuchCorner : PySem.W.kitOne K (.ref C_LetterTooGreat) (.ref C_NoSuchCorner) = some false) (q_LetterTooGreat_WrongAmounts : PySem.W.kitOne K (.ref C_LetterTooGreat) (.ref C_WrongAmounts) = some false) (q_LetterTooGreat_WrongSize : PySem.W.kitOne K (.ref C_LetterTooGreat) (.ref C_WrongSize) = some false) (q_LetterTooGreat_TooManyChanges : PySem.W.kitOne K (.ref C_LetterTooGreat) (.ref C_TooManyChanges) = some false) (q_LetterTooGreat_WrongPlace : PySem.W.kitOne K (.ref C_LetterTooGreat) (.ref C_WrongPlace) = some false) (q_TooManyLetters_NotStrip : PySem.W.kitOne K (.ref C_TooManyLetters) (.ref C_NotStrip) = some false) (q_TooManyLetters_DifferentEnds : PySem.W.kitOne K (.ref C_TooManyLetters) (.ref C_DifferentEnds) = some false) (q_TooManyLetters_AmountTooGreat : PySem.W.kitOne K (.ref C_TooManyLetters) (.ref C_AmountTooGreat) = some false) (q_TooManyLetters_LetterTooGreat : PySem.W.kitOne K (.ref C_TooManyLetters) (.ref C_LetterTooGreat) = some false) (q_TooManyLetters_TooManyLetters : PySem.W.kitOne K (.ref C_TooManyLetters) (.ref C_TooManyLetters) = some true) (q_TooManyLetters_NotAPair : PySem.W.kitOne K (.ref C_TooManyLetters) (.ref C_NotAPair) = some false) (q_TooManyLetters_NotAFamily : PySem.W.kitOne K (.ref C_TooManyLetters) (.ref C_NotAFamily) = some false) (q_TooManyLetters_NotHeights : PySem.W.kitOne K (.ref C_TooManyLetters) (.ref C_NotHeights) = some false) (q_TooManyLetters_NoSuchRow : PySem.W.kitOne K (.ref C_TooManyLetters) (.ref C_NoSuchRow) = some false) (q_TooManyLetters_NoSuchColumn : PySem.W.kitOne K (.ref C_TooManyLetters) (.ref C_NoSuchColumn) = some false) (q_TooManyLetters_NoSuchCorner : PySem.W.kitOne K (.ref C_TooManyLetters) (.ref C_NoSuchCorner) = some false) (q_TooManyLetters_WrongAmounts : PySem.W.kitOne K (.ref C_TooManyLetters) (.ref C_WrongAmounts) = some false) (q_TooManyLetters_WrongSize : PySem.W.kitOne K (.ref C_TooManyLetters) (.ref C_WrongSize) = some false) (q_TooManyLetters_TooManyChanges : PySem.W.kitOne K (.ref C_TooManyLetters) (.ref C_TooManyChanges) = some false) (q_TooManyLetters_WrongPlace : PySem.W.kitOne K (.ref C_TooManyLetters) (.ref C_WrongPlace) = some false) (q_NotAPair_NotStrip : PySem.W.kitOne K (.ref C_NotAPair) (.ref C_NotStrip) = some false) (q_NotAPair_DifferentEnds : PySem.W.kitOne K (.ref C_NotAPair) (.ref C_DifferentEnds) = some false) (q_NotAPair_AmountTooGreat : PySem.W.kitOne K (.ref C_NotAPair) (.ref C_AmountTooGreat) = some false) (q_NotAPair_LetterTooGreat : PySem.W.kitOne K (.ref C_NotAPair) (.ref C_LetterTooGreat) = some false) (q_NotAPair_TooManyLetters : PySem.W.kitOne K (.ref C_NotAPair) (.ref C_TooManyLetters) = some false) (q_NotAPair_NotAPair : PySem.W.kitOne K (.ref C_NotAPair) (.ref C_NotAPair) = some true) (q_NotAPair_NotAFamily : PySem.W.kitOne K (.ref C_NotAPair) (.ref C_NotAFamily) = some false) (q_NotAPair_NotHeights : PySem.W.kitOne K (.ref C_NotAPair) (.ref C_NotHeights) = some false) (q_NotAPair_NoSuchRow : PySem.W.kitOne K (.ref C_NotAPair) (.ref C_NoSuchRow) = some false) (q_NotAPair_NoSuchColumn : PySem.W.kitOne K (.ref C_NotAPair) (.ref C_NoSuchColumn) = some false) (q_NotAPair_NoSuchCorner : PySem.W.kitOne K (.ref C_NotAPair) (.ref C_NoSuchCorner) = some false) (q_NotAPair_WrongAmounts : PySem.W.kitOne K (.ref C_NotAPair) (.ref C_WrongAmounts) = some false) (q_NotAPair_WrongSize : PySem.W.kitOne K (.ref C_NotAPair) (.ref C_WrongSize) = some false) (q_NotAPair_TooManyChanges : PySem.W.kitOne K (.ref C_NotAPair) (.ref C_TooManyChanges) = some false) (q_NotAPair_WrongPlace : PySem.W.kitOne K (.ref C_NotAPair) (.ref C_WrongPlace) = some false) (q_NotAFamily_NotStrip : PySem.W.kitOne K (.ref C_NotAFamily) (.ref C_NotStrip) = some false) (q_NotAFamily_DifferentEnds : PySem.W.kitOne K (.ref C_NotAFamily) (.ref C_DifferentEnds) = some false) (q_NotAFamily_AmountTooGreat : PySem.W.kitOne K (.ref C_NotAFamily) (.ref C_AmountTooGreat) = some false) (q_NotAFamily_LetterTooGreat : PySem.W.kitOne K (.ref C_NotAFamily) (.ref C_LetterTooGreat) = some false) (q_NotAFamily_TooManyLetters : PySem.W.kitOne K (.ref C_NotAFamily) (.ref C_TooManyLetters) = some false) (q_NotAFamily_NotAPair : PySem.W.kitOne K (.ref C_NotAFamily) (.ref C_NotAPair) = some false) (q_NotAFamily_NotAFamily : PySem.W.kitOne K (.ref C_NotAFamily) (.ref C_NotAFamily) = some true) (q_NotAFamily_NotHeights : PySem.W.kitOne K (.ref C_NotAFamily) (.ref C_NotHeights) = some false) (q_NotAFamily_NoSuchRow : PySem.W.kitOne K (.ref C_NotAFamily) (.ref C_NoSuchRow) = some false) (q_NotAFamily_NoSuchColumn : PySem.W.kitOne K (.ref C_NotAFamily) (.ref C_NoSuchColumn) = some false) (q_NotAFamily_NoSuchCorner : PySem.W.kitOne K (.ref C_NotAFamily) (.ref C_NoSuchCorner) = some false) (q_NotAFamily_WrongAmounts : PySem.W.kitOne K (.ref C_NotAFamily) (.ref C_WrongAmounts) = some false) (q_NotAFamily_WrongSize : PySem.W.kitOne K (.ref C_NotAFamily) (.ref C_WrongSize) = some false) (q_NotAFamily_TooManyChanges : PySem.W.kitOne K (.ref C_NotAFamily) (.ref C_TooManyChanges) = some false) (q_NotAFamily_WrongPlace : PySem.W.kitOne K (.ref C_NotAFamily) (.ref C_WrongPlace) = some false) (q_NotHeights_NotStrip : PySem.W.kitOne K (.ref C_NotHeights) (.ref C_NotStrip) = some false) (q_NotHeights_DifferentEnds : PySem.W.kitOne K (.ref C_NotHeights) (.ref C_DifferentEnds) = some false) (q_NotHeights_AmountTooGreat : PySem.W.kitOne K (.ref C_NotHeights) (.ref C_AmountTooGreat) = some false) (q_NotHeights_LetterTooGreat : PySem.W.kitOne K (.ref C_NotHeights) (.ref C_LetterTooGreat) = some false) (q_NotHeights_TooManyLetters : PySem.W.kitOne K (.ref C_NotHeights) (.ref C_TooManyLetters) = some false) (q_NotHeights_NotAPair : PySem.W.kitOne K (.ref C_NotHeights) (.ref C_NotAPair) = some false) (q_NotHeights_NotAFamily : PySem.W.kitOne K (.ref C_NotHeights) (.ref C_NotAFamily) = some false) (q_NotHeights_NotHeights : PySem.W.kitOne K (.ref C_NotHeights) (.ref C_NotHeights) = some true) (q_NotHeights_NoSuchRow : PySem.W.kitOne K (.ref C_NotHeights) (.ref C_NoSuchRow) = some false) (q_NotHeights_NoSuchColumn : PySem.W.kitOne K (.ref C_NotHeights) (.ref C_NoSuchColumn) = some false) (q_NotHeights_NoSuchCorner : PySem.W.kitOne K (.ref C_NotHeights) (.ref C_NoSuchCorner) = some false) (q_NotHeights_WrongAmounts : PySem.W.kitOne K (.ref C_NotHeights) (.ref C_WrongAmounts) = some false) (q_NotHeights_WrongSize : PySem.W.kitOne K (.ref C_NotHeights) (.ref C_WrongSize) = some false) (q_NotHeights_TooManyChanges : PySem.W.kitOne K (.ref C_NotHeights) (.ref C_TooManyChanges) = some false) (q_NotHeights_WrongPlace : PySem.W.kitOne K (.ref C_NotHeights) (.ref C_WrongPlace) = some false) (q_NoSuchRow_NotStrip : PySem.W.kitOne K (.ref C_NoSuchRow) (.ref C_NotStrip) = some false) (q_NoSuchRow_DifferentEnds : PySem.W.kitOne K (.ref C_NoSuchRow) (.ref C_DifferentEnds) = some false) (q_NoSuchRow_AmountTooGreat : PySem.W.kitOne K (.ref C_NoSuchRow) (.ref C_AmountTooGreat) = some false) (q_NoSuchRow_LetterTooGreat : PySem.W.kitOne K (.ref C_NoSuchRow) (.ref C_LetterTooGreat) = some false) (q_NoSuchRow_TooManyLetters : PySem.W.kitOne K (.ref C_NoSuchRow) (.ref C_TooManyLetters) = some false) (q_NoSuchRow_NotAPair : PySem.W.kitOne K (.ref C_NoSuchRow) (.ref C_NotAPair) = some false) (q_NoSuchRow_NotAFamily : PySem.W.kitOne K (.ref C_NoSuchRow) (.ref C_NotAFamily) = some false) (q_NoSuchRow_NotHeights : PySem.W.kitOne K (.ref C_NoSuchRow) (.ref C_NotHeights) = some false) (q_NoSuchRow_NoSuchRow : PySem.W.kitOne K (.ref C_NoSuchRow) (.ref C_NoSuchRow) = some true) (q_NoSuchRow_NoSuchColumn : PySem.W.kitOne K (.ref C_NoSuchRow) (.ref C_NoSuchColumn) = some false) (q_NoSuchRow_NoSuchCorner : PySem.W.kitOne K (.ref C_NoSuchRow) (.ref C_NoSuchCorner) = some false) (q_NoSuchRow_WrongAmounts : PySem.W.kitOne K (.ref C_NoSuchRow) (.ref C_WrongAmounts) = some false) (q_NoSuchRow_WrongSize : PySem.W.kitOne K (.ref C_NoSuchRow) (.ref C_WrongSize) = some false) (q_NoSuchRow_TooManyChanges : PySem.W.kitOne K (.ref C_NoSuchRow) (.ref C_TooManyChanges) = some false) (q_NoSuchRow_WrongPlace : PySem.W.kitOne K (.ref C_NoSuchRow) (.ref C_WrongPlace) = some false) (q_NoSuchColumn_NotStrip : PySem.W.kitOne K (.ref C_NoSuchColumn) (.ref C_NotStrip) = some false) (q_NoSuchColumn_DifferentEnds : PySem.W.kitOne K (.ref C_NoSuchColumn) (.ref C_DifferentEnds) = some false) (q_NoSuchColumn_AmountTooGreat : PySem.W.kitOne K (.ref C_NoSuchColumn) (.ref C_AmountTooGreat) = some false) (q_NoSuchColumn_LetterTooGreat : PySem.W.kitOne K (.ref C_NoSuchColumn) (.ref C_LetterTooGreat) = some false) (q_NoSuchColumn_TooManyLetters : PySem.W.kitOne K (.ref C_NoSuchColumn) (.ref C_TooManyLetters) = some false) (q_NoSuchColumn_NotAPair : PySem.W.kitOne K (.ref C_NoSuchColumn) (.ref C_NotAPair) = some false) (q_NoSuchColumn_NotAFamily : PySem.W.kitOne K (.ref C_NoSuchColumn) (.ref C_NotAFamily) = some false) (q_NoSuchColumn_NotHeights : PySem.W.kitOne K (.ref C_NoSuchColumn) (.ref C_NotHeights) = some false) (q_NoSuchColumn_NoSuchRow : PySem.W.kitOne K (.ref C_NoSuchColumn) (.ref C_NoSuchRow) = some false) (q_NoSuchColumn_NoSuchColumn : PySem.W.kitOne K (.ref C_NoSuchColumn) (.ref C_NoSuchColumn) = some true) (q_NoSuchColumn_NoSuchCorner : PySem.W.kitOne K (.ref C_NoSuchColumn) (.ref C_NoSuchCorner) = some false) (q_NoSuchColumn_WrongAmounts : PySem.W.kitOne K (.ref C_NoSuchColumn) (.ref C_WrongAmounts) = some false) (q_NoSuchColumn_WrongSize : PySem.W.kitOne K (.ref C_NoSuchColumn) (.ref C_WrongSize) = some false) (q_NoSuchColumn_TooManyChanges : PySem.W.kitOne K (.ref C_NoSuchColumn) (.ref C_TooManyChanges) = some false) (q_NoSuchColumn_WrongPlace : PySem.W.kitOne K (.ref C_NoSuchColumn) (.ref C_WrongPlace) = some false) (q_NoSuchCorner_NotStrip : PySem.W.kitOne K (.ref C_NoSuchCorner) (.ref C_NotStrip) = some false) (q_NoSuchCorner_DifferentEnds : PySem.W.kitOne K (.ref C_NoSuchCorner) (.ref C_DifferentEnds) = some false) (q_NoSuchCorner_AmountTooGreat : PySem.W.kitOne K (.ref C_NoSuchCorner) (.ref C_AmountTooGreat) = some false) (q_NoSuchCorner_LetterTooGreat : PySem.W.kitOne K (.ref C_NoSuchCorner) (.ref C_LetterTooGreat) = some false) (q_NoSuchCorner_TooManyLetters : PySem.W.kitOne K (.ref C_NoSuchCorner) (.ref C_TooManyLetters) = some false) (q_NoSuchCorner_NotAPair : PySem.W.kitOne K (.ref C_NoSuchCorner) (.ref C_NotAPair) = some false) (q_NoSuchCorner_NotAFamily : PySem.W.kitOne K (.ref C_NoSuchCorner) (.ref C_NotAFamily) = some false) (q_NoSuchCorner_NotHeights : PySem.W.kitOne K (.ref C_NoSuchCorner) (.ref C_NotHeights) = some false) (q_NoSuchCorner_NoSuchRow : PySem.W.kitOne K (.ref C_NoSuchCorner) (.ref C_NoSuchRow) = some false) (q_NoSuchCorner_NoSuchColumn : PySem.W.kitOne K (.ref C_NoSuchCorner) (.ref C_NoSuchColumn) = some false) (q_NoSuchCorner_NoSuchCorner : PySem.W.kitOne K (.ref C_NoSuchCorner) (.ref C_NoSuchCorner) = some true) (q_NoSuchCorner_WrongAmounts : PySem.W.kitOne K (.ref C_NoSuchCorner) (.ref C_WrongAmounts) = some false) (q_NoSuchCorner_WrongSize : PySem.W.kitOne K (.ref C_NoSuchCorner) (.ref C_WrongSize) = some false) (q_NoSuchCorner_TooManyChanges : PySem.W.kitOne K (.ref C_NoSuchCorner) (.ref C_TooManyChanges) = some false) (q_NoSuchCorner_WrongPlace : PySem.W.kitOne K (.ref C_NoSuchCorner) (.ref C_WrongPlace) = some false) (q_WrongAmounts_NotStrip : PySem.W.kitOne K (.ref C_WrongAmounts) (.ref C_NotStrip) = some false) (q_WrongAmounts_DifferentEnds : PySem.W.kitOne K (.ref C_WrongAmounts) (.ref C_DifferentEnds) = some false) (q_WrongAmounts_AmountTooGreat : PySem.W.kitOne K (.ref C_WrongAmounts) (.ref C_AmountTooGreat) = some false) (q_WrongAmounts_LetterTooGreat : PySem.W.kitOne K (.ref C_WrongAmounts) (.ref C_LetterTooGreat) = some false) (q_WrongAmounts_TooManyLetters : PySem.W.kitOne K (.ref C_WrongAmounts) (.ref C_TooManyLetters) = some false) (q_WrongAmounts_NotAPair : PySem.W.kitOne K (.ref C_WrongAmounts) (.ref C_NotAPair) = some false) (q_WrongAmounts_NotAFamily : PySem.W.kitOne K (.ref C_WrongAmounts) (.ref C_NotAFamily) = some false) (q_WrongAmounts_NotHeights : PySem.W.kitOne K (.ref C_WrongAmounts) (.ref C_NotHeights) = some false) (q_WrongAmounts_NoSuchRow : PySem.W.kitOne K (.ref C_WrongAmounts) (.ref C_NoSuchRow) = some false) (q_WrongAmounts_NoSuchColumn : PySem.W.kitOne K (.ref C_WrongAmounts) (.ref C_NoSuchColumn) = some false) (q_WrongAmounts_NoSuchCorner : PySem.W.kitOne K (.ref C_WrongAmounts) (.ref C_NoSuchCorner) = some false) (q_WrongAmounts_WrongAmounts : PySem.W.kitOne K (.ref C_WrongAmounts) (.ref C_WrongAmounts) = some true) (q_WrongAmounts_WrongSize : PySem.W.kitOne K (.ref C_WrongAmounts) (.ref C_WrongSize) = some false) (q_WrongAmounts_TooManyChanges : PySem.W.kitOne K (.ref C_WrongAmounts) (.ref C_TooManyChanges) = some false) (q_WrongAmounts_WrongPlace : PySem.W.kitOne K (.ref C_WrongAmounts) (.ref C_WrongPlace) = some false) (q_WrongSize_NotStrip : PySem.W.kitOne K (.ref C_WrongSize) (.ref C_NotStrip) = some false) (q_WrongSize_DifferentEnds : PySem.W.kitOne K (.ref C_WrongSize) (.ref C_DifferentEnds) = some false) (q_WrongSize_AmountTooGreat : PySem.W.kitOne K (.ref C_WrongSize) (.ref C_AmountTooGreat) = some false) (q_WrongSize_LetterTooGreat : PySem.W.kitOne K (.ref C_WrongSize) (.ref C_LetterTooGreat) = some false) (q_WrongSize_TooManyLetters : PySem.W.kitOne K (.ref C_WrongSize) (.ref C_TooManyLetters) = some false) (q_WrongSize_NotAPair : PySem.W.kitOne K (.ref C_WrongSize) (.ref C_NotAPair) = some false) (q_WrongSize_NotAFamily : PySem.W.kitOne K (.ref C_WrongSize) (.ref C_NotAFamily) = some false) (q_WrongSize_NotHeights : PySem.W.kitOne K (.ref C_WrongSize) (.ref C_NotHeights) = some false) (q_WrongSize_NoSuchRow : PySem.W.kitOne K (.ref C_WrongSize) (.ref C_NoSuchRow) = some false) (q_WrongSize_NoSuchColumn : PySem.W.kitOne K (.ref C_WrongSize) (.ref C_NoSuchColumn) = some false) (q_WrongSize_NoSuchCorner : PySem.W.kitOne K (.ref C_WrongSize) (.ref C_NoSuchCorner) = some false) (q_WrongSize_WrongAmounts : PySem.W.kitOne K (.ref C_WrongSize) (.ref C_WrongAmounts) = some false) (q_WrongSize_WrongSize : PySem.W.kitOne K (.ref C_WrongSize) (.ref C_WrongSize) = some true) (q_WrongSize_TooManyChanges : PySem.W.kitOne K (.ref C_WrongSize) (.ref C_TooManyChanges) = some false) (q_WrongSize_WrongPlace : PySem.W.kitOne K (.ref C_WrongSize) (.ref C_WrongPlace) = some false) (q_TooManyChanges_NotStrip : PySem.W.kitOne K (.ref C_TooManyChanges) (.ref C_NotStrip) = some false) (q_TooManyChanges_DifferentEnds : PySem.W.kitOne K (.ref C_TooManyChanges) (.ref C_DifferentEnds) = some false) (q_TooManyChanges_AmountTooGreat : PySem.W.kitOne K (.ref C_TooManyChanges) (.ref C_AmountTooGreat) = some false) (q_TooManyChanges_LetterTooGreat : PySem.W.kitOne K (.ref C_TooManyChanges) (.ref C_LetterTooGreat) = some false) (q_TooManyChanges_TooManyLetters : PySem.W.kitOne K (.ref C_TooManyChanges) (.ref C_TooManyLetters) = some false) (q_TooManyChanges_NotAPair : PySem.W.kitOne K (.ref C_TooManyChanges) (.ref C_NotAPair) = some false) (q_TooManyChanges_NotAFamily : PySem.W.kitOne K (.ref C_TooManyChanges) (.ref C_NotAFamily) = some false) (q_TooManyChanges_NotHeights : PySem.W.kitOne K (.ref C_TooManyChanges) (.ref C_NotHeights) = some false) (q_TooManyChanges_NoSuchRow : PySem.W.kitOne K (.ref C_TooManyChanges) (.ref C_NoSuchRow) = some false) (q_TooManyChanges_NoSuchColumn : PySem.W.kitOne K (.ref C_TooManyChanges) (.ref C_NoSuchColumn) = some false) (q_TooManyChanges_NoSuchCorner : PySem.W.kitOne K (.ref C_TooManyChanges) (.ref C_NoSuchCorner) = some false) (q_TooManyChanges_WrongAmounts : PySem.W.kitOne K (.ref C_TooManyChanges) (.ref C_WrongAmounts) = some false) (q_TooManyChanges_WrongSize : PySem.W.kitOne K (.ref C_TooManyChanges) (.ref C_WrongSize) = some false) (q_TooManyChanges_TooManyChanges : PySem.W.kitOne K (.ref C_TooManyChanges) (.ref C_TooManyChanges) = some true) (q_TooManyChanges_WrongPlace : PySem.W.kitOne K (.ref C_TooManyChanges) (.ref C_WrongPlace) = some false) (q_WrongPlace_NotStrip : PySem.W.kitOne K (.ref C_WrongPlace) (.ref C_NotStrip) = some false) (q_WrongPlace_DifferentEnds : PySem.W.kitOne K (.ref C_WrongPlace) (.ref C_DifferentEnds) = some false) (q_WrongPlace_AmountTooGreat : PySem.W.kitOne K (.ref C_WrongPlace) (.ref C_AmountTooGreat) = some false) (q_WrongPlace_LetterTooGreat : PySem.W.kitOne K (.ref C_WrongPlace) (.ref C_LetterTooGreat) = some false) (q_WrongPlace_TooManyLetters : PySem.W.kitOne K (.ref C_WrongPlace) (.ref C_TooManyLetters) = some false) (q_WrongPlace_NotAPair : PySem.W.kitOne K (.ref C_WrongPlace) (.ref C_NotAPair) = some false) (q_WrongPlace_NotAFamily : PySem.W.kitOne K (.ref C_WrongPlace) (.ref C_NotAFamily) = some false) (q_WrongPlace_NotHeights : PySem.W.kitOne K (.ref C_WrongPlace) (.ref C_NotHeights) = some false) (q_WrongPlace_NoSuchRow : PySem.W.kitOne K (.ref C_WrongPlace) (.ref C_NoSuchRow) = some false) (q_WrongPlace_NoSuchColumn : PySem.W.kitOne K (.ref C_WrongPlace) (.ref C_NoSuchColumn) = some false) (q_WrongPlace_NoSuchCorner : PySem.W.kitOne K (.ref C_WrongPlace) (.ref C_NoSuchCorner) = some false) (q_WrongPlace_WrongAmounts : PySem.W.kitOne K (.ref C_WrongPlace) (.ref C_WrongAmounts) = some false) (q_WrongPlace_WrongSize : PySem.W.kitOne K (.ref C_WrongPlace) (.ref C_WrongSize) = some false) (q_WrongPlace_TooManyChanges : PySem.W.kitOne K (.ref C_WrongPlace) (.ref C_TooManyChanges) = some false) (q_WrongPlace_WrongPlace : PySem.W.kitOne K (.ref C_WrongPlace) (.ref C_WrongPlace) = some true) : Callee P w K mg base "_law_kinds" ["e"] 1 (pre_law_kinds C_NotStrip C_DifferentEnds C_AmountTooGreat C_LetterTooGreat C_TooManyLetters C_NotAPair C_NotAFamily C_NotHeights C_NoSuchRow C_NoSuchColumn C_NoSuchCorner C_WrongAmounts C_WrongSize C_TooManyChanges C_WrongPlace) := by
  obtain ⟨f, fd, F, hmg⟩ := D
  refine ⟨f, fd, fn_ok F sc_law_kinds len_law_kinds fun cdv A outer s H E hr => ⟨_, (pss_cons (ps_set (i := 1) sc_law_kinds.nd rfl (.inl rfl) (pe_lst (pa_cons (pe_callB (kIsV (K := K)) (by rfl) m_isinstance (by decide +kernel) (pa_cons (pv 0) (pa_cons (pe_glob (v := .ref C_NotStrip) rfl S_NotStrip.g rfl) pa_nil))) (pa_cons (pe_callB (kIsV (K := K)) (by rfl) m_isinstance (by decide +kernel) (pa_cons (pv 0) (pa_cons (pe_glob (v := .ref C_DifferentEnds) rfl S_DifferentEnds.g rfl) pa_nil))) (pa_cons (pe_callB (kIsV (K := K)) (by rfl) m_isinstance (by decide +kernel) (pa_cons (pv 0) (pa_cons (pe_glob (v := .ref C_AmountTooGreat) rfl S_AmountTooGreat.g rfl) pa_nil))) pa_nil)))))
      (pss_cons (ps_set (i := 1) sc_law_kinds.nd rfl (.inl rfl) (pe_op op_cat (pv 1) (pe_lst (pa_cons (pe_callB (kIsV (K := K)) (by rfl) m_isinstance (by decide +kernel) (pa_cons (pv 0) (pa_cons (pe_glob (v := .ref C_LetterTooGreat) rfl S_LetterTooGreat.g rfl) pa_nil))) (pa_cons (pe_callB (kIsV (K := K)) (by rfl) m_isinstance (by decide +kernel) (pa_cons (pv 0) (pa_cons (pe_glob (v := .ref C_TooManyLetters) rfl S_TooManyLetters.g rfl) pa_nil))) (pa_cons (pe_callB (kIsV (K := K)) (by rfl) m_isinstance (by decide +kernel) (pa_cons (pv 0) (pa_cons (pe_glob (v := .ref C_NotAPair) rfl S_NotAPair.g rfl) pa_nil))) pa_nil))))))
      (pss_cons (ps_set (i := 1) sc_law_kinds.nd rfl (.inl rfl) (pe_op op_cat (pv 1) (pe_lst (pa_cons (pe_callB (kIsV (K := K)) (by rfl) m_isinstance (by decide +kernel) (pa_cons (pv 0) (pa_cons (pe_glob (v := .ref C_NotAFamily) rfl S_NotAFamily.g rfl) pa_nil))) (pa_cons (pe_callB (kIsV (K := K)) (by rfl) m_isinstance (by decide +kernel) (pa_cons (pv 0) (pa_cons (pe_glob (v := .ref C_NotHeights) rfl S_NotHeights.g rfl) pa_nil))) (pa_cons (pe_callB (kIsV (K := K)) (by rfl) m_isinstance (by decide +kernel) (pa_cons (pv 0) (pa_cons (pe_glob (v := .ref C_NoSuchRow) rfl S_NoSuchRow.g rfl) pa_nil))) pa_nil))))))
      (pss_cons (ps_set (i := 1) sc_law_kinds.nd rfl (.inl rfl) (pe_op op_cat (pv 1) (pe_lst (pa_cons (pe_callB (kIsV (K := K)) (by rfl) m_isinstance (by decide +kernel) (pa_cons (pv 0) (pa_cons (pe_glob (v := .ref C_NoSuchColumn) rfl S_NoSuchColumn.g rfl) pa_nil))) (pa_cons (pe_callB (kIsV (K := K)) (by rfl) m_isinstance (by decide +kernel) (pa_cons (pv 0) (pa_cons (pe_glob (v := .ref C_NoSuchCorner) rfl S_NoSuchCorner.g rfl) pa_nil))) (pa_cons (pe_callB (kIsV (K := K)) (by rfl) m_isinstance (by decide +kernel) (pa_cons (pv 0) (pa_cons (pe_glob (v := .ref C_WrongAmounts) rfl S_WrongAmounts.g rfl) pa_nil))) pa_nil))))))
      (pss_one (ps_ret (pe_op op_cat (pv 1) (pe_lst (pa_cons (pe_callB (kIsV (K := K)) (by rfl) m_isinstance (by decide +kernel) (pa_cons (pv 0) (pa_cons (pe_glob (v := .ref C_WrongSize) rfl S_WrongSize.g rfl) pa_nil))) (pa_cons (pe_callB (kIsV (K := K)) (by rfl) m_isinstance (by decide +kernel) (pa_cons (pv 0) (pa_cons (pe_glob (v := .ref C_TooManyChanges) rfl S_TooManyChanges.g rfl) pa_nil))) (pa_cons (pe_callB (kIsV (K := K)) (by rfl) m_isinstance (by decide +kernel) (pa_cons (pv 0) (pa_cons (pe_glob (v := .ref C_WrongPlace) rfl S_WrongPlace.g rfl) pa_nil))) pa_nil))))))))))), ?_⟩, hmg, F.kp, F.binds fun _ _ _ _ _ _ us hl => match us, hl with | [_], _ => rfl, Wk.Fun.lk F⟩
  intro rs O Q h
  obtain ⟨i, f, hi, rfl, q⟩ := h
  have hx : ∀ i, i < 15 → ExcC K (([C_NotStrip, C_DifferentEnds, C_AmountTooGreat, C_LetterTooGreat, C_TooManyLetters, C_NotAPair, C_NotAFamily, C_NotHeights, C_NoSuchRow, C_NoSuchColumn, C_NoSuchCorner, C_WrongAmounts, C_WrongSize, C_TooManyChanges, C_WrongPlace] : List Addr).getD i 0) := fun i hi => match i, hi with
    | 0, _ => S_NotStrip.is
    | 1, _ => S_DifferentEnds.is
    | 2, _ => S_AmountTooGreat.is
    | 3, _ => S_LetterTooGreat.is
    | 4, _ => S_TooManyLetters.is
    | 5, _ => S_NotAPair.is
    | 6, _ => S_NotAFamily.is
    | 7, _ => S_NotHeights.is
    | 8, _ => S_NoSuchRow.is
    | 9, _ => S_NoSuchColumn.is
    | 10, _ => S_NoSuchCorner.is
    | 11, _ => S_WrongAmounts.is
    | 12, _ => S_WrongSize.is
    | 13, _ => S_TooManyChanges.is
    | 14, _ => S_WrongPlace.is
    | n + 15, h => absurd h (by omega)
  have h0 : ∀ i, i < 15 → PySem.W.kitOne K (.ref (([C_NotStrip, C_DifferentEnds, C_AmountTooGreat, C_LetterTooGreat, C_TooManyLetters, C_NotAPair, C_NotAFamily, C_NotHeights, C_NoSuchRow, C_NoSuchColumn, C_NoSuchCorner, C_WrongAmounts, C_WrongSize, C_TooManyChanges, C_WrongPlace] : List Addr).getD i 0)) (.ref C_NotStrip) = some (decide (i = 0)) := fun i hi => match i, hi with
    | 0, _ => q_NotStrip_NotStrip
    | 1, _ => q_DifferentEnds_NotStrip
    | 2, _ => q_AmountTooGreat_NotStrip
    | 3, _ => q_LetterTooGreat_NotStrip
    | 4, _ => q_TooManyLetters_NotStrip
    | 5, _ => q_NotAPair_NotStrip
    | 6, _ => q_NotAFamily_NotStrip
    | 7, _ => q_NotHeights_NotStrip
    | 8, _ => q_NoSuchRow_NotStrip
    | 9, _ => q_NoSuchColumn_NotStrip
    | 10, _ => q_NoSuchCorner_NotStrip
    | 11, _ => q_WrongAmounts_NotStrip
    | 12, _ => q_WrongSize_NotStrip
    | 13, _ => q_TooManyChanges_NotStrip
    | 14, _ => q_WrongPlace_NotStrip
    | n + 15, h => absurd h (by omega)
  have h1 : ∀ i, i < 15 → PySem.W.kitOne K (.ref (([C_NotStrip, C_DifferentEnds, C_AmountTooGreat, C_LetterTooGreat, C_TooManyLetters, C_NotAPair, C_NotAFamily, C_NotHeights, C_NoSuchRow, C_NoSuchColumn, C_NoSuchCorner, C_WrongAmounts, C_WrongSize, C_TooManyChanges, C_WrongPlace] : List Addr).getD i 0)) (.ref C_DifferentEnds) = some (decide (i = 1)) := fun i hi => match i, hi with
    | 0, _ => q_NotStrip_DifferentEnds
    | 1, _ => q_DifferentEnds_DifferentEnds
    | 2, _ => q_AmountTooGreat_DifferentEnds
    | 3, _ => q_LetterTooGreat_DifferentEnds
    | 4, _ => q_TooManyLetters_DifferentEnds
    | 5, _ => q_NotAPair_DifferentEnds
    | 6, _ => q_NotAFamily_DifferentEnds
    | 7, _ => q_NotHeights_DifferentEnds
    | 8, _ => q_NoSuchRow_DifferentEnds
    | 9, _ => q_NoSuchColumn_DifferentEnds
    | 10, _ => q_NoSuchCorner_DifferentEnds
    | 11, _ => q_WrongAmounts_DifferentEnds
    | 12, _ => q_WrongSize_DifferentEnds
    | 13, _ => q_TooManyChanges_DifferentEnds
    | 14, _ => q_WrongPlace_DifferentEnds
    | n + 15, h => absurd h (by omega)
  have h2 : ∀ i, i < 15 → PySem.W.kitOne K (.ref (([C_NotStrip, C_DifferentEnds, C_AmountTooGreat, C_LetterTooGreat, C_TooManyLetters, C_NotAPair, C_NotAFamily, C_NotHeights, C_NoSuchRow, C_NoSuchColumn, C_NoSuchCorner, C_WrongAmounts, C_WrongSize, C_TooManyChanges, C_WrongPlace] : List Addr).getD i 0)) (.ref C_AmountTooGreat) = some (decide (i = 2)) := fun i hi => match i, hi with
    | 0, _ => q_NotStrip_AmountTooGreat
    | 1, _ => q_DifferentEnds_AmountTooGreat
    | 2, _ => q_AmountTooGreat_AmountTooGreat
    | 3, _ => q_LetterTooGreat_AmountTooGreat
    | 4, _ => q_TooManyLetters_AmountTooGreat
    | 5, _ => q_NotAPair_AmountTooGreat
    | 6, _ => q_NotAFamily_AmountTooGreat
    | 7, _ => q_NotHeights_AmountTooGreat
    | 8, _ => q_NoSuchRow_AmountTooGreat
    | 9, _ => q_NoSuchColumn_AmountTooGreat
    | 10, _ => q_NoSuchCorner_AmountTooGreat
    | 11, _ => q_WrongAmounts_AmountTooGreat
    | 12, _ => q_WrongSize_AmountTooGreat
    | 13, _ => q_TooManyChanges_AmountTooGreat
    | 14, _ => q_WrongPlace_AmountTooGreat
    | n + 15, h => absurd h (by omega)
  have h3 : ∀ i, i < 15 → PySem.W.kitOne K (.ref (([C_NotStrip, C_DifferentEnds, C_AmountTooGreat, C_LetterTooGreat, C_TooManyLetters, C_NotAPair, C_NotAFamily, C_NotHeights, C_NoSuchRow, C_NoSuchColumn, C_NoSuchCorner, C_WrongAmounts, C_WrongSize, C_TooManyChanges, C_WrongPlace] : List Addr).getD i 0)) (.ref C_LetterTooGreat) = some (decide (i = 3)) := fun i hi => match i, hi with
    | 0, _ => q_NotStrip_LetterTooGreat
    | 1, _ => q_DifferentEnds_LetterTooGreat
    | 2, _ => q_AmountTooGreat_LetterTooGreat
    | 3, _ => q_LetterTooGreat_LetterTooGreat
    | 4, _ => q_TooManyLetters_LetterTooGreat
    | 5, _ => q_NotAPair_LetterTooGreat
    | 6, _ => q_NotAFamily_LetterTooGreat
    | 7, _ => q_NotHeights_LetterTooGreat
    | 8, _ => q_NoSuchRow_LetterTooGreat
    | 9, _ => q_NoSuchColumn_LetterTooGreat
    | 10, _ => q_NoSuchCorner_LetterTooGreat
    | 11, _ => q_WrongAmounts_LetterTooGreat
    | 12, _ => q_WrongSize_LetterTooGreat
    | 13, _ => q_TooManyChanges_LetterTooGreat
    | 14, _ => q_WrongPlace_LetterTooGreat
    | n + 15, h => absurd h (by omega)
  have h4 : ∀ i, i < 15 → PySem.W.kitOne K (.ref (([C_NotStrip, C_DifferentEnds, C_AmountTooGreat, C_LetterTooGreat, C_TooManyLetters, C_NotAPair, C_NotAFamily, C_NotHeights, C_NoSuchRow, C_NoSuchColumn, C_NoSuchCorner, C_WrongAmounts, C_WrongSize, C_TooManyChanges, C_WrongPlace] : List Addr).getD i 0)) (.ref C_TooManyLetters) = some (decide (i = 4)) := fun i hi => match i, hi with
    | 0, _ => q_NotStrip_TooManyLetters
    | 1, _ => q_DifferentEnds_TooManyLetters
    | 2, _ => q_AmountTooGreat_TooManyLetters
    | 3, _ => q_LetterTooGreat_TooManyLetters
    | 4, _ => q_TooManyLetters_TooManyLetters
    | 5, _ => q_NotAPair_TooManyLetters
    | 6, _ => q_NotAFamily_TooManyLetters
    | 7, _ => q_NotHeights_TooManyLetters
    | 8, _ => q_NoSuchRow_TooManyLetters
    | 9, _ => q_NoSuchColumn_TooManyLetters
    | 10, _ => q_NoSuchCorner_TooManyLetters
    | 11, _ => q_WrongAmounts_TooManyLetters
    | 12, _ => q_WrongSize_TooManyLetters
    | 13, _ => q_TooManyChanges_TooManyLetters
    | 14, _ => q_WrongPlace_TooManyLetters
    | n + 15, h => absurd h (by omega)
  have h5 : ∀ i, i < 15 → PySem.W.kitOne K (.ref (([C_NotStrip, C_DifferentEnds, C_AmountTooGreat, C_LetterTooGreat, C_TooManyLetters, C_NotAPair, C_NotAFamily, C_NotHeights, C_NoSuchRow, C_NoSuchColumn, C_NoSuchCorner, C_WrongAmounts, C_WrongSize, C_TooManyChanges, C_WrongPlace] : List Addr).getD i 0)) (.ref C_NotAPair) = some (decide (i = 5)) := fun i hi => match i, hi with
    | 0, _ => q_NotStrip_NotAPair
    | 1, _ => q_DifferentEnds_NotAPair
    | 2, _ => q_AmountTooGreat_NotAPair
    | 3, _ => q_LetterTooGreat_NotAPair
    | 4, _ => q_TooManyLetters_NotAPair
    | 5, _ => q_NotAPair_NotAPair
    | 6, _ => q_NotAFamily_NotAPair
    | 7, _ => q_NotHeights_NotAPair
    | 8, _ => q_NoSuchRow_NotAPair
    | 9, _ => q_NoSuchColumn_NotAPair
    | 10, _ => q_NoSuchCorner_NotAPair
    | 11, _ => q_WrongAmounts_NotAPair
    | 12, _ => q_WrongSize_NotAPair
    | 13, _ => q_TooManyChanges_NotAPair
    | 14, _ => q_WrongPlace_NotAPair
    | n + 15, h => absurd h (by omega)
  have h6 : ∀ i, i < 15 → PySem.W.kitOne K (.ref (([C_NotStrip, C_DifferentEnds, C_AmountTooGreat, C_LetterTooGreat, C_TooManyLetters, C_NotAPair, C_NotAFamily, C_NotHeights, C_NoSuchRow, C_NoSuchColumn, C_NoSuchCorner, C_WrongAmounts, C_WrongSize, C_TooManyChanges, C_WrongPlace] : List Addr).getD i 0)) (.ref C_NotAFamily) = some (decide (i = 6)) := fun i hi => match i, hi with
    | 0, _ => q_NotStrip_NotAFamily
    | 1, _ => q_DifferentEnds_NotAFamily
    | 2, _ => q_AmountTooGreat_NotAFamily
    | 3, _ => q_LetterTooGreat_NotAFamily
    | 4, _ => q_TooManyLetters_NotAFamily
    | 5, _ => q_NotAPair_NotAFamily
    | 6, _ => q_NotAFamily_NotAFamily
    | 7, _ => q_NotHeights_NotAFamily
    | 8, _ => q_NoSuchRow_NotAFamily
    | 9, _ => q_NoSuchColumn_NotAFamily
    | 10, _ => q_NoSuchCorner_NotAFamily
    | 11, _ => q_WrongAmounts_NotAFamily
    | 12, _ => q_WrongSize_NotAFamily
    | 13, _ => q_TooManyChanges_NotAFamily
    | 14, _ => q_WrongPlace_NotAFamily
    | n + 15, h => absurd h (by omega)
  have h7 : ∀ i, i < 15 → PySem.W.kitOne K (.ref (([C_NotStrip, C_DifferentEnds, C_AmountTooGreat, C_LetterTooGreat, C_TooManyLetters, C_NotAPair, C_NotAFamily, C_NotHeights, C_NoSuchRow, C_NoSuchColumn, C_NoSuchCorner, C_WrongAmounts, C_WrongSize, C_TooManyChanges, C_WrongPlace] : List Addr).getD i 0)) (.ref C_NotHeights) = some (decide (i = 7)) := fun i hi => match i, hi with
    | 0, _ => q_NotStrip_NotHeights
    | 1, _ => q_DifferentEnds_NotHeights
    | 2, _ => q_AmountTooGreat_NotHeights
    | 3, _ => q_LetterTooGreat_NotHeights
    | 4, _ => q_TooManyLetters_NotHeights
    | 5, _ => q_NotAPair_NotHeights
    | 6, _ => q_NotAFamily_NotHeights
    | 7, _ => q_NotHeights_NotHeights
    | 8, _ => q_NoSuchRow_NotHeights
    | 9, _ => q_NoSuchColumn_NotHeights
    | 10, _ => q_NoSuchCorner_NotHeights
    | 11, _ => q_WrongAmounts_NotHeights
    | 12, _ => q_WrongSize_NotHeights
    | 13, _ => q_TooManyChanges_NotHeights
    | 14, _ => q_WrongPlace_NotHeights
    | n + 15, h => absurd h (by omega)
  have h8 : ∀ i, i < 15 → PySem.W.kitOne K (.ref (([C_NotStrip, C_DifferentEnds, C_AmountTooGreat, C_LetterTooGreat, C_TooManyLetters, C_NotAPair, C_NotAFamily, C_NotHeights, C_NoSuchRow, C_NoSuchColumn, C_NoSuchCorner, C_WrongAmounts, C_WrongSize, C_TooManyChanges, C_WrongPlace] : List Addr).getD i 0)) (.ref C_NoSuchRow) = some (decide (i = 8)) := fun i hi => match i, hi with
    | 0, _ => q_NotStrip_NoSuchRow
    | 1, _ => q_DifferentEnds_NoSuchRow
    | 2, _ => q_AmountTooGreat_NoSuchRow
    | 3, _ => q_LetterTooGreat_NoSuchRow
    | 4, _ => q_TooManyLetters_NoSuchRow
    | 5, _ => q_NotAPair_NoSuchRow
    | 6, _ => q_NotAFamily_NoSuchRow
    | 7, _ => q_NotHeights_NoSuchRow
    | 8, _ => q_NoSuchRow_NoSuchRow
    | 9, _ => q_NoSuchColumn_NoSuchRow
    | 10, _ => q_NoSuchCorner_NoSuchRow
    | 11, _ => q_WrongAmounts_NoSuchRow
    | 12, _ => q_WrongSize_NoSuchRow
    | 13, _ => q_TooManyChanges_NoSuchRow
    | 14, _ => q_WrongPlace_NoSuchRow
    | n + 15, h => absurd h (by omega)
  have h9 : ∀ i, i < 15 → PySem.W.kitOne K (.ref (([C_NotStrip, C_DifferentEnds, C_AmountTooGreat, C_LetterTooGreat, C_TooManyLetters, C_NotAPair, C_NotAFamily, C_NotHeights, C_NoSuchRow, C_NoSuchColumn, C_NoSuchCorner, C_WrongAmounts, C_WrongSize, C_TooManyChanges, C_WrongPlace] : List Addr).getD i 0)) (.ref C_NoSuchColumn) = some (decide (i = 9)) := fun i hi => match i, hi with
    | 0, _ => q_NotStrip_NoSuchColumn
    | 1, _ => q_DifferentEnds_NoSuchColumn
    | 2, _ => q_AmountTooGreat_NoSuchColumn
    | 3, _ => q_LetterTooGreat_NoSuchColumn
    | 4, _ => q_TooManyLetters_NoSuchColumn
    | 5, _ => q_NotAPair_NoSuchColumn
    | 6, _ => q_NotAFamily_NoSuchColumn
    | 7, _ => q_NotHeights_NoSuchColumn
    | 8, _ => q_NoSuchRow_NoSuchColumn
    | 9, _ => q_NoSuchColumn_NoSuchColumn
    | 10, _ => q_NoSuchCorner_NoSuchColumn
    | 11, _ => q_WrongAmounts_NoSuchColumn
    | 12, _ => q_WrongSize_NoSuchColumn
    | 13, _ => q_TooManyChanges_NoSuchColumn
    | 14, _ => q_WrongPlace_NoSuchColumn
    | n + 15, h => absurd h (by omega)
  have h10 : ∀ i, i < 15 → PySem.W.kitOne K (.ref (([C_NotStrip, C_DifferentEnds, C_AmountTooGreat, C_LetterTooGreat, C_TooManyLetters, C_NotAPair, C_NotAFamily, C_NotHeights, C_NoSuchRow, C_NoSuchColumn, C_NoSuchCorner, C_WrongAmounts, C_WrongSize, C_TooManyChanges, C_WrongPlace] : List Addr).getD i 0)) (.ref C_NoSuchCorner) = some (decide (i = 10)) := fun i hi => match i, hi with
    | 0, _ => q_NotStrip_NoSuchCorner
    | 1, _ => q_DifferentEnds_NoSuchCorner
    | 2, _ => q_AmountTooGreat_NoSuchCorner
    | 3, _ => q_LetterTooGreat_NoSuchCorner
    | 4, _ => q_TooManyLetters_NoSuchCorner
    | 5, _ => q_NotAPair_NoSuchCorner
    | 6, _ => q_NotAFamily_NoSuchCorner
    | 7, _ => q_NotHeights_NoSuchCorner
    | 8, _ => q_NoSuchRow_NoSuchCorner
    | 9, _ => q_NoSuchColumn_NoSuchCorner
    | 10, _ => q_NoSuchCorner_NoSuchCorner
    | 11, _ => q_WrongAmounts_NoSuchCorner
    | 12, _ => q_WrongSize_NoSuchCorner
    | 13, _ => q_TooManyChanges_NoSuchCorner
    | 14, _ => q_WrongPlace_NoSuchCorner
    | n + 15, h => absurd h (by omega)
  have h11 : ∀ i, i < 15 → PySem.W.kitOne K (.ref (([C_NotStrip, C_DifferentEnds, C_AmountTooGreat, C_LetterTooGreat, C_TooManyLetters, C_NotAPair, C_NotAFamily, C_NotHeights, C_NoSuchRow, C_NoSuchColumn, C_NoSuchCorner, C_WrongAmounts, C_WrongSize, C_TooManyChanges, C_WrongPlace] : List Addr).getD i 0)) (.ref C_WrongAmounts) = some (decide (i = 11)) := fun i hi => match i, hi with
    | 0, _ => q_NotStrip_WrongAmounts
    | 1, _ => q_DifferentEnds_WrongAmounts
    | 2, _ => q_AmountTooGreat_WrongAmounts
    | 3, _ => q_LetterTooGreat_WrongAmounts
    | 4, _ => q_TooManyLetters_WrongAmounts
    | 5, _ => q_NotAPair_WrongAmounts
    | 6, _ => q_NotAFamily_WrongAmounts
    | 7, _ => q_NotHeights_WrongAmounts
    | 8, _ => q_NoSuchRow_WrongAmounts
    | 9, _ => q_NoSuchColumn_WrongAmounts
    | 10, _ => q_NoSuchCorner_WrongAmounts
    | 11, _ => q_WrongAmounts_WrongAmounts
    | 12, _ => q_WrongSize_WrongAmounts
    | 13, _ => q_TooManyChanges_WrongAmounts
    | 14, _ => q_WrongPlace_WrongAmounts
    | n + 15, h => absurd h (by omega)
  have h12 : ∀ i, i < 15 → PySem.W.kitOne K (.ref (([C_NotStrip, C_DifferentEnds, C_AmountTooGreat, C_LetterTooGreat, C_TooManyLetters, C_NotAPair, C_NotAFamily, C_NotHeights, C_NoSuchRow, C_NoSuchColumn, C_NoSuchCorner, C_WrongAmounts, C_WrongSize, C_TooManyChanges, C_WrongPlace] : List Addr).getD i 0)) (.ref C_WrongSize) = some (decide (i = 12)) := fun i hi => match i, hi with
    | 0, _ => q_NotStrip_WrongSize
    | 1, _ => q_DifferentEnds_WrongSize
    | 2, _ => q_AmountTooGreat_WrongSize
    | 3, _ => q_LetterTooGreat_WrongSize
    | 4, _ => q_TooManyLetters_WrongSize
    | 5, _ => q_NotAPair_WrongSize
    | 6, _ => q_NotAFamily_WrongSize
    | 7, _ => q_NotHeights_WrongSize
    | 8, _ => q_NoSuchRow_WrongSize
    | 9, _ => q_NoSuchColumn_WrongSize
    | 10, _ => q_NoSuchCorner_WrongSize
    | 11, _ => q_WrongAmounts_WrongSize
    | 12, _ => q_WrongSize_WrongSize
    | 13, _ => q_TooManyChanges_WrongSize
    | 14, _ => q_WrongPlace_WrongSize
    | n + 15, h => absurd h (by omega)
  have h13 : ∀ i, i < 15 → PySem.W.kitOne K (.ref (([C_NotStrip, C_DifferentEnds, C_AmountTooGreat, C_LetterTooGreat, C_TooManyLetters, C_NotAPair, C_NotAFamily, C_NotHeights, C_NoSuchRow, C_NoSuchColumn, C_NoSuchCorner, C_WrongAmounts, C_WrongSize, C_TooManyChanges, C_WrongPlace] : List Addr).getD i 0)) (.ref C_TooManyChanges) = some (decide (i = 13)) := fun i hi => match i, hi with
    | 0, _ => q_NotStrip_TooManyChanges
    | 1, _ => q_DifferentEnds_TooManyChanges
    | 2, _ => q_AmountTooGreat_TooManyChanges
    | 3, _ => q_LetterTooGreat_TooManyChanges
    | 4, _ => q_TooManyLetters_TooManyChanges
    | 5, _ => q_NotAPair_TooManyChanges
    | 6, _ => q_NotAFamily_TooManyChanges
    | 7, _ => q_NotHeights_TooManyChanges
    | 8, _ => q_NoSuchRow_TooManyChanges
    | 9, _ => q_NoSuchColumn_TooManyChanges
    | 10, _ => q_NoSuchCorner_TooManyChanges
    | 11, _ => q_WrongAmounts_TooManyChanges
    | 12, _ => q_WrongSize_TooManyChanges
    | 13, _ => q_TooManyChanges_TooManyChanges
    | 14, _ => q_WrongPlace_TooManyChanges
    | n + 15, h => absurd h (by omega)
  have h14 : ∀ i, i < 15 → PySem.W.kitOne K (.ref (([C_NotStrip, C_DifferentEnds, C_AmountTooGreat, C_LetterTooGreat, C_TooManyLetters, C_NotAPair, C_NotAFamily, C_NotHeights, C_NoSuchRow, C_NoSuchColumn, C_NoSuchCorner, C_WrongAmounts, C_WrongSize, C_TooManyChanges, C_WrongPlace] : List Addr).getD i 0)) (.ref C_WrongPlace) = some (decide (i = 14)) := fun i hi => match i, hi with
    | 0, _ => q_NotStrip_WrongPlace
    | 1, _ => q_DifferentEnds_WrongPlace
    | 2, _ => q_AmountTooGreat_WrongPlace
    | 3, _ => q_LetterTooGreat_WrongPlace
    | 4, _ => q_TooManyLetters_WrongPlace
    | 5, _ => q_NotAPair_WrongPlace
    | 6, _ => q_NotAFamily_WrongPlace
    | 7, _ => q_NotHeights_WrongPlace
    | 8, _ => q_NoSuchRow_WrongPlace
    | 9, _ => q_NoSuchColumn_WrongPlace
    | 10, _ => q_NoSuchCorner_WrongPlace
    | 11, _ => q_WrongAmounts_WrongPlace
    | 12, _ => q_WrongSize_WrongPlace
    | 13, _ => q_TooManyChanges_WrongPlace
    | 14, _ => q_WrongPlace_WrongPlace
    | n + 15, h => absurd h (by omega)
  replace hx := hx i hi
  replace h0 := h0 i hi
  replace h1 := h1 i hi
  replace h2 := h2 i hi
  replace h3 := h3 i hi
  replace h4 := h4 i hi
  replace h5 := h5 i hi
  replace h6 := h6 i hi
  replace h7 := h7 i hi
  replace h8 := h8 i hi
  replace h9 := h9 i hi
  replace h10 := h10 i hi
  replace h11 := h11 i hi
  replace h12 := h12 i hi
  replace h13 := h13 i hi
  replace h14 := h14 i hi
  generalize ([C_NotStrip, C_DifferentEnds, C_AmountTooGreat, C_LetterTooGreat, C_TooManyLetters, C_NotAPair, C_NotAFamily, C_NotHeights, C_NoSuchRow, C_NoSuchColumn, C_NoSuchCorner, C_WrongAmounts, C_WrongSize, C_TooManyChanges, C_WrongPlace] : List Addr).getD i 0 = C at *
  show StW K _ O [.xob C f, .non] _
  repeat' walk_at "w"
  exact q
def pre_law : Pre := fun rs O Q => ∃ ns : List Int, rs = [.scr ns] ∧ O = [] ∧ ns.length ≤ 63 ∧ ∀ O, Q (bV true) O
theorem len_law (rs : List SD) (O : Own) (Q : SD → Own → Prop) (h : pre_law rs O Q) : rs.length = 1 := by
  obtain ⟨ns, rfl, _⟩ := h
  rfl
theorem law_pre {ns : List Int} (h : ns.length ≤ 63) : pre_law [.scr ns] [] fun r _ => r = bV true := ⟨ns, rfl, rfl, h, fun _ => rfl⟩
theorem eqv_bools : ∀ bs : List Bool, PyData.eqvAll (bs.map PyData.bool) (bs.map PyData.bool) = true
  | [] => rfl
  | b :: bs => by
    rw [List.map_cons]
    simp only [PyData.eqvAll, PyData.eqv, eqv_bools bs, Bool.and_true]
    cases b <;> rfl
theorem bools_lay : ∀ bs : List Bool, PyData.canLayAll0 (bs.map PyData.bool) = true ∧ PyData.depthAll (bs.map PyData.bool) ≤ 0
  | [] => ⟨rfl, Nat.le_refl _⟩
  | b :: bs => by
    obtain ⟨h1, h2⟩ := bools_lay bs
    rw [List.map_cons]
    refine ⟨by simp [PyData.canLayAll0, PyData.canLay0, h1], ?_⟩
    simp only [PyData.depthAll, PyData.depth]
    omega
theorem bools_shaped (bs : List Bool) : SeqAt.shaped (.list (bs.map PyData.bool)) = true := by
  obtain ⟨h1, h2⟩ := bools_lay bs
  unfold SeqAt.shaped
  have a : PyData.canLay0 (.list (bs.map PyData.bool)) = true := by simpa [PyData.canLay0] using h1
  have b : PyData.depth (.list (bs.map PyData.bool)) ≤ 64 := by simp only [PyData.depth]; omega
  rw [a, decide_eq_true b]
  rfl
abbrev s_law : Stmt := topS 22
theorem sc_law : FnScope ["script", "box", "name", "made", "k", "j"] ["script"] (defScope s_law) := ⟨rfl, rfl, rfl, by decide +kernel, rfl, by decide +kernel, by decide +kernel⟩
set_option maxHeartbeats 4000000 in
theorem ok_law  {C_AmountTooGreat : Addr} {C_DifferentEnds : Addr} {C_LetterTooGreat : Addr} {C_NoSuchColumn : Addr} {C_NoSuchCorner : Addr} {C_NoSuchRow : Addr} {C_NotAFamily : Addr} {C_NotAPair : Addr} {C_NotHeights : Addr} {C_NotStrip : Addr} {C_TooManyChanges : Addr} {C_TooManyLetters : Addr} {C_WalkhandsError : Addr} {C_WrongAmounts : Addr} {C_WrongPlace : Addr} {C_WrongSize : Addr} (D : Def K mg "law" s_law) (C_law_box : Callee P w K mg base "_law_box" ["script"] 2 pre_law_box) (C_law_next : Callee P w K mg base "_law_next" ["box", "modulus"] 1 pre_law_next) (C_law_kinds : Callee P w K mg base "_law_kinds" ["e"] 1 (pre_law_kinds C_NotStrip C_DifferentEnds C_AmountTooGreat C_LetterTooGreat C_TooManyLetters C_NotAPair C_NotAFamily C_NotHeights C_NoSuchRow C_NoSuchColumn C_NoSuchCorner C_WrongAmounts C_WrongSize C_TooManyChanges C_WrongPlace)) (m_ValueError : mg "ValueError" = none) (m_isinstance : mg "isinstance" = none) (m_range : mg "range" = none) (S_AmountTooGreat : ExS K mg "AmountTooGreat" C_AmountTooGreat) (S_DifferentEnds : ExS K mg "DifferentEnds" C_DifferentEnds) (S_LetterTooGreat : ExS K mg "LetterTooGreat" C_LetterTooGreat) (S_NoSuchColumn : ExS K mg "NoSuchColumn" C_NoSuchColumn) (S_NoSuchCorner : ExS K mg "NoSuchCorner" C_NoSuchCorner) (S_NoSuchRow : ExS K mg "NoSuchRow" C_NoSuchRow) (S_NotAFamily : ExS K mg "NotAFamily" C_NotAFamily) (S_NotAPair : ExS K mg "NotAPair" C_NotAPair) (S_NotHeights : ExS K mg "NotHeights" C_NotHeights) (S_NotStrip : ExS K mg "NotStrip" C_NotStrip) (S_TooManyChanges : ExS K mg "TooManyChanges" C_TooManyChanges) (S_TooManyLetters : ExS K mg "TooManyLetters" C_TooManyLetters) (S_WalkhandsError : ExS K mg "WalkhandsError" C_WalkhandsError) (S_WrongAmounts : ExS K mg "WrongAmounts" C_WrongAmounts) (S_WrongPlace : ExS K mg "WrongPlace" C_WrongPlace) (S_WrongSize : ExS K mg "WrongSize" C_WrongSize) (N_AmountTooGreat : ExN K mg "AmountTooGreat" C_AmountTooGreat) (N_DifferentEnds : ExN K mg "DifferentEnds" C_DifferentEnds) (N_LetterTooGreat : ExN K mg "LetterTooGreat" C_LetterTooGreat) (N_NoSuchColumn : ExN K mg "NoSuchColumn" C_NoSuchColumn) (N_NoSuchCorner : ExN K mg "NoSuchCorner" C_NoSuchCorner) (N_NoSuchRow : ExN K mg "NoSuchRow" C_NoSuchRow) (N_NotAFamily : ExN K mg "NotAFamily" C_NotAFamily) (N_NotAPair : ExN K mg "NotAPair" C_NotAPair) (N_NotHeights : ExN K mg "NotHeights" C_NotHeights) (N_TooManyChanges : ExN K mg "TooManyChanges" C_TooManyChanges) (N_TooManyLetters : ExN K mg "TooManyLetters" C_TooManyLetters) (N_WrongAmounts : ExN K mg "WrongAmounts" C_WrongAmounts) (N_WrongPlace : ExN K mg "WrongPlace" C_WrongPlace) (N_WrongSize : ExN K mg "WrongSize" C_WrongSize) (I_NotStrip : ExI P w K mg base "NotStrip" "name" C_NotStrip) (no_NotStrip_name : PySem.W.findIn K (.ref C_NotStrip) "name" = some none) (q_NotStrip_WalkhandsError : PySem.W.kitOne K (.ref C_NotStrip) (.ref C_WalkhandsError) = some true) (q_NotStrip_ValueError : PySem.W.kitOne K (.ref C_NotStrip) (.type "ValueError") = some true) (q_DifferentEnds_WalkhandsError : PySem.W.kitOne K (.ref C_DifferentEnds) (.ref C_WalkhandsError) = some true) (q_DifferentEnds_ValueError : PySem.W.kitOne K (.ref C_DifferentEnds) (.type "ValueError") = some true) (q_AmountTooGreat_WalkhandsError : PySem.W.kitOne K (.ref C_AmountTooGreat) (.ref C_WalkhandsError) = some true) (q_AmountTooGreat_ValueError : PySem.W.kitOne K (.ref C_AmountTooGreat) (.type "ValueError") = some true) (q_LetterTooGreat_WalkhandsError : PySem.W.kitOne K (.ref C_LetterTooGreat) (.ref C_WalkhandsError) = some true) (q_LetterTooGreat_ValueError : PySem.W.kitOne K (.ref C_LetterTooGreat) (.type "ValueError") = some true) (q_TooManyLetters_WalkhandsError : PySem.W.kitOne K (.ref C_TooManyLetters) (.ref C_WalkhandsError) = some true) (q_TooManyLetters_ValueError : PySem.W.kitOne K (.ref C_TooManyLetters) (.type "ValueError") = some true) (q_NotAPair_WalkhandsError : PySem.W.kitOne K (.ref C_NotAPair) (.ref C_WalkhandsError) = some true) (q_NotAPair_ValueError : PySem.W.kitOne K (.ref C_NotAPair) (.type "ValueError") = some true) (q_NotAFamily_WalkhandsError : PySem.W.kitOne K (.ref C_NotAFamily) (.ref C_WalkhandsError) = some true) (q_NotAFamily_ValueError : PySem.W.kitOne K (.ref C_NotAFamily) (.type "ValueError") = some true) (q_NotHeights_WalkhandsError : PySem.W.kitOne K (.ref C_NotHeights) (.ref C_WalkhandsError) = some true) (q_NotHeights_ValueError : PySem.W.kitOne K (.ref C_NotHeights) (.type "ValueError") = some true) (q_NoSuchRow_WalkhandsError : PySem.W.kitOne K (.ref C_NoSuchRow) (.ref C_WalkhandsError) = some true) (q_NoSuchRow_ValueError : PySem.W.kitOne K (.ref C_NoSuchRow) (.type "ValueError") = some true) (q_NoSuchColumn_WalkhandsError : PySem.W.kitOne K (.ref C_NoSuchColumn) (.ref C_WalkhandsError) = some true) (q_NoSuchColumn_ValueError : PySem.W.kitOne K (.ref C_NoSuchColumn) (.type "ValueError") = some true) (q_NoSuchCorner_WalkhandsError : PySem.W.kitOne K (.ref C_NoSuchCorner) (.ref C_WalkhandsError) = some true) (q_NoSuchCorner_ValueError : PySem.W.kitOne K (.ref C_NoSuchCorner) (.type "ValueError") = some true) (q_WrongAmounts_WalkhandsError : PySem.W.kitOne K (.ref C_WrongAmounts) (.ref C_WalkhandsError) = some true) (q_WrongAmounts_ValueError : PySem.W.kitOne K (.ref C_WrongAmounts) (.type "ValueError") = some true) (q_WrongSize_WalkhandsError : PySem.W.kitOne K (.ref C_WrongSize) (.ref C_WalkhandsError) = some true) (q_WrongSize_ValueError : PySem.W.kitOne K (.ref C_WrongSize) (.type "ValueError") = some true) (q_TooManyChanges_WalkhandsError : PySem.W.kitOne K (.ref C_TooManyChanges) (.ref C_WalkhandsError) = some true) (q_TooManyChanges_ValueError : PySem.W.kitOne K (.ref C_TooManyChanges) (.type "ValueError") = some true) (q_WrongPlace_WalkhandsError : PySem.W.kitOne K (.ref C_WrongPlace) (.ref C_WalkhandsError) = some true) (q_WrongPlace_ValueError : PySem.W.kitOne K (.ref C_WrongPlace) (.type "ValueError") = some true) : Callee P w K mg base "law" ["script"] 3 pre_law := by
  obtain ⟨f, fd, F, hmg⟩ := D
  obtain ⟨f_law_box, fd_law_box, G_law_box, g_law_box, kp_law_box, b_law_box, _⟩ := C_law_box
  obtain ⟨f_law_next, fd_law_next, G_law_next, g_law_next, kp_law_next, b_law_next, _⟩ := C_law_next
  obtain ⟨f_law_kinds, fd_law_kinds, G_law_kinds, g_law_kinds, kp_law_kinds, b_law_kinds, _⟩ := C_law_kinds
  refine ⟨f, fd, fn_ok F sc_law len_law fun cdv A outer s H E hr => ⟨_, (pss_cons (ps_set (i := 1) sc_law.nd rfl (.inl rfl) (pe_call G_law_box (hr.mono (by decide)) (by rfl) g_law_box kp_law_box b_law_box .nil pass0 (pa_cons (pv 0) pa_nil)))
      (pss_cons (ps_set (i := 2) sc_law.nd rfl (.inl rfl) (pe_ix (ixL K) (pe_lst (pa_cons pe_str (pa_cons pe_str (pa_cons pe_str pa_nil)))) (pe_call G_law_next (hr.mono (by decide)) (by rfl) g_law_next kp_law_next b_law_next .nil pass0 (pa_cons (pv 1) (pa_cons pe_int pa_nil))) (fun _ _ => rfl)))
      (pss_cons (ps_set (i := 3) sc_law.nd rfl (.inl rfl) (pe_lst (pa_cons (peXvI (K := K) I_NotStrip (hr.mono (by decide)) rfl (pa_cons (pv 2) pa_nil)) (pa_cons (peXv0 (K := K) N_DifferentEnds rfl pe_str) (pa_cons (peXv0 (K := K) N_AmountTooGreat rfl pe_str) (pa_cons (peXv0 (K := K) N_LetterTooGreat rfl pe_str) (pa_cons (peXv0 (K := K) N_TooManyLetters rfl pe_str) (pa_cons (peXv0 (K := K) N_NotAPair rfl pe_str) pa_nil))))))))
      (pss_cons (ps_set (i := 3) sc_law.nd rfl (.inl rfl) (pe_op op_cat (pv 3) (pe_lst (pa_cons (peXv0 (K := K) N_NotAFamily rfl pe_str) (pa_cons (peXv0 (K := K) N_NotHeights rfl pe_str) (pa_cons (peXv0 (K := K) N_NoSuchRow rfl pe_str) (pa_cons (peXv0 (K := K) N_NoSuchColumn rfl pe_str) (pa_cons (peXv0 (K := K) N_NoSuchCorner rfl pe_str) pa_nil))))))))
      (pss_cons (ps_set (i := 3) sc_law.nd rfl (.inl rfl) (pe_op op_cat (pv 3) (pe_lst (pa_cons (peXv0 (K := K) N_WrongAmounts rfl pe_str) (pa_cons (peXv0 (K := K) N_WrongSize rfl pe_str) (pa_cons (peXv0 (K := K) N_TooManyChanges rfl pe_str) (pa_cons (peXv0 (K := K) N_WrongPlace rfl pe_str) pa_nil)))))))
      (pss_cons (ps_for PassesOwn.never rfl (pi_range1 (by rfl) m_range (pa_cons pe_int pa_nil)) (pg_name (i := 4) sc_law.nd rfl (.inr rfl)) (pss_cons (ps_if (pt_cmpR (kNeD K hr.units) (pe_call G_law_kinds (hr.mono (by decide)) (by rfl) g_law_kinds kp_law_kinds b_law_kinds .nil pass0 (pa_cons (pe_ix (ixL K) (pv 3) (pv 4) (fun _ _ => rfl)) pa_nil)) (pe_lc (own := [("j", 5)]) (g := gName 5) rfl sc_law.nd (pi_range1 (by rfl) m_range (pa_cons pe_int pa_nil)) (blkOk_by (own := [("j", 5)]) (N := ["script", "box", "name", "made", "k", "j"]) (by first | (show blkC _ (defScope s_law) _ _ = true; decide +kernel) | kernel_rfl | rfl)) (fun _ _ _ _ _ => pg_name (i := 5) sc_law.nd rfl (by first | exact Or.inl rfl | exact Or.inr rfl)) (fun _ _ _ _ _ => pts_nil) (fun _ _ _ _ _ => (pe_cmpR op_eq (pv 5) (pv 4) (nomark _)))) (nomark _)) (pss_one (ps_ret pe_bl)) pss_nil)
      (pss_one (ps_if (PW.pt (pw_or (pt_not (pt_val (pe_callB (kIsV (K := K)) (by rfl) m_isinstance (by decide +kernel) (pa_cons (pe_ix (ixL K) (pv 3) (pv 4) (fun _ _ => rfl)) (pa_cons (pe_glob (v := .ref C_WalkhandsError) rfl S_WalkhandsError.g rfl) pa_nil))))) (pw_or1 (pt_not (pt_val (pe_callB (kIsV (K := K)) (by rfl) m_isinstance (by decide +kernel) (pa_cons (pe_ix (ixL K) (pv 3) (pv 4) (fun _ _ => rfl)) (pa_cons (pe_bltn (v := .ty "ValueError") (by rfl) m_ValueError (by decide +kernel) rfl) pa_nil)))))))) (pss_one (ps_ret pe_bl)) pss_nil))))
      (pss_one (ps_ret (pe_cmpR op_eq (peXvf S_NotStrip no_NotStrip_name (pe_ix (ixL K) (pv 3) pe_int (fun _ _ => rfl))) (pv 2) (nomark _)))))))))), ?_⟩, hmg, F.kp, F.binds fun _ _ _ _ _ _ us hl => match us, hl with | [_], _ => rfl, Wk.Fun.lk F⟩
  intro rs O Q h
  obtain ⟨ns, rfl, rfl, hn, q⟩ := h
  have hx : ∀ i, i < 15 → ExcC K (([C_NotStrip, C_DifferentEnds, C_AmountTooGreat, C_LetterTooGreat, C_TooManyLetters, C_NotAPair, C_NotAFamily, C_NotHeights, C_NoSuchRow, C_NoSuchColumn, C_NoSuchCorner, C_WrongAmounts, C_WrongSize, C_TooManyChanges, C_WrongPlace] : List Addr).getD i 0) := fun i hi => match i, hi with
    | 0, _ => S_NotStrip.is
    | 1, _ => S_DifferentEnds.is
    | 2, _ => S_AmountTooGreat.is
    | 3, _ => S_LetterTooGreat.is
    | 4, _ => S_TooManyLetters.is
    | 5, _ => S_NotAPair.is
    | 6, _ => S_NotAFamily.is
    | 7, _ => S_NotHeights.is
    | 8, _ => S_NoSuchRow.is
    | 9, _ => S_NoSuchColumn.is
    | 10, _ => S_NoSuchCorner.is
    | 11, _ => S_WrongAmounts.is
    | 12, _ => S_WrongSize.is
    | 13, _ => S_TooManyChanges.is
    | 14, _ => S_WrongPlace.is
    | n + 15, h => absurd h (by omega)
  have hW : ∀ i, i < 15 → PySem.W.kitOne K (.ref (([C_NotStrip, C_DifferentEnds, C_AmountTooGreat, C_LetterTooGreat, C_TooManyLetters, C_NotAPair, C_NotAFamily, C_NotHeights, C_NoSuchRow, C_NoSuchColumn, C_NoSuchCorner, C_WrongAmounts, C_WrongSize, C_TooManyChanges, C_WrongPlace] : List Addr).getD i 0)) (.ref C_WalkhandsError) = some true := fun i hi => match i, hi with
    | 0, _ => q_NotStrip_WalkhandsError
    | 1, _ => q_DifferentEnds_WalkhandsError
    | 2, _ => q_AmountTooGreat_WalkhandsError
    | 3, _ => q_LetterTooGreat_WalkhandsError
    | 4, _ => q_TooManyLetters_WalkhandsError
    | 5, _ => q_NotAPair_WalkhandsError
    | 6, _ => q_NotAFamily_WalkhandsError
    | 7, _ => q_NotHeights_WalkhandsError
    | 8, _ => q_NoSuchRow_WalkhandsError
    | 9, _ => q_NoSuchColumn_WalkhandsError
    | 10, _ => q_NoSuchCorner_WalkhandsError
    | 11, _ => q_WrongAmounts_WalkhandsError
    | 12, _ => q_WrongSize_WalkhandsError
    | 13, _ => q_TooManyChanges_WalkhandsError
    | 14, _ => q_WrongPlace_WalkhandsError
    | n + 15, h => absurd h (by omega)
  have hV : ∀ i, i < 15 → PySem.W.kitOne K (.ref (([C_NotStrip, C_DifferentEnds, C_AmountTooGreat, C_LetterTooGreat, C_TooManyLetters, C_NotAPair, C_NotAFamily, C_NotHeights, C_NoSuchRow, C_NoSuchColumn, C_NoSuchCorner, C_WrongAmounts, C_WrongSize, C_TooManyChanges, C_WrongPlace] : List Addr).getD i 0)) (.type "ValueError") = some true := fun i hi => match i, hi with
    | 0, _ => q_NotStrip_ValueError
    | 1, _ => q_DifferentEnds_ValueError
    | 2, _ => q_AmountTooGreat_ValueError
    | 3, _ => q_LetterTooGreat_ValueError
    | 4, _ => q_TooManyLetters_ValueError
    | 5, _ => q_NotAPair_ValueError
    | 6, _ => q_NotAFamily_ValueError
    | 7, _ => q_NotHeights_ValueError
    | 8, _ => q_NoSuchRow_ValueError
    | 9, _ => q_NoSuchColumn_ValueError
    | 10, _ => q_NoSuchCorner_ValueError
    | 11, _ => q_WrongAmounts_ValueError
    | 12, _ => q_WrongSize_ValueError
    | 13, _ => q_TooManyChanges_ValueError
    | 14, _ => q_WrongPlace_ValueError
    | n + 15, h => absurd h (by omega)
  show StW K _ [] [.scr ns, .non, .non, .non, .non, .non] _
  refine s_seq (s_asg ?_)
  repeat' walk_at "e"
  refine ⟨ns, rfl, hn, fun bx row hbx => ?_⟩
  refine s_seq (s_asg ?_)
  repeat' walk_at "e"
  refine o_pickL (by omega) (by simp only [List.length_cons, List.length_nil]; omega) fun d hd => ?_
  have hs : ∃ s : Str, d = .str s := by
    simp only [List.mem_cons, List.not_mem_nil, or_false] at hd
    rcases hd with rfl | rfl | rfl <;> exact ⟨_, rfl⟩
  obtain ⟨s, rfl⟩ := hs
  clear hd
  refine s_seq (s_asg (w_lstO1 ?_))
  repeat' walk_at "e"
  refine ⟨sz_ok rfl, _, _, rfl, fun p1 => ?_⟩
  refine s_seq (s_asg (w_op (w_vA rfl (w_lstO1 ?_))))
  repeat' walk_at "e"
  refine ⟨sz_ok rfl, _, _, rfl, fun p2 => ?_⟩
  refine g_catS (List.mem_cons_of_mem _ (List.mem_cons_of_mem _ List.mem_cons_self)) (List.mem_cons_of_mem _ List.mem_cons_self) (Nat.le_of_ble_eq_true rfl) fun p3 => ?_
  refine s_seq (s_asg (w_op (w_vA rfl (w_lstO1 ?_))))
  repeat' walk_at "e"
  refine ⟨sz_ok rfl, _, _, rfl, fun p4 => ?_⟩
  refine g_catS List.mem_cons_self (List.mem_cons_of_mem _ List.mem_cons_self) (Nat.le_of_ble_eq_true rfl) fun p5 => ?_
  refine s_dropO (O' := [(p5, .lst ([SD.xob C_NotStrip (some ("name", .str s))] ++ ([C_DifferentEnds, C_AmountTooGreat, C_LetterTooGreat, C_TooManyLetters, C_NotAPair, C_NotAFamily, C_NotHeights, C_NoSuchRow, C_NoSuchColumn, C_NoSuchCorner, C_WrongAmounts, C_WrongSize, C_TooManyChanges, C_WrongPlace] : List Addr).map fun c => SD.xob c none))]) ?_ ?_
  · exact .cons₂ _ (List.nil_sublist _)
  refine s_seq (s_for1 ?_)
  repeat' walk_at "e"
  refine ⟨by decide, by decide, fun i O2 ds2 => ∃ x : SD, O2 = [(p5, .lst ([SD.xob C_NotStrip (some ("name", .str s))] ++ ([C_DifferentEnds, C_AmountTooGreat, C_LetterTooGreat, C_TooManyLetters, C_NotAPair, C_NotAFamily, C_NotHeights, C_NoSuchRow, C_NoSuchColumn, C_NoSuchCorner, C_WrongAmounts, C_WrongSize, C_TooManyChanges, C_WrongPlace] : List Addr).map fun c => SD.xob c none))] ∧ ds2 = [.scr ns, .ad bx, .dat (.str s), .ad p5, x, .non], ⟨.non, rfl, rfl⟩, fun k O2 ds2 hk hI B hB => ?_, fun O2 ds2 hI => ?_⟩
  · obtain ⟨x, rfl, rfl⟩ := hI
    have hk15 : k < 15 := by omega
    have hrs : ∃ f, ([SD.xob C_NotStrip (some ("name", .str s))] ++ ([C_DifferentEnds, C_AmountTooGreat, C_LetterTooGreat, C_TooManyLetters, C_NotAPair, C_NotAFamily, C_NotHeights, C_NoSuchRow, C_NoSuchColumn, C_NoSuchCorner, C_WrongAmounts, C_WrongSize, C_TooManyChanges, C_WrongPlace] : List Addr).map fun c => SD.xob c none)[k]? = some (.xob (([C_NotStrip, C_DifferentEnds, C_AmountTooGreat, C_LetterTooGreat, C_TooManyLetters, C_NotAPair, C_NotAFamily, C_NotHeights, C_NoSuchRow, C_NoSuchColumn, C_NoSuchCorner, C_WrongAmounts, C_WrongSize, C_TooManyChanges, C_WrongPlace] : List Addr).getD k 0) f) := match k, hk15 with
      | 0, _ => ⟨_, rfl⟩
      | 1, _ => ⟨_, rfl⟩
      | 2, _ => ⟨_, rfl⟩
      | 3, _ => ⟨_, rfl⟩
      | 4, _ => ⟨_, rfl⟩
      | 5, _ => ⟨_, rfl⟩
      | 6, _ => ⟨_, rfl⟩
      | 7, _ => ⟨_, rfl⟩
      | 8, _ => ⟨_, rfl⟩
      | 9, _ => ⟨_, rfl⟩
      | 10, _ => ⟨_, rfl⟩
      | 11, _ => ⟨_, rfl⟩
      | 12, _ => ⟨_, rfl⟩
      | 13, _ => ⟨_, rfl⟩
      | 14, _ => ⟨_, rfl⟩
      | n + 15, h => absurd h (by omega)
    obtain ⟨f, hf⟩ := hrs
    replace hx := hx k hk15
    replace hW := hW k hk15
    replace hV := hV k hk15
    refine s_seq (s_if (t_test (w_op (w_call ?_))))
    repeat' walk_at "e"
    refine o_ixO List.mem_cons_self (atI_nat hf) ?_
    repeat' walk_at "e"
    refine ⟨k, f, hk15, rfl, ?_⟩
    refine w_frz (w_lc1 ?_)
    repeat' walk_at "e"
    refine ⟨by decide, by decide, fun i acc O2 => acc = ((List.range i).map fun j => bV (decide (k = j))) ∧ O2 = [(p5, .lst ([SD.xob C_NotStrip (some ("name", .str s))] ++ ([C_DifferentEnds, C_AmountTooGreat, C_LetterTooGreat, C_TooManyLetters, C_NotAPair, C_NotAFamily, C_NotHeights, C_NoSuchRow, C_NoSuchColumn, C_NoSuchCorner, C_WrongAmounts, C_WrongSize, C_TooManyChanges, C_WrongPlace] : List Addr).map fun c => SD.xob c none))], ⟨rfl, rfl⟩, fun i acc O2 hi hl hI => ?_, fun acc O2 Dl hI => ?_⟩
    · obtain ⟨rfl, rfl⟩ := hI
      intro Dl
      refine t_yes ⟨fun _ => ?_, fun z => nomatch z⟩
      repeat' walk_at "e"
      refine ⟨_, .refl _, ?_, rfl⟩
      rw [List.range_succ, List.map_append]
      congr 1
      show [SD.dat (.bool _)] = [SD.dat (.bool _)]
      congr 3
      exact decide_eq_decide.mpr (by omega)
    · obtain ⟨rfl, rfl⟩ := hI
      refine ⟨Dl, _, ((List.range 15).map fun j => decide (k = j)).map PyData.bool, _, rfl, .refl _, ?_, ?_⟩
      · have := Dats.map (((List.range 15).map fun j => decide (k = j)).map PyData.bool)
        rw [List.map_map, List.map_map] at this
        exact this
      have ed : ((List.range 15).map fun j => PyData.bool (decide (k = j))) = ((List.range 15).map fun j => decide (k = j)).map PyData.bool := by rw [List.map_map]; rfl
      rw [ed]
      refine o_neD (bools_shaped _) (bools_shaped _) ?_
      rw [show PyData.eqv (.list (((List.range 15).map fun j => decide (k = j)).map PyData.bool)) (.list (((List.range 15).map fun j => decide (k = j)).map PyData.bool)) = true from by simp only [PyData.eqv]; exact eqv_bools _]
      repeat' walk_at "e"
      with_reducible refine s_next ?_
      refine s_if ?_
      repeat' walk_at "e"
      refine o_ixO List.mem_cons_self (atI_nat hf) ?_
      repeat' walk_at "e"
      refine o_ixO List.mem_cons_self (atI_nat hf) ?_
      repeat' walk_at "e"
      with_reducible refine s_next ?_
      exact hB.nx _ _ ⟨_, rfl, rfl⟩
  · obtain ⟨x, rfl, rfl⟩ := hI
    refine s_ret (w_op (w_xvf (w_op ?_)))
    repeat' walk_at "e"
    refine o_eqT ?_
    rw [decide_eq_true rfl]
    exact q _
abbrev si_NotStrip : Stmt := inClass (topS 2) 0
theorem sci_NotStrip : FnScope ["self", "name"] ["self", "name"] (defScope si_NotStrip) := ⟨rfl, rfl, rfl, by decide +kernel, rfl, by decide +kernel, by decide +kernel⟩
end
theorem all_mk {l : PySem.W.OpenLaw} {w : World} {K : PySem.W.Frag} {h : Heap} {mg : Str → Option Value} {fa : Addr} (X : K.In h) (G : h.Ns mainGlobals mg) (hfa : mg "law" = some (.ref fa))
    {od_0 an_0 : Option Addr} {sl_0 : Array (Option Value)} {oc_0 kV_0 dc_0 pm_0 cd_0 ct_0 : Value} {f_0 : Addr}
    {od_1 an_1 : Option Addr} {sl_1 : Array (Option Value)} {oc_1 kV_1 dc_1 pm_1 cd_1 ct_1 : Value} {f_1 : Addr}
    {od_2 an_2 : Option Addr} {sl_2 : Array (Option Value)} {oc_2 kV_2 dc_2 pm_2 cd_2 ct_2 : Value} {f_2 : Addr}
    {od_3 an_3 : Option Addr} {sl_3 : Array (Option Value)} {oc_3 kV_3 dc_3 pm_3 cd_3 ct_3 : Value} {f_3 : Addr}
    {od_4 an_4 : Option Addr} {sl_4 : Array (Option Value)} {oc_4 kV_4 dc_4 pm_4 cd_4 ct_4 : Value} {f_4 : Addr}
    {C_AmountTooGreat : Addr}
    {C_DifferentEnds : Addr}
    {C_LetterTooGreat : Addr}
    {C_NoSuchColumn : Addr}
    {C_NoSuchCorner : Addr}
    {C_NoSuchRow : Addr}
    {C_NotAFamily : Addr}
    {C_NotAPair : Addr}
    {C_NotHeights : Addr}
    {C_NotStrip : Addr}
    {xnm_NotStrip xq_NotStrip : Str} {xN_NotStrip xfI_NotStrip : Addr} {xbs_NotStrip xbm_NotStrip : List Value} {xsn_NotStrip : List Str} {xsub_NotStrip : List Value} {xab_NotStrip : Bool} {xcol_NotStrip : Option Bool} {xdd_NotStrip : Option Addr} {xk0_NotStrip xk1_NotStrip xk2_NotStrip xk3_NotStrip xk5_NotStrip : Option Value}
    {xod_NotStrip xan_NotStrip : Option Addr} {xsl_NotStrip : Array (Option Value)} {xoc_NotStrip xkV_NotStrip xdc_NotStrip xpm_NotStrip xcd_NotStrip xct_NotStrip : Value}
    {C_TooManyChanges : Addr}
    {C_TooManyLetters : Addr}
    {C_WalkhandsError : Addr}
    {C_WrongAmounts : Addr}
    {C_WrongPlace : Addr}
    {C_WrongSize : Addr}
    (a_0 : PySem.W.nsIn K mainGlobals "_law_draws" = some (some (.ref f_0)))
    (l_0 : K.lookup f_0 = some ⟨oc_0, od_0, .func (PySem.W.fnOf "_law_draws" "_law_draws" (defArgs s_law_draws) (defBody s_law_draws) (defScope s_law_draws) .none kV_0 dc_0 pm_0 an_0 cd_0 ct_0), sl_0⟩)
    (c_0 : PySem.W.codeIn K cd_0 "_law_draws" = true)
    (k_0 : PySem.W.keepIn K (.ref f_0) = true)
    (a_1 : PySem.W.nsIn K mainGlobals "_law_box" = some (some (.ref f_1)))
    (l_1 : K.lookup f_1 = some ⟨oc_1, od_1, .func (PySem.W.fnOf "_law_box" "_law_box" (defArgs s_law_box) (defBody s_law_box) (defScope s_law_box) .none kV_1 dc_1 pm_1 an_1 cd_1 ct_1), sl_1⟩)
    (c_1 : PySem.W.codeIn K cd_1 "_law_box" = true)
    (k_1 : PySem.W.keepIn K (.ref f_1) = true)
    (a_2 : PySem.W.nsIn K mainGlobals "_law_next" = some (some (.ref f_2)))
    (l_2 : K.lookup f_2 = some ⟨oc_2, od_2, .func (PySem.W.fnOf "_law_next" "_law_next" (defArgs s_law_next) (defBody s_law_next) (defScope s_law_next) .none kV_2 dc_2 pm_2 an_2 cd_2 ct_2), sl_2⟩)
    (c_2 : PySem.W.codeIn K cd_2 "_law_next" = true)
    (k_2 : PySem.W.keepIn K (.ref f_2) = true)
    (a_3 : PySem.W.nsIn K mainGlobals "_law_kinds" = some (some (.ref f_3)))
    (l_3 : K.lookup f_3 = some ⟨oc_3, od_3, .func (PySem.W.fnOf "_law_kinds" "_law_kinds" (defArgs s_law_kinds) (defBody s_law_kinds) (defScope s_law_kinds) .none kV_3 dc_3 pm_3 an_3 cd_3 ct_3), sl_3⟩)
    (c_3 : PySem.W.codeIn K cd_3 "_law_kinds" = true)
    (k_3 : PySem.W.keepIn K (.ref f_3) = true)
    (a_4 : PySem.W.nsIn K mainGlobals "law" = some (some (.ref f_4)))
    (l_4 : K.lookup f_4 = some ⟨oc_4, od_4, .func (PySem.W.fnOf "law" "law" (defArgs s_law) (defBody s_law) (defScope s_law) .none kV_4 dc_4 pm_4 an_4 cd_4 ct_4), sl_4⟩)
    (c_4 : PySem.W.codeIn K cd_4 "law" = true)
    (k_4 : PySem.W.keepIn K (.ref f_4) = true)
    (z_int : PySem.W.nsIn K mainGlobals "int" = some none)
    (z_range : PySem.W.nsIn K mainGlobals "range" = some none)
    (z_len : PySem.W.nsIn K mainGlobals "len" = some none)
    (z_isinstance : PySem.W.nsIn K mainGlobals "isinstance" = some none)
    (z_ValueError : PySem.W.nsIn K mainGlobals "ValueError" = some none)
    (xa_AmountTooGreat : PySem.W.nsIn K mainGlobals "AmountTooGreat" = some (some (.ref C_AmountTooGreat)))
    (xk_AmountTooGreat : PySem.W.keepIn K (.ref C_AmountTooGreat) = true)
    (xhg_AmountTooGreat : PySem.W.findIn K (.ref C_AmountTooGreat) "__getattribute__" = some (some (.builtin "BaseException.__getattribute__")))
    (xhk_AmountTooGreat : PySem.W.findIn K (.ref C_AmountTooGreat) "__getattr__" = some none)
    (xhs_AmountTooGreat : PySem.W.subIn K (.ref C_AmountTooGreat) (.type "BaseException") = some true)
    (xhd_AmountTooGreat : PySem.W.hasDictIn K C_AmountTooGreat = true)
    (xha_AmountTooGreat : PySem.W.findIn K (.ref C_AmountTooGreat) "__class__" = some (some (.builtin "object.__class__")))
    (xhm_AmountTooGreat : PySem.W.mroIn K C_AmountTooGreat (.type "object") = some true)
    (xty_AmountTooGreat : PySem.W.typeIn K (.ref C_AmountTooGreat) = some (.type "type"))
    (xn_AmountTooGreat : PySem.W.excIn K C_AmountTooGreat veAll "ValueError.__new__" = true)
    (xa_DifferentEnds : PySem.W.nsIn K mainGlobals "DifferentEnds" = some (some (.ref C_DifferentEnds)))
    (xk_DifferentEnds : PySem.W.keepIn K (.ref C_DifferentEnds) = true)
    (xhg_DifferentEnds : PySem.W.findIn K (.ref C_DifferentEnds) "__getattribute__" = some (some (.builtin "BaseException.__getattribute__")))
    (xhk_DifferentEnds : PySem.W.findIn K (.ref C_DifferentEnds) "__getattr__" = some none)
    (xhs_DifferentEnds : PySem.W.subIn K (.ref C_DifferentEnds) (.type "BaseException") = some true)
    (xhd_DifferentEnds : PySem.W.hasDictIn K C_DifferentEnds = true)
    (xha_DifferentEnds : PySem.W.findIn K (.ref C_DifferentEnds) "__class__" = some (some (.builtin "object.__class__")))
    (xhm_DifferentEnds : PySem.W.mroIn K C_DifferentEnds (.type "object") = some true)
    (xty_DifferentEnds : PySem.W.typeIn K (.ref C_DifferentEnds) = some (.type "type"))
    (xn_DifferentEnds : PySem.W.excIn K C_DifferentEnds veAll "ValueError.__new__" = true)
    (xa_LetterTooGreat : PySem.W.nsIn K mainGlobals "LetterTooGreat" = some (some (.ref C_LetterTooGreat)))
    (xk_LetterTooGreat : PySem.W.keepIn K (.ref C_LetterTooGreat) = true)
    (xhg_LetterTooGreat : PySem.W.findIn K (.ref C_LetterTooGreat) "__getattribute__" = some (some (.builtin "BaseException.__getattribute__")))
    (xhk_LetterTooGreat : PySem.W.findIn K (.ref C_LetterTooGreat) "__getattr__" = some none)
    (xhs_LetterTooGreat : PySem.W.subIn K (.ref C_LetterTooGreat) (.type "BaseException") = some true)
    (xhd_LetterTooGreat : PySem.W.hasDictIn K C_LetterTooGreat = true)
    (xha_LetterTooGreat : PySem.W.findIn K (.ref C_LetterTooGreat) "__class__" = some (some (.builtin "object.__class__")))
    (xhm_LetterTooGreat : PySem.W.mroIn K C_LetterTooGreat (.type "object") = some true)
    (xty_LetterTooGreat : PySem.W.typeIn K (.ref C_LetterTooGreat) = some (.type "type"))
    (xn_LetterTooGreat : PySem.W.excIn K C_LetterTooGreat veAll "ValueError.__new__" = true)
    (xa_NoSuchColumn : PySem.W.nsIn K mainGlobals "NoSuchColumn" = some (some (.ref C_NoSuchColumn)))
    (xk_NoSuchColumn : PySem.W.keepIn K (.ref C_NoSuchColumn) = true)
    (xhg_NoSuchColumn : PySem.W.findIn K (.ref C_NoSuchColumn) "__getattribute__" = some (some (.builtin "BaseException.__getattribute__")))
    (xhk_NoSuchColumn : PySem.W.findIn K (.ref C_NoSuchColumn) "__getattr__" = some none)
    (xhs_NoSuchColumn : PySem.W.subIn K (.ref C_NoSuchColumn) (.type "BaseException") = some true)
    (xhd_NoSuchColumn : PySem.W.hasDictIn K C_NoSuchColumn = true)
    (xha_NoSuchColumn : PySem.W.findIn K (.ref C_NoSuchColumn) "__class__" = some (some (.builtin "object.__class__")))
    (xhm_NoSuchColumn : PySem.W.mroIn K C_NoSuchColumn (.type "object") = some true)
    (xty_NoSuchColumn : PySem.W.typeIn K (.ref C_NoSuchColumn) = some (.type "type"))
    (xn_NoSuchColumn : PySem.W.excIn K C_NoSuchColumn veAll "ValueError.__new__" = true)
    (xa_NoSuchCorner : PySem.W.nsIn K mainGlobals "NoSuchCorner" = some (some (.ref C_NoSuchCorner)))
    (xk_NoSuchCorner : PySem.W.keepIn K (.ref C_NoSuchCorner) = true)
    (xhg_NoSuchCorner : PySem.W.findIn K (.ref C_NoSuchCorner) "__getattribute__" = some (some (.builtin "BaseException.__getattribute__")))
    (xhk_NoSuchCorner : PySem.W.findIn K (.ref C_NoSuchCorner) "__getattr__" = some none)
    (xhs_NoSuchCorner : PySem.W.subIn K (.ref C_NoSuchCorner) (.type "BaseException") = some true)
    (xhd_NoSuchCorner : PySem.W.hasDictIn K C_NoSuchCorner = true)
    (xha_NoSuchCorner : PySem.W.findIn K (.ref C_NoSuchCorner) "__class__" = some (some (.builtin "object.__class__")))
    (xhm_NoSuchCorner : PySem.W.mroIn K C_NoSuchCorner (.type "object") = some true)
    (xty_NoSuchCorner : PySem.W.typeIn K (.ref C_NoSuchCorner) = some (.type "type"))
    (xn_NoSuchCorner : PySem.W.excIn K C_NoSuchCorner veAll "ValueError.__new__" = true)
    (xa_NoSuchRow : PySem.W.nsIn K mainGlobals "NoSuchRow" = some (some (.ref C_NoSuchRow)))
    (xk_NoSuchRow : PySem.W.keepIn K (.ref C_NoSuchRow) = true)
    (xhg_NoSuchRow : PySem.W.findIn K (.ref C_NoSuchRow) "__getattribute__" = some (some (.builtin "BaseException.__getattribute__")))
    (xhk_NoSuchRow : PySem.W.findIn K (.ref C_NoSuchRow) "__getattr__" = some none)
    (xhs_NoSuchRow : PySem.W.subIn K (.ref C_NoSuchRow) (.type "BaseException") = some true)
    (xhd_NoSuchRow : PySem.W.hasDictIn K C_NoSuchRow = true)
    (xha_NoSuchRow : PySem.W.findIn K (.ref C_NoSuchRow) "__class__" = some (some (.builtin "object.__class__")))
    (xhm_NoSuchRow : PySem.W.mroIn K C_NoSuchRow (.type "object") = some true)
    (xty_NoSuchRow : PySem.W.typeIn K (.ref C_NoSuchRow) = some (.type "type"))
    (xn_NoSuchRow : PySem.W.excIn K C_NoSuchRow veAll "ValueError.__new__" = true)
    (xa_NotAFamily : PySem.W.nsIn K mainGlobals "NotAFamily" = some (some (.ref C_NotAFamily)))
    (xk_NotAFamily : PySem.W.keepIn K (.ref C_NotAFamily) = true)
    (xhg_NotAFamily : PySem.W.findIn K (.ref C_NotAFamily) "__getattribute__" = some (some (.builtin "BaseException.__getattribute__")))
    (xhk_NotAFamily : PySem.W.findIn K (.ref C_NotAFamily) "__getattr__" = some none)
    (xhs_NotAFamily : PySem.W.subIn K (.ref C_NotAFamily) (.type "BaseException") = some true)
    (xhd_NotAFamily : PySem.W.hasDictIn K C_NotAFamily = true)
    (xha_NotAFamily : PySem.W.findIn K (.ref C_NotAFamily) "__class__" = some (some (.builtin "object.__class__")))
    (xhm_NotAFamily : PySem.W.mroIn K C_NotAFamily (.type "object") = some true)
    (xty_NotAFamily : PySem.W.typeIn K (.ref C_NotAFamily) = some (.type "type"))
    (xn_NotAFamily : PySem.W.excIn K C_NotAFamily veAll "ValueError.__new__" = true)
    (xa_NotAPair : PySem.W.nsIn K mainGlobals "NotAPair" = some (some (.ref C_NotAPair)))
    (xk_NotAPair : PySem.W.keepIn K (.ref C_NotAPair) = true)
    (xhg_NotAPair : PySem.W.findIn K (.ref C_NotAPair) "__getattribute__" = some (some (.builtin "BaseException.__getattribute__")))
    (xhk_NotAPair : PySem.W.findIn K (.ref C_NotAPair) "__getattr__" = some none)
    (xhs_NotAPair : PySem.W.subIn K (.ref C_NotAPair) (.type "BaseException") = some true)
    (xhd_NotAPair : PySem.W.hasDictIn K C_NotAPair = true)
    (xha_NotAPair : PySem.W.findIn K (.ref C_NotAPair) "__class__" = some (some (.builtin "object.__class__")))
    (xhm_NotAPair : PySem.W.mroIn K C_NotAPair (.type "object") = some true)
    (xty_NotAPair : PySem.W.typeIn K (.ref C_NotAPair) = some (.type "type"))
    (xn_NotAPair : PySem.W.excIn K C_NotAPair veAll "ValueError.__new__" = true)
    (xa_NotHeights : PySem.W.nsIn K mainGlobals "NotHeights" = some (some (.ref C_NotHeights)))
    (xk_NotHeights : PySem.W.keepIn K (.ref C_NotHeights) = true)
    (xhg_NotHeights : PySem.W.findIn K (.ref C_NotHeights) "__getattribute__" = some (some (.builtin "BaseException.__getattribute__")))
    (xhk_NotHeights : PySem.W.findIn K (.ref C_NotHeights) "__getattr__" = some none)
    (xhs_NotHeights : PySem.W.subIn K (.ref C_NotHeights) (.type "BaseException") = some true)
    (xhd_NotHeights : PySem.W.hasDictIn K C_NotHeights = true)
    (xha_NotHeights : PySem.W.findIn K (.ref C_NotHeights) "__class__" = some (some (.builtin "object.__class__")))
    (xhm_NotHeights : PySem.W.mroIn K C_NotHeights (.type "object") = some true)
    (xty_NotHeights : PySem.W.typeIn K (.ref C_NotHeights) = some (.type "type"))
    (xn_NotHeights : PySem.W.excIn K C_NotHeights veAll "ValueError.__new__" = true)
    (xa_NotStrip : PySem.W.nsIn K mainGlobals "NotStrip" = some (some (.ref C_NotStrip)))
    (xk_NotStrip : PySem.W.keepIn K (.ref C_NotStrip) = true)
    (xhg_NotStrip : PySem.W.findIn K (.ref C_NotStrip) "__getattribute__" = some (some (.builtin "BaseException.__getattribute__")))
    (xhk_NotStrip : PySem.W.findIn K (.ref C_NotStrip) "__getattr__" = some none)
    (xhs_NotStrip : PySem.W.subIn K (.ref C_NotStrip) (.type "BaseException") = some true)
    (xhd_NotStrip : PySem.W.hasDictIn K C_NotStrip = true)
    (xha_NotStrip : PySem.W.findIn K (.ref C_NotStrip) "__class__" = some (some (.builtin "object.__class__")))
    (xhm_NotStrip : PySem.W.mroIn K C_NotStrip (.type "object") = some true)
    (xty_NotStrip : PySem.W.typeIn K (.ref C_NotStrip) = some (.type "type"))
    (xL_NotStrip : K.lookup C_NotStrip = some (excClassObj xnm_NotStrip xq_NotStrip C_NotStrip xN_NotStrip xbs_NotStrip xbm_NotStrip true xsn_NotStrip xsub_NotStrip xab_NotStrip xcol_NotStrip xdd_NotStrip xk0_NotStrip xk1_NotStrip xk2_NotStrip xk3_NotStrip xk5_NotStrip "ValueError.__new__"))
    (xrb_NotStrip : PySem.HandSPX.refsVE xbm_NotStrip = true)
    (xsa_NotStrip : PySem.W.findIn K (.ref C_NotStrip) "__setattr__" = some (some (.builtin "object.__setattr__")))
    (xno_NotStrip : PySem.W.findIn K (.ref C_NotStrip) "name" = some none)
    (xin_NotStrip : PySem.W.findIn K (.ref C_NotStrip) "__init__" = some (some (.ref xfI_NotStrip)))
    (xti_NotStrip : PySem.W.typeIn K (.ref xfI_NotStrip) = some (.type "function"))
    (xli_NotStrip : K.lookup xfI_NotStrip = some ⟨xoc_NotStrip, xod_NotStrip, .func (PySem.W.fnOf "__init__" "NotStrip.__init__" (defArgs si_NotStrip) (defBody si_NotStrip) (defScope si_NotStrip) .none xkV_NotStrip xdc_NotStrip xpm_NotStrip xan_NotStrip xcd_NotStrip xct_NotStrip), xsl_NotStrip⟩)
    (xci_NotStrip : PySem.W.codeIn K xcd_NotStrip "NotStrip.__init__" = true)
    (xki_NotStrip : PySem.W.keepIn K (.ref xfI_NotStrip) = true)
    (xa_TooManyChanges : PySem.W.nsIn K mainGlobals "TooManyChanges" = some (some (.ref C_TooManyChanges)))
    (xk_TooManyChanges : PySem.W.keepIn K (.ref C_TooManyChanges) = true)
    (xhg_TooManyChanges : PySem.W.findIn K (.ref C_TooManyChanges) "__getattribute__" = some (some (.builtin "BaseException.__getattribute__")))
    (xhk_TooManyChanges : PySem.W.findIn K (.ref C_TooManyChanges) "__getattr__" = some none)
    (xhs_TooManyChanges : PySem.W.subIn K (.ref C_TooManyChanges) (.type "BaseException") = some true)
    (xhd_TooManyChanges : PySem.W.hasDictIn K C_TooManyChanges = true)
    (xha_TooManyChanges : PySem.W.findIn K (.ref C_TooManyChanges) "__class__" = some (some (.builtin "object.__class__")))
    (xhm_TooManyChanges : PySem.W.mroIn K C_TooManyChanges (.type "object") = some true)
    (xty_TooManyChanges : PySem.W.typeIn K (.ref C_TooManyChanges) = some (.type "type"))
    (xn_TooManyChanges : PySem.W.excIn K C_TooManyChanges veAll "ValueError.__new__" = true)
    (xa_TooManyLetters : PySem.W.nsIn K mainGlobals "TooManyLetters" = some (some (.ref C_TooManyLetters)))
    (xk_TooManyLetters : PySem.W.keepIn K (.ref C_TooManyLetters) = true)
    (xhg_TooManyLetters : PySem.W.findIn K (.ref C_TooManyLetters) "__getattribute__" = some (some (.builtin "BaseException.__getattribute__")))
    (xhk_TooManyLetters : PySem.W.findIn K (.ref C_TooManyLetters) "__getattr__" = some none)
    (xhs_TooManyLetters : PySem.W.subIn K (.ref C_TooManyLetters) (.type "BaseException") = some true)
    (xhd_TooManyLetters : PySem.W.hasDictIn K C_TooManyLetters = true)
    (xha_TooManyLetters : PySem.W.findIn K (.ref C_TooManyLetters) "__class__" = some (some (.builtin "object.__class__")))
    (xhm_TooManyLetters : PySem.W.mroIn K C_TooManyLetters (.type "object") = some true)
    (xty_TooManyLetters : PySem.W.typeIn K (.ref C_TooManyLetters) = some (.type "type"))
    (xn_TooManyLetters : PySem.W.excIn K C_TooManyLetters veAll "ValueError.__new__" = true)
    (xa_WalkhandsError : PySem.W.nsIn K mainGlobals "WalkhandsError" = some (some (.ref C_WalkhandsError)))
    (xk_WalkhandsError : PySem.W.keepIn K (.ref C_WalkhandsError) = true)
    (xhg_WalkhandsError : PySem.W.findIn K (.ref C_WalkhandsError) "__getattribute__" = some (some (.builtin "BaseException.__getattribute__")))
    (xhk_WalkhandsError : PySem.W.findIn K (.ref C_WalkhandsError) "__getattr__" = some none)
    (xhs_WalkhandsError : PySem.W.subIn K (.ref C_WalkhandsError) (.type "BaseException") = some true)
    (xhd_WalkhandsError : PySem.W.hasDictIn K C_WalkhandsError = true)
    (xha_WalkhandsError : PySem.W.findIn K (.ref C_WalkhandsError) "__class__" = some (some (.builtin "object.__class__")))
    (xhm_WalkhandsError : PySem.W.mroIn K C_WalkhandsError (.type "object") = some true)
    (xty_WalkhandsError : PySem.W.typeIn K (.ref C_WalkhandsError) = some (.type "type"))
    (xa_WrongAmounts : PySem.W.nsIn K mainGlobals "WrongAmounts" = some (some (.ref C_WrongAmounts)))
    (xk_WrongAmounts : PySem.W.keepIn K (.ref C_WrongAmounts) = true)
    (xhg_WrongAmounts : PySem.W.findIn K (.ref C_WrongAmounts) "__getattribute__" = some (some (.builtin "BaseException.__getattribute__")))
    (xhk_WrongAmounts : PySem.W.findIn K (.ref C_WrongAmounts) "__getattr__" = some none)
    (xhs_WrongAmounts : PySem.W.subIn K (.ref C_WrongAmounts) (.type "BaseException") = some true)
    (xhd_WrongAmounts : PySem.W.hasDictIn K C_WrongAmounts = true)
    (xha_WrongAmounts : PySem.W.findIn K (.ref C_WrongAmounts) "__class__" = some (some (.builtin "object.__class__")))
    (xhm_WrongAmounts : PySem.W.mroIn K C_WrongAmounts (.type "object") = some true)
    (xty_WrongAmounts : PySem.W.typeIn K (.ref C_WrongAmounts) = some (.type "type"))
    (xn_WrongAmounts : PySem.W.excIn K C_WrongAmounts veAll "ValueError.__new__" = true)
    (xa_WrongPlace : PySem.W.nsIn K mainGlobals "WrongPlace" = some (some (.ref C_WrongPlace)))
    (xk_WrongPlace : PySem.W.keepIn K (.ref C_WrongPlace) = true)
    (xhg_WrongPlace : PySem.W.findIn K (.ref C_WrongPlace) "__getattribute__" = some (some (.builtin "BaseException.__getattribute__")))
    (xhk_WrongPlace : PySem.W.findIn K (.ref C_WrongPlace) "__getattr__" = some none)
    (xhs_WrongPlace : PySem.W.subIn K (.ref C_WrongPlace) (.type "BaseException") = some true)
    (xhd_WrongPlace : PySem.W.hasDictIn K C_WrongPlace = true)
    (xha_WrongPlace : PySem.W.findIn K (.ref C_WrongPlace) "__class__" = some (some (.builtin "object.__class__")))
    (xhm_WrongPlace : PySem.W.mroIn K C_WrongPlace (.type "object") = some true)
    (xty_WrongPlace : PySem.W.typeIn K (.ref C_WrongPlace) = some (.type "type"))
    (xn_WrongPlace : PySem.W.excIn K C_WrongPlace veAll "ValueError.__new__" = true)
    (xa_WrongSize : PySem.W.nsIn K mainGlobals "WrongSize" = some (some (.ref C_WrongSize)))
    (xk_WrongSize : PySem.W.keepIn K (.ref C_WrongSize) = true)
    (xhg_WrongSize : PySem.W.findIn K (.ref C_WrongSize) "__getattribute__" = some (some (.builtin "BaseException.__getattribute__")))
    (xhk_WrongSize : PySem.W.findIn K (.ref C_WrongSize) "__getattr__" = some none)
    (xhs_WrongSize : PySem.W.subIn K (.ref C_WrongSize) (.type "BaseException") = some true)
    (xhd_WrongSize : PySem.W.hasDictIn K C_WrongSize = true)
    (xha_WrongSize : PySem.W.findIn K (.ref C_WrongSize) "__class__" = some (some (.builtin "object.__class__")))
    (xhm_WrongSize : PySem.W.mroIn K C_WrongSize (.type "object") = some true)
    (xty_WrongSize : PySem.W.typeIn K (.ref C_WrongSize) = some (.type "type"))
    (xn_WrongSize : PySem.W.excIn K C_WrongSize veAll "ValueError.__new__" = true)
    (xspec : PySem.W.specialIn K (.builtin "object.__class__") "__get__" = some (some (.builtin "getset_descriptor.__get__")))
    (xtakes : PySem.W.takesIn K (.builtin "object.__class__") = some true)
    (q_AmountTooGreat_AmountTooGreat : PySem.W.kitOne K (.ref C_AmountTooGreat) (.ref C_AmountTooGreat) = some true)
    (q_AmountTooGreat_DifferentEnds : PySem.W.kitOne K (.ref C_AmountTooGreat) (.ref C_DifferentEnds) = some false)
    (q_AmountTooGreat_LetterTooGreat : PySem.W.kitOne K (.ref C_AmountTooGreat) (.ref C_LetterTooGreat) = some false)
    (q_AmountTooGreat_NoSuchColumn : PySem.W.kitOne K (.ref C_AmountTooGreat) (.ref C_NoSuchColumn) = some false)
    (q_AmountTooGreat_NoSuchCorner : PySem.W.kitOne K (.ref C_AmountTooGreat) (.ref C_NoSuchCorner) = some false)
    (q_AmountTooGreat_NoSuchRow : PySem.W.kitOne K (.ref C_AmountTooGreat) (.ref C_NoSuchRow) = some false)
    (q_AmountTooGreat_NotAFamily : PySem.W.kitOne K (.ref C_AmountTooGreat) (.ref C_NotAFamily) = some false)
    (q_AmountTooGreat_NotAPair : PySem.W.kitOne K (.ref C_AmountTooGreat) (.ref C_NotAPair) = some false)
    (q_AmountTooGreat_NotHeights : PySem.W.kitOne K (.ref C_AmountTooGreat) (.ref C_NotHeights) = some false)
    (q_AmountTooGreat_NotStrip : PySem.W.kitOne K (.ref C_AmountTooGreat) (.ref C_NotStrip) = some false)
    (q_AmountTooGreat_TooManyChanges : PySem.W.kitOne K (.ref C_AmountTooGreat) (.ref C_TooManyChanges) = some false)
    (q_AmountTooGreat_TooManyLetters : PySem.W.kitOne K (.ref C_AmountTooGreat) (.ref C_TooManyLetters) = some false)
    (q_AmountTooGreat_ValueError : PySem.W.kitOne K (.ref C_AmountTooGreat) (.type "ValueError") = some true)
    (q_AmountTooGreat_WalkhandsError : PySem.W.kitOne K (.ref C_AmountTooGreat) (.ref C_WalkhandsError) = some true)
    (q_AmountTooGreat_WrongAmounts : PySem.W.kitOne K (.ref C_AmountTooGreat) (.ref C_WrongAmounts) = some false)
    (q_AmountTooGreat_WrongPlace : PySem.W.kitOne K (.ref C_AmountTooGreat) (.ref C_WrongPlace) = some false)
    (q_AmountTooGreat_WrongSize : PySem.W.kitOne K (.ref C_AmountTooGreat) (.ref C_WrongSize) = some false)
    (q_DifferentEnds_AmountTooGreat : PySem.W.kitOne K (.ref C_DifferentEnds) (.ref C_AmountTooGreat) = some false)
    (q_DifferentEnds_DifferentEnds : PySem.W.kitOne K (.ref C_DifferentEnds) (.ref C_DifferentEnds) = some true)
    (q_DifferentEnds_LetterTooGreat : PySem.W.kitOne K (.ref C_DifferentEnds) (.ref C_LetterTooGreat) = some false)
    (q_DifferentEnds_NoSuchColumn : PySem.W.kitOne K (.ref C_DifferentEnds) (.ref C_NoSuchColumn) = some false)
    (q_DifferentEnds_NoSuchCorner : PySem.W.kitOne K (.ref C_DifferentEnds) (.ref C_NoSuchCorner) = some false)
    (q_DifferentEnds_NoSuchRow : PySem.W.kitOne K (.ref C_DifferentEnds) (.ref C_NoSuchRow) = some false)
    (q_DifferentEnds_NotAFamily : PySem.W.kitOne K (.ref C_DifferentEnds) (.ref C_NotAFamily) = some false)
    (q_DifferentEnds_NotAPair : PySem.W.kitOne K (.ref C_DifferentEnds) (.ref C_NotAPair) = some false)
    (q_DifferentEnds_NotHeights : PySem.W.kitOne K (.ref C_DifferentEnds) (.ref C_NotHeights) = some false)
    (q_DifferentEnds_NotStrip : PySem.W.kitOne K (.ref C_DifferentEnds) (.ref C_NotStrip) = some false)
    (q_DifferentEnds_TooManyChanges : PySem.W.kitOne K (.ref C_DifferentEnds) (.ref C_TooManyChanges) = some false)
    (q_DifferentEnds_TooManyLetters : PySem.W.kitOne K (.ref C_DifferentEnds) (.ref C_TooManyLetters) = some false)
    (q_DifferentEnds_ValueError : PySem.W.kitOne K (.ref C_DifferentEnds) (.type "ValueError") = some true)
    (q_DifferentEnds_WalkhandsError : PySem.W.kitOne K (.ref C_DifferentEnds) (.ref C_WalkhandsError) = some true)
    (q_DifferentEnds_WrongAmounts : PySem.W.kitOne K (.ref C_DifferentEnds) (.ref C_WrongAmounts) = some false)
    (q_DifferentEnds_WrongPlace : PySem.W.kitOne K (.ref C_DifferentEnds) (.ref C_WrongPlace) = some false)
    (q_DifferentEnds_WrongSize : PySem.W.kitOne K (.ref C_DifferentEnds) (.ref C_WrongSize) = some false)
    (q_LetterTooGreat_AmountTooGreat : PySem.W.kitOne K (.ref C_LetterTooGreat) (.ref C_AmountTooGreat) = some false)
    (q_LetterTooGreat_DifferentEnds : PySem.W.kitOne K (.ref C_LetterTooGreat) (.ref C_DifferentEnds) = some false)
    (q_LetterTooGreat_LetterTooGreat : PySem.W.kitOne K (.ref C_LetterTooGreat) (.ref C_LetterTooGreat) = some true)
    (q_LetterTooGreat_NoSuchColumn : PySem.W.kitOne K (.ref C_LetterTooGreat) (.ref C_NoSuchColumn) = some false)
    (q_LetterTooGreat_NoSuchCorner : PySem.W.kitOne K (.ref C_LetterTooGreat) (.ref C_NoSuchCorner) = some false)
    (q_LetterTooGreat_NoSuchRow : PySem.W.kitOne K (.ref C_LetterTooGreat) (.ref C_NoSuchRow) = some false)
    (q_LetterTooGreat_NotAFamily : PySem.W.kitOne K (.ref C_LetterTooGreat) (.ref C_NotAFamily) = some false)
    (q_LetterTooGreat_NotAPair : PySem.W.kitOne K (.ref C_LetterTooGreat) (.ref C_NotAPair) = some false)
    (q_LetterTooGreat_NotHeights : PySem.W.kitOne K (.ref C_LetterTooGreat) (.ref C_NotHeights) = some false)
    (q_LetterTooGreat_NotStrip : PySem.W.kitOne K (.ref C_LetterTooGreat) (.ref C_NotStrip) = some false)
    (q_LetterTooGreat_TooManyChanges : PySem.W.kitOne K (.ref C_LetterTooGreat) (.ref C_TooManyChanges) = some false)
    (q_LetterTooGreat_TooManyLetters : PySem.W.kitOne K (.ref C_LetterTooGreat) (.ref C_TooManyLetters) = some false)
    (q_LetterTooGreat_ValueError : PySem.W.kitOne K (.ref C_LetterTooGreat) (.type "ValueError") = some true)
    (q_LetterTooGreat_WalkhandsError : PySem.W.kitOne K (.ref C_LetterTooGreat) (.ref C_WalkhandsError) = some true)
    (q_LetterTooGreat_WrongAmounts : PySem.W.kitOne K (.ref C_LetterTooGreat) (.ref C_WrongAmounts) = some false)
    (q_LetterTooGreat_WrongPlace : PySem.W.kitOne K (.ref C_LetterTooGreat) (.ref C_WrongPlace) = some false)
    (q_LetterTooGreat_WrongSize : PySem.W.kitOne K (.ref C_LetterTooGreat) (.ref C_WrongSize) = some false)
    (q_NoSuchColumn_AmountTooGreat : PySem.W.kitOne K (.ref C_NoSuchColumn) (.ref C_AmountTooGreat) = some false)
    (q_NoSuchColumn_DifferentEnds : PySem.W.kitOne K (.ref C_NoSuchColumn) (.ref C_DifferentEnds) = some false)
    (q_NoSuchColumn_LetterTooGreat : PySem.W.kitOne K (.ref C_NoSuchColumn) (.ref C_LetterTooGreat) = some false)
    (q_NoSuchColumn_NoSuchColumn : PySem.W.kitOne K (.ref C_NoSuchColumn) (.ref C_NoSuchColumn) = some true)
    (q_NoSuchColumn_NoSuchCorner : PySem.W.kitOne K (.ref C_NoSuchColumn) (.ref C_NoSuchCorner) = some false)
    (q_NoSuchColumn_NoSuchRow : PySem.W.kitOne K (.ref C_NoSuchColumn) (.ref C_NoSuchRow) = some false)
    (q_NoSuchColumn_NotAFamily : PySem.W.kitOne K (.ref C_NoSuchColumn) (.ref C_NotAFamily) = some false)
    (q_NoSuchColumn_NotAPair : PySem.W.kitOne K (.ref C_NoSuchColumn) (.ref C_NotAPair) = some false)
    (q_NoSuchColumn_NotHeights : PySem.W.kitOne K (.ref C_NoSuchColumn) (.ref C_NotHeights) = some false)
    (q_NoSuchColumn_NotStrip : PySem.W.kitOne K (.ref C_NoSuchColumn) (.ref C_NotStrip) = some false)
    (q_NoSuchColumn_TooManyChanges : PySem.W.kitOne K (.ref C_NoSuchColumn) (.ref C_TooManyChanges) = some false)
    (q_NoSuchColumn_TooManyLetters : PySem.W.kitOne K (.ref C_NoSuchColumn) (.ref C_TooManyLetters) = some false)
    (q_NoSuchColumn_ValueError : PySem.W.kitOne K (.ref C_NoSuchColumn) (.type "ValueError") = some true)
    (q_NoSuchColumn_WalkhandsError : PySem.W.kitOne K (.ref C_NoSuchColumn) (.ref C_WalkhandsError) = some true)
    (q_NoSuchColumn_WrongAmounts : PySem.W.kitOne K (.ref C_NoSuchColumn) (.ref C_WrongAmounts) = some false)
    (q_NoSuchColumn_WrongPlace : PySem.W.kitOne K (.ref C_NoSuchColumn) (.ref C_WrongPlace) = some false)
    (q_NoSuchColumn_WrongSize : PySem.W.kitOne K (.ref C_NoSuchColumn) (.ref C_WrongSize) = some false)
    (q_NoSuchCorner_AmountTooGreat : PySem.W.kitOne K (.ref C_NoSuchCorner) (.ref C_AmountTooGreat) = some false)
    (q_NoSuchCorner_DifferentEnds : PySem.W.kitOne K (.ref C_NoSuchCorner) (.ref C_DifferentEnds) = some false)
    (q_NoSuchCorner_LetterTooGreat : PySem.W.kitOne K (.ref C_NoSuchCorner) (.ref C_LetterTooGreat) = some false)
    (q_NoSuchCorner_NoSuchColumn : PySem.W.kitOne K (.ref C_NoSuchCorner) (.ref C_NoSuchColumn) = some false)
    (q_NoSuchCorner_NoSuchCorner : PySem.W.kitOne K (.ref C_NoSuchCorner) (.ref C_NoSuchCorner) = some true)
    (q_NoSuchCorner_NoSuchRow : PySem.W.kitOne K (.ref C_NoSuchCorner) (.ref C_NoSuchRow) = some false)
    (q_NoSuchCorner_NotAFamily : PySem.W.kitOne K (.ref C_NoSuchCorner) (.ref C_NotAFamily) = some false)
    (q_NoSuchCorner_NotAPair : PySem.W.kitOne K (.ref C_NoSuchCorner) (.ref C_NotAPair) = some false)
    (q_NoSuchCorner_NotHeights : PySem.W.kitOne K (.ref C_NoSuchCorner) (.ref C_NotHeights) = some false)
    (q_NoSuchCorner_NotStrip : PySem.W.kitOne K (.ref C_NoSuchCorner) (.ref C_NotStrip) = some false)
    (q_NoSuchCorner_TooManyChanges : PySem.W.kitOne K (.ref C_NoSuchCorner) (.ref C_TooManyChanges) = some false)
    (q_NoSuchCorner_TooManyLetters : PySem.W.kitOne K (.ref C_NoSuchCorner) (.ref C_TooManyLetters) = some false)
    (q_NoSuchCorner_ValueError : PySem.W.kitOne K (.ref C_NoSuchCorner) (.type "ValueError") = some true)
    (q_NoSuchCorner_WalkhandsError : PySem.W.kitOne K (.ref C_NoSuchCorner) (.ref C_WalkhandsError) = some true)
    (q_NoSuchCorner_WrongAmounts : PySem.W.kitOne K (.ref C_NoSuchCorner) (.ref C_WrongAmounts) = some false)
    (q_NoSuchCorner_WrongPlace : PySem.W.kitOne K (.ref C_NoSuchCorner) (.ref C_WrongPlace) = some false)
    (q_NoSuchCorner_WrongSize : PySem.W.kitOne K (.ref C_NoSuchCorner) (.ref C_WrongSize) = some false)
    (q_NoSuchRow_AmountTooGreat : PySem.W.kitOne K (.ref C_NoSuchRow) (.ref C_AmountTooGreat) = some false)
    (q_NoSuchRow_DifferentEnds : PySem.W.kitOne K (.ref C_NoSuchRow) (.ref C_DifferentEnds) = some false)
    (q_NoSuchRow_LetterTooGreat : PySem.W.kitOne K (.ref C_NoSuchRow) (.ref C_LetterTooGreat) = some false)
    (q_NoSuchRow_NoSuchColumn : PySem.W.kitOne K (.ref C_NoSuchRow) (.ref C_NoSuchColumn) = some false)
    (q_NoSuchRow_NoSuchCorner : PySem.W.kitOne K (.ref C_NoSuchRow) (.ref C_NoSuchCorner) = some false)
    (q_NoSuchRow_NoSuchRow : PySem.W.kitOne K (.ref C_NoSuchRow) (.ref C_NoSuchRow) = some true)
    (q_NoSuchRow_NotAFamily : PySem.W.kitOne K (.ref C_NoSuchRow) (.ref C_NotAFamily) = some false)
    (q_NoSuchRow_NotAPair : PySem.W.kitOne K (.ref C_NoSuchRow) (.ref C_NotAPair) = some false)
    (q_NoSuchRow_NotHeights : PySem.W.kitOne K (.ref C_NoSuchRow) (.ref C_NotHeights) = some false)
    (q_NoSuchRow_NotStrip : PySem.W.kitOne K (.ref C_NoSuchRow) (.ref C_NotStrip) = some false)
    (q_NoSuchRow_TooManyChanges : PySem.W.kitOne K (.ref C_NoSuchRow) (.ref C_TooManyChanges) = some false)
    (q_NoSuchRow_TooManyLetters : PySem.W.kitOne K (.ref C_NoSuchRow) (.ref C_TooManyLetters) = some false)
    (q_NoSuchRow_ValueError : PySem.W.kitOne K (.ref C_NoSuchRow) (.type "ValueError") = some true)
    (q_NoSuchRow_WalkhandsError : PySem.W.kitOne K (.ref C_NoSuchRow) (.ref C_WalkhandsError) = some true)
    (q_NoSuchRow_WrongAmounts : PySem.W.kitOne K (.ref C_NoSuchRow) (.ref C_WrongAmounts) = some false)
    (q_NoSuchRow_WrongPlace : PySem.W.kitOne K (.ref C_NoSuchRow) (.ref C_WrongPlace) = some false)
    (q_NoSuchRow_WrongSize : PySem.W.kitOne K (.ref C_NoSuchRow) (.ref C_WrongSize) = some false)
    (q_NotAFamily_AmountTooGreat : PySem.W.kitOne K (.ref C_NotAFamily) (.ref C_AmountTooGreat) = some false)
    (q_NotAFamily_DifferentEnds : PySem.W.kitOne K (.ref C_NotAFamily) (.ref C_DifferentEnds) = some false)
    (q_NotAFamily_LetterTooGreat : PySem.W.kitOne K (.ref C_NotAFamily) (.ref C_LetterTooGreat) = some false)
    (q_NotAFamily_NoSuchColumn : PySem.W.kitOne K (.ref C_NotAFamily) (.ref C_NoSuchColumn) = some false)
    (q_NotAFamily_NoSuchCorner : PySem.W.kitOne K (.ref C_NotAFamily) (.ref C_NoSuchCorner) = some false)
    (q_NotAFamily_NoSuchRow : PySem.W.kitOne K (.ref C_NotAFamily) (.ref C_NoSuchRow) = some false)
    (q_NotAFamily_NotAFamily : PySem.W.kitOne K (.ref C_NotAFamily) (.ref C_NotAFamily) = some true)
    (q_NotAFamily_NotAPair : PySem.W.kitOne K (.ref C_NotAFamily) (.ref C_NotAPair) = some false)
    (q_NotAFamily_NotHeights : PySem.W.kitOne K (.ref C_NotAFamily) (.ref C_NotHeights) = some false)
    (q_NotAFamily_NotStrip : PySem.W.kitOne K (.ref C_NotAFamily) (.ref C_NotStrip) = some false)
    (q_NotAFamily_TooManyChanges : PySem.W.kitOne K (.ref C_NotAFamily) (.ref C_TooManyChanges) = some false)
    (q_NotAFamily_TooManyLetters : PySem.W.kitOne K (.ref C_NotAFamily) (.ref C_TooManyLetters) = some false)
    (q_NotAFamily_ValueError : PySem.W.kitOne K (.ref C_NotAFamily) (.type "ValueError") = some true)
    (q_NotAFamily_WalkhandsError : PySem.W.kitOne K (.ref C_NotAFamily) (.ref C_WalkhandsError) = some true)
    (q_NotAFamily_WrongAmounts : PySem.W.kitOne K (.ref C_NotAFamily) (.ref C_WrongAmounts) = some false)
    (q_NotAFamily_WrongPlace : PySem.W.kitOne K (.ref C_NotAFamily) (.ref C_WrongPlace) = some false)
    (q_NotAFamily_WrongSize : PySem.W.kitOne K (.ref C_NotAFamily) (.ref C_WrongSize) = some false)
    (q_NotAPair_AmountTooGreat : PySem.W.kitOne K (.ref C_NotAPair) (.ref C_AmountTooGreat) = some false)
    (q_NotAPair_DifferentEnds : PySem.W.kitOne K (.ref C_NotAPair) (.ref C_DifferentEnds) = some false)
    (q_NotAPair_LetterTooGreat : PySem.W.kitOne K (.ref C_NotAPair) (.ref C_LetterTooGreat) = some false)
    (q_NotAPair_NoSuchColumn : PySem.W.kitOne K (.ref C_NotAPair) (.ref C_NoSuchColumn) = some false)
    (q_NotAPair_NoSuchCorner : PySem.W.kitOne K (.ref C_NotAPair) (.ref C_NoSuchCorner) = some false)
    (q_NotAPair_NoSuchRow : PySem.W.kitOne K (.ref C_NotAPair) (.ref C_NoSuchRow) = some false)
    (q_NotAPair_NotAFamily : PySem.W.kitOne K (.ref C_NotAPair) (.ref C_NotAFamily) = some false)
    (q_NotAPair_NotAPair : PySem.W.kitOne K (.ref C_NotAPair) (.ref C_NotAPair) = some true)
    (q_NotAPair_NotHeights : PySem.W.kitOne K (.ref C_NotAPair) (.ref C_NotHeights) = some false)
    (q_NotAPair_NotStrip : PySem.W.kitOne K (.ref C_NotAPair) (.ref C_NotStrip) = some false)
    (q_NotAPair_TooManyChanges : PySem.W.kitOne K (.ref C_NotAPair) (.ref C_TooManyChanges) = some false)
    (q_NotAPair_TooManyLetters : PySem.W.kitOne K (.ref C_NotAPair) (.ref C_TooManyLetters) = some false)
    (q_NotAPair_ValueError : PySem.W.kitOne K (.ref C_NotAPair) (.type "ValueError") = some true)
    (q_NotAPair_WalkhandsError : PySem.W.kitOne K (.ref C_NotAPair) (.ref C_WalkhandsError) = some true)
    (q_NotAPair_WrongAmounts : PySem.W.kitOne K (.ref C_NotAPair) (.ref C_WrongAmounts) = some false)
    (q_NotAPair_WrongPlace : PySem.W.kitOne K (.ref C_NotAPair) (.ref C_WrongPlace) = some false)
    (q_NotAPair_WrongSize : PySem.W.kitOne K (.ref C_NotAPair) (.ref C_WrongSize) = some false)
    (q_NotHeights_AmountTooGreat : PySem.W.kitOne K (.ref C_NotHeights) (.ref C_AmountTooGreat) = some false)
    (q_NotHeights_DifferentEnds : PySem.W.kitOne K (.ref C_NotHeights) (.ref C_DifferentEnds) = some false)
    (q_NotHeights_LetterTooGreat : PySem.W.kitOne K (.ref C_NotHeights) (.ref C_LetterTooGreat) = some false)
    (q_NotHeights_NoSuchColumn : PySem.W.kitOne K (.ref C_NotHeights) (.ref C_NoSuchColumn) = some false)
    (q_NotHeights_NoSuchCorner : PySem.W.kitOne K (.ref C_NotHeights) (.ref C_NoSuchCorner) = some false)
    (q_NotHeights_NoSuchRow : PySem.W.kitOne K (.ref C_NotHeights) (.ref C_NoSuchRow) = some false)
    (q_NotHeights_NotAFamily : PySem.W.kitOne K (.ref C_NotHeights) (.ref C_NotAFamily) = some false)
    (q_NotHeights_NotAPair : PySem.W.kitOne K (.ref C_NotHeights) (.ref C_NotAPair) = some false)
    (q_NotHeights_NotHeights : PySem.W.kitOne K (.ref C_NotHeights) (.ref C_NotHeights) = some true)
    (q_NotHeights_NotStrip : PySem.W.kitOne K (.ref C_NotHeights) (.ref C_NotStrip) = some false)
    (q_NotHeights_TooManyChanges : PySem.W.kitOne K (.ref C_NotHeights) (.ref C_TooManyChanges) = some false)
    (q_NotHeights_TooManyLetters : PySem.W.kitOne K (.ref C_NotHeights) (.ref C_TooManyLetters) = some false)
    (q_NotHeights_ValueError : PySem.W.kitOne K (.ref C_NotHeights) (.type "ValueError") = some true)
    (q_NotHeights_WalkhandsError : PySem.W.kitOne K (.ref C_NotHeights) (.ref C_WalkhandsError) = some true)
    (q_NotHeights_WrongAmounts : PySem.W.kitOne K (.ref C_NotHeights) (.ref C_WrongAmounts) = some false)
    (q_NotHeights_WrongPlace : PySem.W.kitOne K (.ref C_NotHeights) (.ref C_WrongPlace) = some false)
    (q_NotHeights_WrongSize : PySem.W.kitOne K (.ref C_NotHeights) (.ref C_WrongSize) = some false)
    (q_NotStrip_AmountTooGreat : PySem.W.kitOne K (.ref C_NotStrip) (.ref C_AmountTooGreat) = some false)
    (q_NotStrip_DifferentEnds : PySem.W.kitOne K (.ref C_NotStrip) (.ref C_DifferentEnds) = some false)
    (q_NotStrip_LetterTooGreat : PySem.W.kitOne K (.ref C_NotStrip) (.ref C_LetterTooGreat) = some false)
    (q_NotStrip_NoSuchColumn : PySem.W.kitOne K (.ref C_NotStrip) (.ref C_NoSuchColumn) = some false)
    (q_NotStrip_NoSuchCorner : PySem.W.kitOne K (.ref C_NotStrip) (.ref C_NoSuchCorner) = some false)
    (q_NotStrip_NoSuchRow : PySem.W.kitOne K (.ref C_NotStrip) (.ref C_NoSuchRow) = some false)
    (q_NotStrip_NotAFamily : PySem.W.kitOne K (.ref C_NotStrip) (.ref C_NotAFamily) = some false)
    (q_NotStrip_NotAPair : PySem.W.kitOne K (.ref C_NotStrip) (.ref C_NotAPair) = some false)
    (q_NotStrip_NotHeights : PySem.W.kitOne K (.ref C_NotStrip) (.ref C_NotHeights) = some false)
    (q_NotStrip_NotStrip : PySem.W.kitOne K (.ref C_NotStrip) (.ref C_NotStrip) = some true)
    (q_NotStrip_TooManyChanges : PySem.W.kitOne K (.ref C_NotStrip) (.ref C_TooManyChanges) = some false)
    (q_NotStrip_TooManyLetters : PySem.W.kitOne K (.ref C_NotStrip) (.ref C_TooManyLetters) = some false)
    (q_NotStrip_ValueError : PySem.W.kitOne K (.ref C_NotStrip) (.type "ValueError") = some true)
    (q_NotStrip_WalkhandsError : PySem.W.kitOne K (.ref C_NotStrip) (.ref C_WalkhandsError) = some true)
    (q_NotStrip_WrongAmounts : PySem.W.kitOne K (.ref C_NotStrip) (.ref C_WrongAmounts) = some false)
    (q_NotStrip_WrongPlace : PySem.W.kitOne K (.ref C_NotStrip) (.ref C_WrongPlace) = some false)
    (q_NotStrip_WrongSize : PySem.W.kitOne K (.ref C_NotStrip) (.ref C_WrongSize) = some false)
    (q_TooManyChanges_AmountTooGreat : PySem.W.kitOne K (.ref C_TooManyChanges) (.ref C_AmountTooGreat) = some false)
    (q_TooManyChanges_DifferentEnds : PySem.W.kitOne K (.ref C_TooManyChanges) (.ref C_DifferentEnds) = some false)
    (q_TooManyChanges_LetterTooGreat : PySem.W.kitOne K (.ref C_TooManyChanges) (.ref C_LetterTooGreat) = some false)
    (q_TooManyChanges_NoSuchColumn : PySem.W.kitOne K (.ref C_TooManyChanges) (.ref C_NoSuchColumn) = some false)
    (q_TooManyChanges_NoSuchCorner : PySem.W.kitOne K (.ref C_TooManyChanges) (.ref C_NoSuchCorner) = some false)
    (q_TooManyChanges_NoSuchRow : PySem.W.kitOne K (.ref C_TooManyChanges) (.ref C_NoSuchRow) = some false)
    (q_TooManyChanges_NotAFamily : PySem.W.kitOne K (.ref C_TooManyChanges) (.ref C_NotAFamily) = some false)
    (q_TooManyChanges_NotAPair : PySem.W.kitOne K (.ref C_TooManyChanges) (.ref C_NotAPair) = some false)
    (q_TooManyChanges_NotHeights : PySem.W.kitOne K (.ref C_TooManyChanges) (.ref C_NotHeights) = some false)
    (q_TooManyChanges_NotStrip : PySem.W.kitOne K (.ref C_TooManyChanges) (.ref C_NotStrip) = some false)
    (q_TooManyChanges_TooManyChanges : PySem.W.kitOne K (.ref C_TooManyChanges) (.ref C_TooManyChanges) = some true)
    (q_TooManyChanges_TooManyLetters : PySem.W.kitOne K (.ref C_TooManyChanges) (.ref C_TooManyLetters) = some false)
    (q_TooManyChanges_ValueError : PySem.W.kitOne K (.ref C_TooManyChanges) (.type "ValueError") = some true)
    (q_TooManyChanges_WalkhandsError : PySem.W.kitOne K (.ref C_TooManyChanges) (.ref C_WalkhandsError) = some true)
    (q_TooManyChanges_WrongAmounts : PySem.W.kitOne K (.ref C_TooManyChanges) (.ref C_WrongAmounts) = some false)
    (q_TooManyChanges_WrongPlace : PySem.W.kitOne K (.ref C_TooManyChanges) (.ref C_WrongPlace) = some false)
    (q_TooManyChanges_WrongSize : PySem.W.kitOne K (.ref C_TooManyChanges) (.ref C_WrongSize) = some false)
    (q_TooManyLetters_AmountTooGreat : PySem.W.kitOne K (.ref C_TooManyLetters) (.ref C_AmountTooGreat) = some false)
    (q_TooManyLetters_DifferentEnds : PySem.W.kitOne K (.ref C_TooManyLetters) (.ref C_DifferentEnds) = some false)
    (q_TooManyLetters_LetterTooGreat : PySem.W.kitOne K (.ref C_TooManyLetters) (.ref C_LetterTooGreat) = some false)
    (q_TooManyLetters_NoSuchColumn : PySem.W.kitOne K (.ref C_TooManyLetters) (.ref C_NoSuchColumn) = some false)
    (q_TooManyLetters_NoSuchCorner : PySem.W.kitOne K (.ref C_TooManyLetters) (.ref C_NoSuchCorner) = some false)
    (q_TooManyLetters_NoSuchRow : PySem.W.kitOne K (.ref C_TooManyLetters) (.ref C_NoSuchRow) = some false)
    (q_TooManyLetters_NotAFamily : PySem.W.kitOne K (.ref C_TooManyLetters) (.ref C_NotAFamily) = some false)
    (q_TooManyLetters_NotAPair : PySem.W.kitOne K (.ref C_TooManyLetters) (.ref C_NotAPair) = some false)
    (q_TooManyLetters_NotHeights : PySem.W.kitOne K (.ref C_TooManyLetters) (.ref C_NotHeights) = some false)
    (q_TooManyLetters_NotStrip : PySem.W.kitOne K (.ref C_TooManyLetters) (.ref C_NotStrip) = some false)
    (q_TooManyLetters_TooManyChanges : PySem.W.kitOne K (.ref C_TooManyLetters) (.ref C_TooManyChanges) = some false)
    (q_TooManyLetters_TooManyLetters : PySem.W.kitOne K (.ref C_TooManyLetters) (.ref C_TooManyLetters) = some true)
    (q_TooManyLetters_ValueError : PySem.W.kitOne K (.ref C_TooManyLetters) (.type "ValueError") = some true)
    (q_TooManyLetters_WalkhandsError : PySem.W.kitOne K (.ref C_TooManyLetters) (.ref C_WalkhandsError) = some true)
    (q_TooManyLetters_WrongAmounts : PySem.W.kitOne K (.ref C_TooManyLetters) (.ref C_WrongAmounts) = some false)
    (q_TooManyLetters_WrongPlace : PySem.W.kitOne K (.ref C_TooManyLetters) (.ref C_WrongPlace) = some false)
    (q_TooManyLetters_WrongSize : PySem.W.kitOne K (.ref C_TooManyLetters) (.ref C_WrongSize) = some false)
    (q_WrongAmounts_AmountTooGreat : PySem.W.kitOne K (.ref C_WrongAmounts) (.ref C_AmountTooGreat) = some false)
    (q_WrongAmounts_DifferentEnds : PySem.W.kitOne K (.ref C_WrongAmounts) (.ref C_DifferentEnds) = some false)
    (q_WrongAmounts_LetterTooGreat : PySem.W.kitOne K (.ref C_WrongAmounts) (.ref C_LetterTooGreat) = some false)
    (q_WrongAmounts_NoSuchColumn : PySem.W.kitOne K (.ref C_WrongAmounts) (.ref C_NoSuchColumn) = some false)
    (q_WrongAmounts_NoSuchCorner : PySem.W.kitOne K (.ref C_WrongAmounts) (.ref C_NoSuchCorner) = some false)
    (q_WrongAmounts_NoSuchRow : PySem.W.kitOne K (.ref C_WrongAmounts) (.ref C_NoSuchRow) = some false)
    (q_WrongAmounts_NotAFamily : PySem.W.kitOne K (.ref C_WrongAmounts) (.ref C_NotAFamily) = some false)
    (q_WrongAmounts_NotAPair : PySem.W.kitOne K (.ref C_WrongAmounts) (.ref C_NotAPair) = some false)
    (q_WrongAmounts_NotHeights : PySem.W.kitOne K (.ref C_WrongAmounts) (.ref C_NotHeights) = some false)
    (q_WrongAmounts_NotStrip : PySem.W.kitOne K (.ref C_WrongAmounts) (.ref C_NotStrip) = some false)
    (q_WrongAmounts_TooManyChanges : PySem.W.kitOne K (.ref C_WrongAmounts) (.ref C_TooManyChanges) = some false)
    (q_WrongAmounts_TooManyLetters : PySem.W.kitOne K (.ref C_WrongAmounts) (.ref C_TooManyLetters) = some false)
    (q_WrongAmounts_ValueError : PySem.W.kitOne K (.ref C_WrongAmounts) (.type "ValueError") = some true)
    (q_WrongAmounts_WalkhandsError : PySem.W.kitOne K (.ref C_WrongAmounts) (.ref C_WalkhandsError) = some true)
    (q_WrongAmounts_WrongAmounts : PySem.W.kitOne K (.ref C_WrongAmounts) (.ref C_WrongAmounts) = some true)
    (q_WrongAmounts_WrongPlace : PySem.W.kitOne K (.ref C_WrongAmounts) (.ref C_WrongPlace) = some false)
    (q_WrongAmounts_WrongSize : PySem.W.kitOne K (.ref C_WrongAmounts) (.ref C_WrongSize) = some false)
    (q_WrongPlace_AmountTooGreat : PySem.W.kitOne K (.ref C_WrongPlace) (.ref C_AmountTooGreat) = some false)
    (q_WrongPlace_DifferentEnds : PySem.W.kitOne K (.ref C_WrongPlace) (.ref C_DifferentEnds) = some false)
    (q_WrongPlace_LetterTooGreat : PySem.W.kitOne K (.ref C_WrongPlace) (.ref C_LetterTooGreat) = some false)
    (q_WrongPlace_NoSuchColumn : PySem.W.kitOne K (.ref C_WrongPlace) (.ref C_NoSuchColumn) = some false)
    (q_WrongPlace_NoSuchCorner : PySem.W.kitOne K (.ref C_WrongPlace) (.ref C_NoSuchCorner) = some false)
    (q_WrongPlace_NoSuchRow : PySem.W.kitOne K (.ref C_WrongPlace) (.ref C_NoSuchRow) = some false)
    (q_WrongPlace_NotAFamily : PySem.W.kitOne K (.ref C_WrongPlace) (.ref C_NotAFamily) = some false)
    (q_WrongPlace_NotAPair : PySem.W.kitOne K (.ref C_WrongPlace) (.ref C_NotAPair) = some false)
    (q_WrongPlace_NotHeights : PySem.W.kitOne K (.ref C_WrongPlace) (.ref C_NotHeights) = some false)
    (q_WrongPlace_NotStrip : PySem.W.kitOne K (.ref C_WrongPlace) (.ref C_NotStrip) = some false)
    (q_WrongPlace_TooManyChanges : PySem.W.kitOne K (.ref C_WrongPlace) (.ref C_TooManyChanges) = some false)
    (q_WrongPlace_TooManyLetters : PySem.W.kitOne K (.ref C_WrongPlace) (.ref C_TooManyLetters) = some false)
    (q_WrongPlace_ValueError : PySem.W.kitOne K (.ref C_WrongPlace) (.type "ValueError") = some true)
    (q_WrongPlace_WalkhandsError : PySem.W.kitOne K (.ref C_WrongPlace) (.ref C_WalkhandsError) = some true)
    (q_WrongPlace_WrongAmounts : PySem.W.kitOne K (.ref C_WrongPlace) (.ref C_WrongAmounts) = some false)
    (q_WrongPlace_WrongPlace : PySem.W.kitOne K (.ref C_WrongPlace) (.ref C_WrongPlace) = some true)
    (q_WrongPlace_WrongSize : PySem.W.kitOne K (.ref C_WrongPlace) (.ref C_WrongSize) = some false)
    (q_WrongSize_AmountTooGreat : PySem.W.kitOne K (.ref C_WrongSize) (.ref C_AmountTooGreat) = some false)
    (q_WrongSize_DifferentEnds : PySem.W.kitOne K (.ref C_WrongSize) (.ref C_DifferentEnds) = some false)
    (q_WrongSize_LetterTooGreat : PySem.W.kitOne K (.ref C_WrongSize) (.ref C_LetterTooGreat) = some false)
    (q_WrongSize_NoSuchColumn : PySem.W.kitOne K (.ref C_WrongSize) (.ref C_NoSuchColumn) = some false)
    (q_WrongSize_NoSuchCorner : PySem.W.kitOne K (.ref C_WrongSize) (.ref C_NoSuchCorner) = some false)
    (q_WrongSize_NoSuchRow : PySem.W.kitOne K (.ref C_WrongSize) (.ref C_NoSuchRow) = some false)
    (q_WrongSize_NotAFamily : PySem.W.kitOne K (.ref C_WrongSize) (.ref C_NotAFamily) = some false)
    (q_WrongSize_NotAPair : PySem.W.kitOne K (.ref C_WrongSize) (.ref C_NotAPair) = some false)
    (q_WrongSize_NotHeights : PySem.W.kitOne K (.ref C_WrongSize) (.ref C_NotHeights) = some false)
    (q_WrongSize_NotStrip : PySem.W.kitOne K (.ref C_WrongSize) (.ref C_NotStrip) = some false)
    (q_WrongSize_TooManyChanges : PySem.W.kitOne K (.ref C_WrongSize) (.ref C_TooManyChanges) = some false)
    (q_WrongSize_TooManyLetters : PySem.W.kitOne K (.ref C_WrongSize) (.ref C_TooManyLetters) = some false)
    (q_WrongSize_ValueError : PySem.W.kitOne K (.ref C_WrongSize) (.type "ValueError") = some true)
    (q_WrongSize_WalkhandsError : PySem.W.kitOne K (.ref C_WrongSize) (.ref C_WalkhandsError) = some true)
    (q_WrongSize_WrongAmounts : PySem.W.kitOne K (.ref C_WrongSize) (.ref C_WrongAmounts) = some false)
    (q_WrongSize_WrongPlace : PySem.W.kitOne K (.ref C_WrongSize) (.ref C_WrongPlace) = some false)
    (q_WrongSize_WrongSize : PySem.W.kitOne K (.ref C_WrongSize) (.ref C_WrongSize) = some true)
    : ∃ fd : FuncData, (∀ (s : Shared) (v : Value), BindsTo s fd ⟨[v], []⟩ [("script", v)]) ∧ ∀ base : Heap, K.In base → base.Ns mainGlobals mg → FnOk l.prog w K mg base CX0 3 fa fd ["script"] (spW K pre_law) := by
  have e := hfa.symm.trans (PySem.W.mg_of X G a_4)
  cases e
  refine ⟨PySem.W.fnOf "law" "law" (defArgs s_law) (defBody s_law) (defScope s_law) .none kV_4 dc_4 pm_4 an_4 cd_4 ct_4, fun s v => .of_eq rfl, fun base _ _ => ?_⟩
  have S_AmountTooGreat : ExS K mg "AmountTooGreat" C_AmountTooGreat := ⟨PySem.W.mg_of X G xa_AmountTooGreat, xk_AmountTooGreat, ⟨xhg_AmountTooGreat, xhk_AmountTooGreat, xhs_AmountTooGreat, xhd_AmountTooGreat, xha_AmountTooGreat, xspec, xtakes, xhm_AmountTooGreat⟩, xty_AmountTooGreat⟩
  have N_AmountTooGreat : ExN K mg "AmountTooGreat" C_AmountTooGreat := ⟨S_AmountTooGreat, xn_AmountTooGreat⟩
  have S_DifferentEnds : ExS K mg "DifferentEnds" C_DifferentEnds := ⟨PySem.W.mg_of X G xa_DifferentEnds, xk_DifferentEnds, ⟨xhg_DifferentEnds, xhk_DifferentEnds, xhs_DifferentEnds, xhd_DifferentEnds, xha_DifferentEnds, xspec, xtakes, xhm_DifferentEnds⟩, xty_DifferentEnds⟩
  have N_DifferentEnds : ExN K mg "DifferentEnds" C_DifferentEnds := ⟨S_DifferentEnds, xn_DifferentEnds⟩
  have S_LetterTooGreat : ExS K mg "LetterTooGreat" C_LetterTooGreat := ⟨PySem.W.mg_of X G xa_LetterTooGreat, xk_LetterTooGreat, ⟨xhg_LetterTooGreat, xhk_LetterTooGreat, xhs_LetterTooGreat, xhd_LetterTooGreat, xha_LetterTooGreat, xspec, xtakes, xhm_LetterTooGreat⟩, xty_LetterTooGreat⟩
  have N_LetterTooGreat : ExN K mg "LetterTooGreat" C_LetterTooGreat := ⟨S_LetterTooGreat, xn_LetterTooGreat⟩
  have S_NoSuchColumn : ExS K mg "NoSuchColumn" C_NoSuchColumn := ⟨PySem.W.mg_of X G xa_NoSuchColumn, xk_NoSuchColumn, ⟨xhg_NoSuchColumn, xhk_NoSuchColumn, xhs_NoSuchColumn, xhd_NoSuchColumn, xha_NoSuchColumn, xspec, xtakes, xhm_NoSuchColumn⟩, xty_NoSuchColumn⟩
  have N_NoSuchColumn : ExN K mg "NoSuchColumn" C_NoSuchColumn := ⟨S_NoSuchColumn, xn_NoSuchColumn⟩
  have S_NoSuchCorner : ExS K mg "NoSuchCorner" C_NoSuchCorner := ⟨PySem.W.mg_of X G xa_NoSuchCorner, xk_NoSuchCorner, ⟨xhg_NoSuchCorner, xhk_NoSuchCorner, xhs_NoSuchCorner, xhd_NoSuchCorner, xha_NoSuchCorner, xspec, xtakes, xhm_NoSuchCorner⟩, xty_NoSuchCorner⟩
  have N_NoSuchCorner : ExN K mg "NoSuchCorner" C_NoSuchCorner := ⟨S_NoSuchCorner, xn_NoSuchCorner⟩
  have S_NoSuchRow : ExS K mg "NoSuchRow" C_NoSuchRow := ⟨PySem.W.mg_of X G xa_NoSuchRow, xk_NoSuchRow, ⟨xhg_NoSuchRow, xhk_NoSuchRow, xhs_NoSuchRow, xhd_NoSuchRow, xha_NoSuchRow, xspec, xtakes, xhm_NoSuchRow⟩, xty_NoSuchRow⟩
  have N_NoSuchRow : ExN K mg "NoSuchRow" C_NoSuchRow := ⟨S_NoSuchRow, xn_NoSuchRow⟩
  have S_NotAFamily : ExS K mg "NotAFamily" C_NotAFamily := ⟨PySem.W.mg_of X G xa_NotAFamily, xk_NotAFamily, ⟨xhg_NotAFamily, xhk_NotAFamily, xhs_NotAFamily, xhd_NotAFamily, xha_NotAFamily, xspec, xtakes, xhm_NotAFamily⟩, xty_NotAFamily⟩
  have N_NotAFamily : ExN K mg "NotAFamily" C_NotAFamily := ⟨S_NotAFamily, xn_NotAFamily⟩
  have S_NotAPair : ExS K mg "NotAPair" C_NotAPair := ⟨PySem.W.mg_of X G xa_NotAPair, xk_NotAPair, ⟨xhg_NotAPair, xhk_NotAPair, xhs_NotAPair, xhd_NotAPair, xha_NotAPair, xspec, xtakes, xhm_NotAPair⟩, xty_NotAPair⟩
  have N_NotAPair : ExN K mg "NotAPair" C_NotAPair := ⟨S_NotAPair, xn_NotAPair⟩
  have S_NotHeights : ExS K mg "NotHeights" C_NotHeights := ⟨PySem.W.mg_of X G xa_NotHeights, xk_NotHeights, ⟨xhg_NotHeights, xhk_NotHeights, xhs_NotHeights, xhd_NotHeights, xha_NotHeights, xspec, xtakes, xhm_NotHeights⟩, xty_NotHeights⟩
  have N_NotHeights : ExN K mg "NotHeights" C_NotHeights := ⟨S_NotHeights, xn_NotHeights⟩
  have S_NotStrip : ExS K mg "NotStrip" C_NotStrip := ⟨PySem.W.mg_of X G xa_NotStrip, xk_NotStrip, ⟨xhg_NotStrip, xhk_NotStrip, xhs_NotStrip, xhd_NotStrip, xha_NotStrip, xspec, xtakes, xhm_NotStrip⟩, xty_NotStrip⟩
  have O_NotStrip : OexC K C_NotStrip := ⟨⟨_, _, _, _, _, _, _, _, _, _, _, _, _, _, _, xL_NotStrip, xrb_NotStrip⟩, xsa_NotStrip, xhs_NotStrip, xty_NotStrip, xk_NotStrip⟩
  have F_NotStrip := fun_mk (st := si_NotStrip) xli_NotStrip xci_NotStrip xki_NotStrip
  have I_NotStrip : ExI l.prog w K mg base "NotStrip" "name" C_NotStrip := ⟨S_NotStrip, O_NotStrip, xno_NotStrip, _, _, xin_NotStrip, xti_NotStrip, ini_ok O_NotStrip xno_NotStrip F_NotStrip sci_NotStrip (fun _ _ _ _ _ _ => pss_one (ps_ost (pv 0) (pv 1))), F_NotStrip.binds fun _ _ _ _ _ _ us hl => match us, hl with | [_, _], _ => rfl⟩
  have S_TooManyChanges : ExS K mg "TooManyChanges" C_TooManyChanges := ⟨PySem.W.mg_of X G xa_TooManyChanges, xk_TooManyChanges, ⟨xhg_TooManyChanges, xhk_TooManyChanges, xhs_TooManyChanges, xhd_TooManyChanges, xha_TooManyChanges, xspec, xtakes, xhm_TooManyChanges⟩, xty_TooManyChanges⟩
  have N_TooManyChanges : ExN K mg "TooManyChanges" C_TooManyChanges := ⟨S_TooManyChanges, xn_TooManyChanges⟩
  have S_TooManyLetters : ExS K mg "TooManyLetters" C_TooManyLetters := ⟨PySem.W.mg_of X G xa_TooManyLetters, xk_TooManyLetters, ⟨xhg_TooManyLetters, xhk_TooManyLetters, xhs_TooManyLetters, xhd_TooManyLetters, xha_TooManyLetters, xspec, xtakes, xhm_TooManyLetters⟩, xty_TooManyLetters⟩
  have N_TooManyLetters : ExN K mg "TooManyLetters" C_TooManyLetters := ⟨S_TooManyLetters, xn_TooManyLetters⟩
  have S_WalkhandsError : ExS K mg "WalkhandsError" C_WalkhandsError := ⟨PySem.W.mg_of X G xa_WalkhandsError, xk_WalkhandsError, ⟨xhg_WalkhandsError, xhk_WalkhandsError, xhs_WalkhandsError, xhd_WalkhandsError, xha_WalkhandsError, xspec, xtakes, xhm_WalkhandsError⟩, xty_WalkhandsError⟩
  have S_WrongAmounts : ExS K mg "WrongAmounts" C_WrongAmounts := ⟨PySem.W.mg_of X G xa_WrongAmounts, xk_WrongAmounts, ⟨xhg_WrongAmounts, xhk_WrongAmounts, xhs_WrongAmounts, xhd_WrongAmounts, xha_WrongAmounts, xspec, xtakes, xhm_WrongAmounts⟩, xty_WrongAmounts⟩
  have N_WrongAmounts : ExN K mg "WrongAmounts" C_WrongAmounts := ⟨S_WrongAmounts, xn_WrongAmounts⟩
  have S_WrongPlace : ExS K mg "WrongPlace" C_WrongPlace := ⟨PySem.W.mg_of X G xa_WrongPlace, xk_WrongPlace, ⟨xhg_WrongPlace, xhk_WrongPlace, xhs_WrongPlace, xhd_WrongPlace, xha_WrongPlace, xspec, xtakes, xhm_WrongPlace⟩, xty_WrongPlace⟩
  have N_WrongPlace : ExN K mg "WrongPlace" C_WrongPlace := ⟨S_WrongPlace, xn_WrongPlace⟩
  have S_WrongSize : ExS K mg "WrongSize" C_WrongSize := ⟨PySem.W.mg_of X G xa_WrongSize, xk_WrongSize, ⟨xhg_WrongSize, xhk_WrongSize, xhs_WrongSize, xhd_WrongSize, xha_WrongSize, xspec, xtakes, xhm_WrongSize⟩, xty_WrongSize⟩
  have N_WrongSize : ExN K mg "WrongSize" C_WrongSize := ⟨S_WrongSize, xn_WrongSize⟩
  have no_NotStrip_name := xno_NotStrip
  have K_law_draws := ok_law_draws (P := l.prog) (w := w) (base := base) ⟨_, _, fun_mk (st := s_law_draws) l_0 c_0 k_0, PySem.W.mg_of X G a_0⟩ (PySem.W.mg_none_of X G z_int) (PySem.W.mg_none_of X G z_range)
  have K_law_box := ok_law_box (P := l.prog) (w := w) (base := base) ⟨_, _, fun_mk (st := s_law_box) l_1 c_1 k_1, PySem.W.mg_of X G a_1⟩ K_law_draws (PySem.W.mg_none_of X G z_len)
  have K_law_next := ok_law_next (P := l.prog) (w := w) (base := base) ⟨_, _, fun_mk (st := s_law_next) l_2 c_2 k_2, PySem.W.mg_of X G a_2⟩ (PySem.W.mg_none_of X G z_int) (PySem.W.mg_none_of X G z_len)
  have K_law_kinds := ok_law_kinds (P := l.prog) (w := w) (base := base) ⟨_, _, fun_mk (st := s_law_kinds) l_3 c_3 k_3, PySem.W.mg_of X G a_3⟩ (PySem.W.mg_none_of X G z_isinstance) S_AmountTooGreat S_DifferentEnds S_LetterTooGreat S_NoSuchColumn S_NoSuchCorner S_NoSuchRow S_NotAFamily S_NotAPair S_NotHeights S_NotStrip S_TooManyChanges S_TooManyLetters S_WrongAmounts S_WrongPlace S_WrongSize q_NotStrip_NotStrip q_NotStrip_DifferentEnds q_NotStrip_AmountTooGreat q_NotStrip_LetterTooGreat q_NotStrip_TooManyLetters q_NotStrip_NotAPair q_NotStrip_NotAFamily q_NotStrip_NotHeights q_NotStrip_NoSuchRow q_NotStrip_NoSuchColumn q_NotStrip_NoSuchCorner q_NotStrip_WrongAmounts q_NotStrip_WrongSize q_NotStrip_TooManyChanges q_NotStrip_WrongPlace q_DifferentEnds_NotStrip q_DifferentEnds_DifferentEnds q_DifferentEnds_AmountTooGreat q_DifferentEnds_LetterTooGreat q_DifferentEnds_TooManyLetters q_DifferentEnds_NotAPair q_DifferentEnds_NotAFamily q_DifferentEnds_NotHeights q_DifferentEnds_NoSuchRow q_DifferentEnds_NoSuchColumn q_DifferentEnds_NoSuchCorner q_DifferentEnds_WrongAmounts q_DifferentEnds_WrongSize q_DifferentEnds_TooManyChanges q_DifferentEnds_WrongPlace q_AmountTooGreat_NotStrip q_AmountTooGreat_DifferentEnds q_AmountTooGreat_AmountTooGreat q_AmountTooGreat_LetterTooGreat q_AmountTooGreat_TooManyLetters q_AmountTooGreat_NotAPair q_AmountTooGreat_NotAFamily q_AmountTooGreat_NotHeights q_AmountTooGreat_NoSuchRow q_AmountTooGreat_NoSuchColumn q_AmountTooGreat_NoSuchCorner q_AmountTooGreat_WrongAmounts q_AmountTooGreat_WrongSize q_AmountTooGreat_TooManyChanges q_AmountTooGreat_WrongPlace q_LetterTooGreat_NotStrip q_LetterTooGreat_DifferentEnds q_LetterTooGreat_AmountTooGreat q_LetterTooGreat_LetterTooGreat q_LetterTooGreat_TooManyLetters q_LetterTooGreat_NotAPair q_LetterTooGreat_NotAFamily q_LetterTooGreat_NotHeights q_LetterTooGreat_NoSuchRow q_LetterTooGreat_NoSuchColumn q_LetterTooGreat_NoSuchCorner q_LetterTooGreat_WrongAmounts q_LetterTooGreat_WrongSize q_LetterTooGreat_TooManyChanges q_LetterTooGreat_WrongPlace q_TooManyLetters_NotStrip q_TooManyLetters_DifferentEnds q_TooManyLetters_AmountTooGreat q_TooManyLetters_LetterTooGreat q_TooManyLetters_TooManyLetters q_TooManyLetters_NotAPair q_TooManyLetters_NotAFamily q_TooManyLetters_NotHeights q_TooManyLetters_NoSuchRow q_TooManyLetters_NoSuchColumn q_TooManyLetters_NoSuchCorner q_TooManyLetters_WrongAmounts q_TooManyLetters_WrongSize q_TooManyLetters_TooManyChanges q_TooManyLetters_WrongPlace q_NotAPair_NotStrip q_NotAPair_DifferentEnds q_NotAPair_AmountTooGreat q_NotAPair_LetterTooGreat q_NotAPair_TooManyLetters q_NotAPair_NotAPair q_NotAPair_NotAFamily q_NotAPair_NotHeights q_NotAPair_NoSuchRow q_NotAPair_NoSuchColumn q_NotAPair_NoSuchCorner q_NotAPair_WrongAmounts q_NotAPair_WrongSize q_NotAPair_TooManyChanges q_NotAPair_WrongPlace q_NotAFamily_NotStrip q_NotAFamily_DifferentEnds q_NotAFamily_AmountTooGreat q_NotAFamily_LetterTooGreat q_NotAFamily_TooManyLetters q_NotAFamily_NotAPair q_NotAFamily_NotAFamily q_NotAFamily_NotHeights q_NotAFamily_NoSuchRow q_NotAFamily_NoSuchColumn q_NotAFamily_NoSuchCorner q_NotAFamily_WrongAmounts q_NotAFamily_WrongSize q_NotAFamily_TooManyChanges q_NotAFamily_WrongPlace q_NotHeights_NotStrip q_NotHeights_DifferentEnds q_NotHeights_AmountTooGreat q_NotHeights_LetterTooGreat q_NotHeights_TooManyLetters q_NotHeights_NotAPair q_NotHeights_NotAFamily q_NotHeights_NotHeights q_NotHeights_NoSuchRow q_NotHeights_NoSuchColumn q_NotHeights_NoSuchCorner q_NotHeights_WrongAmounts q_NotHeights_WrongSize q_NotHeights_TooManyChanges q_NotHeights_WrongPlace q_NoSuchRow_NotStrip q_NoSuchRow_DifferentEnds q_NoSuchRow_AmountTooGreat q_NoSuchRow_LetterTooGreat q_NoSuchRow_TooManyLetters q_NoSuchRow_NotAPair q_NoSuchRow_NotAFamily q_NoSuchRow_NotHeights q_NoSuchRow_NoSuchRow q_NoSuchRow_NoSuchColumn q_NoSuchRow_NoSuchCorner q_NoSuchRow_WrongAmounts q_NoSuchRow_WrongSize q_NoSuchRow_TooManyChanges q_NoSuchRow_WrongPlace q_NoSuchColumn_NotStrip q_NoSuchColumn_DifferentEnds q_NoSuchColumn_AmountTooGreat q_NoSuchColumn_LetterTooGreat q_NoSuchColumn_TooManyLetters q_NoSuchColumn_NotAPair q_NoSuchColumn_NotAFamily q_NoSuchColumn_NotHeights q_NoSuchColumn_NoSuchRow q_NoSuchColumn_NoSuchColumn q_NoSuchColumn_NoSuchCorner q_NoSuchColumn_WrongAmounts q_NoSuchColumn_WrongSize q_NoSuchColumn_TooManyChanges q_NoSuchColumn_WrongPlace q_NoSuchCorner_NotStrip q_NoSuchCorner_DifferentEnds q_NoSuchCorner_AmountTooGreat q_NoSuchCorner_LetterTooGreat q_NoSuchCorner_TooManyLetters q_NoSuchCorner_NotAPair q_NoSuchCorner_NotAFamily q_NoSuchCorner_NotHeights q_NoSuchCorner_NoSuchRow q_NoSuchCorner_NoSuchColumn q_NoSuchCorner_NoSuchCorner q_NoSuchCorner_WrongAmounts q_NoSuchCorner_WrongSize q_NoSuchCorner_TooManyChanges q_NoSuchCorner_WrongPlace q_WrongAmounts_NotStrip q_WrongAmounts_DifferentEnds q_WrongAmounts_AmountTooGreat q_WrongAmounts_LetterTooGreat q_WrongAmounts_TooManyLetters q_WrongAmounts_NotAPair q_WrongAmounts_NotAFamily q_WrongAmounts_NotHeights q_WrongAmounts_NoSuchRow q_WrongAmounts_NoSuchColumn q_WrongAmounts_NoSuchCorner q_WrongAmounts_WrongAmounts q_WrongAmounts_WrongSize q_WrongAmounts_TooManyChanges q_WrongAmounts_WrongPlace q_WrongSize_NotStrip q_WrongSize_DifferentEnds q_WrongSize_AmountTooGreat q_WrongSize_LetterTooGreat q_WrongSize_TooManyLetters q_WrongSize_NotAPair q_WrongSize_NotAFamily q_WrongSize_NotHeights q_WrongSize_NoSuchRow q_WrongSize_NoSuchColumn q_WrongSize_NoSuchCorner q_WrongSize_WrongAmounts q_WrongSize_WrongSize q_WrongSize_TooManyChanges q_WrongSize_WrongPlace q_TooManyChanges_NotStrip q_TooManyChanges_DifferentEnds q_TooManyChanges_AmountTooGreat q_TooManyChanges_LetterTooGreat q_TooManyChanges_TooManyLetters q_TooManyChanges_NotAPair q_TooManyChanges_NotAFamily q_TooManyChanges_NotHeights q_TooManyChanges_NoSuchRow q_TooManyChanges_NoSuchColumn q_TooManyChanges_NoSuchCorner q_TooManyChanges_WrongAmounts q_TooManyChanges_WrongSize q_TooManyChanges_TooManyChanges q_TooManyChanges_WrongPlace q_WrongPlace_NotStrip q_WrongPlace_DifferentEnds q_WrongPlace_AmountTooGreat q_WrongPlace_LetterTooGreat q_WrongPlace_TooManyLetters q_WrongPlace_NotAPair q_WrongPlace_NotAFamily q_WrongPlace_NotHeights q_WrongPlace_NoSuchRow q_WrongPlace_NoSuchColumn q_WrongPlace_NoSuchCorner q_WrongPlace_WrongAmounts q_WrongPlace_WrongSize q_WrongPlace_TooManyChanges q_WrongPlace_WrongPlace
  have K_law := ok_law (P := l.prog) (w := w) (base := base) ⟨_, _, fun_mk (st := s_law) l_4 c_4 k_4, PySem.W.mg_of X G a_4⟩ K_law_box K_law_next K_law_kinds (PySem.W.mg_none_of X G z_ValueError) (PySem.W.mg_none_of X G z_isinstance) (PySem.W.mg_none_of X G z_range) S_AmountTooGreat S_DifferentEnds S_LetterTooGreat S_NoSuchColumn S_NoSuchCorner S_NoSuchRow S_NotAFamily S_NotAPair S_NotHeights S_NotStrip S_TooManyChanges S_TooManyLetters S_WalkhandsError S_WrongAmounts S_WrongPlace S_WrongSize N_AmountTooGreat N_DifferentEnds N_LetterTooGreat N_NoSuchColumn N_NoSuchCorner N_NoSuchRow N_NotAFamily N_NotAPair N_NotHeights N_TooManyChanges N_TooManyLetters N_WrongAmounts N_WrongPlace N_WrongSize I_NotStrip no_NotStrip_name q_NotStrip_WalkhandsError q_NotStrip_ValueError q_DifferentEnds_WalkhandsError q_DifferentEnds_ValueError q_AmountTooGreat_WalkhandsError q_AmountTooGreat_ValueError q_LetterTooGreat_WalkhandsError q_LetterTooGreat_ValueError q_TooManyLetters_WalkhandsError q_TooManyLetters_ValueError q_NotAPair_WalkhandsError q_NotAPair_ValueError q_NotAFamily_WalkhandsError q_NotAFamily_ValueError q_NotHeights_WalkhandsError q_NotHeights_ValueError q_NoSuchRow_WalkhandsError q_NoSuchRow_ValueError q_NoSuchColumn_WalkhandsError q_NoSuchColumn_ValueError q_NoSuchCorner_WalkhandsError q_NoSuchCorner_ValueError q_WrongAmounts_WalkhandsError q_WrongAmounts_ValueError q_WrongSize_WalkhandsError q_WrongSize_ValueError q_TooManyChanges_WalkhandsError q_TooManyChanges_ValueError q_WrongPlace_WalkhandsError q_WrongPlace_ValueError
  exact callee_law K_law (PySem.W.mg_of X G a_4) (fun_mk (st := s_law) l_4 c_4 k_4)
end LW
open PySem PySem.W PyProof.Rows
set_option maxHeartbeats 0 in
theorem PySem.Challenge.cw_walkhands_k37_errors_holds : PySem.Challenge.rw_walkhands_k37_errors.Holds := by
  w_on; o_law; k_head; (case hw => w_witness2)
  k_fill
  refine L2.walk_of (l := PySem.Challenge.rw_walkhands_k37_errors) (n := 63) (k := 3) (x := "script") (CX := fun _ => L2.CX0) (sp := fun w => Wk.spW _ LW.pre_law) rfl (by decide) rfl ⟨rfl, by decide, by decide⟩ (fun w h Y => PySem.W.kIn_of Y) ?F (fun _ H a ns hl ho hS => Wk.law_start hS (LW.law_pre hl)) (fun _ _ _ _ _ h => h)
  case F =>
    intro w mg fa h KX G hmg
    refine' LW.all_mk KX G hmg ?a_0 ?l_0 ?c_0 ?k_0 ?a_1 ?l_1 ?c_1 ?k_1 ?a_2 ?l_2 ?c_2 ?k_2 ?a_3 ?l_3 ?c_3 ?k_3 ?a_4 ?l_4 ?c_4 ?k_4 ?z_int ?z_range ?z_len ?z_isinstance ?z_ValueError ?xa_AmountTooGreat ?xk_AmountTooGreat ?xhg_AmountTooGreat ?xhk_AmountTooGreat ?xhs_AmountTooGreat ?xhd_AmountTooGreat ?xha_AmountTooGreat ?xhm_AmountTooGreat ?xty_AmountTooGreat ?xn_AmountTooGreat ?xa_DifferentEnds ?xk_DifferentEnds ?xhg_DifferentEnds ?xhk_DifferentEnds ?xhs_DifferentEnds ?xhd_DifferentEnds ?xha_DifferentEnds ?xhm_DifferentEnds ?xty_DifferentEnds ?xn_DifferentEnds ?xa_LetterTooGreat ?xk_LetterTooGreat ?xhg_LetterTooGreat ?xhk_LetterTooGreat ?xhs_LetterTooGreat ?xhd_LetterTooGreat ?xha_LetterTooGreat ?xhm_LetterTooGreat ?xty_LetterTooGreat ?xn_LetterTooGreat ?xa_NoSuchColumn ?xk_NoSuchColumn ?xhg_NoSuchColumn ?xhk_NoSuchColumn ?xhs_NoSuchColumn ?xhd_NoSuchColumn ?xha_NoSuchColumn ?xhm_NoSuchColumn ?xty_NoSuchColumn ?xn_NoSuchColumn ?xa_NoSuchCorner ?xk_NoSuchCorner ?xhg_NoSuchCorner ?xhk_NoSuchCorner ?xhs_NoSuchCorner ?xhd_NoSuchCorner ?xha_NoSuchCorner ?xhm_NoSuchCorner ?xty_NoSuchCorner ?xn_NoSuchCorner ?xa_NoSuchRow ?xk_NoSuchRow ?xhg_NoSuchRow ?xhk_NoSuchRow ?xhs_NoSuchRow ?xhd_NoSuchRow ?xha_NoSuchRow ?xhm_NoSuchRow ?xty_NoSuchRow ?xn_NoSuchRow ?xa_NotAFamily ?xk_NotAFamily ?xhg_NotAFamily ?xhk_NotAFamily ?xhs_NotAFamily ?xhd_NotAFamily ?xha_NotAFamily ?xhm_NotAFamily ?xty_NotAFamily ?xn_NotAFamily ?xa_NotAPair ?xk_NotAPair ?xhg_NotAPair ?xhk_NotAPair ?xhs_NotAPair ?xhd_NotAPair ?xha_NotAPair ?xhm_NotAPair ?xty_NotAPair ?xn_NotAPair ?xa_NotHeights ?xk_NotHeights ?xhg_NotHeights ?xhk_NotHeights ?xhs_NotHeights ?xhd_NotHeights ?xha_NotHeights ?xhm_NotHeights ?xty_NotHeights ?xn_NotHeights ?xa_NotStrip ?xk_NotStrip ?xhg_NotStrip ?xhk_NotStrip ?xhs_NotStrip ?xhd_NotStrip ?xha_NotStrip ?xhm_NotStrip ?xty_NotStrip ?xL_NotStrip ?xrb_NotStrip ?xsa_NotStrip ?xno_NotStrip ?xin_NotStrip ?xti_NotStrip ?xli_NotStrip ?xci_NotStrip ?xki_NotStrip ?xa_TooManyChanges ?xk_TooManyChanges ?xhg_TooManyChanges ?xhk_TooManyChanges ?xhs_TooManyChanges ?xhd_TooManyChanges ?xha_TooManyChanges ?xhm_TooManyChanges ?xty_TooManyChanges ?xn_TooManyChanges ?xa_TooManyLetters ?xk_TooManyLetters ?xhg_TooManyLetters ?xhk_TooManyLetters ?xhs_TooManyLetters ?xhd_TooManyLetters ?xha_TooManyLetters ?xhm_TooManyLetters ?xty_TooManyLetters ?xn_TooManyLetters ?xa_WalkhandsError ?xk_WalkhandsError ?xhg_WalkhandsError ?xhk_WalkhandsError ?xhs_WalkhandsError ?xhd_WalkhandsError ?xha_WalkhandsError ?xhm_WalkhandsError ?xty_WalkhandsError ?xa_WrongAmounts ?xk_WrongAmounts ?xhg_WrongAmounts ?xhk_WrongAmounts ?xhs_WrongAmounts ?xhd_WrongAmounts ?xha_WrongAmounts ?xhm_WrongAmounts ?xty_WrongAmounts ?xn_WrongAmounts ?xa_WrongPlace ?xk_WrongPlace ?xhg_WrongPlace ?xhk_WrongPlace ?xhs_WrongPlace ?xhd_WrongPlace ?xha_WrongPlace ?xhm_WrongPlace ?xty_WrongPlace ?xn_WrongPlace ?xa_WrongSize ?xk_WrongSize ?xhg_WrongSize ?xhk_WrongSize ?xhs_WrongSize ?xhd_WrongSize ?xha_WrongSize ?xhm_WrongSize ?xty_WrongSize ?xn_WrongSize ?xspec ?xtakes ?q_AmountTooGreat_AmountTooGreat ?q_AmountTooGreat_DifferentEnds ?q_AmountTooGreat_LetterTooGreat ?q_AmountTooGreat_NoSuchColumn ?q_AmountTooGreat_NoSuchCorner ?q_AmountTooGreat_NoSuchRow ?q_AmountTooGreat_NotAFamily ?q_AmountTooGreat_NotAPair ?q_AmountTooGreat_NotHeights ?q_AmountTooGreat_NotStrip ?q_AmountTooGreat_TooManyChanges ?q_AmountTooGreat_TooManyLetters ?q_AmountTooGreat_ValueError ?q_AmountTooGreat_WalkhandsError ?q_AmountTooGreat_WrongAmounts ?q_AmountTooGreat_WrongPlace ?q_AmountTooGreat_WrongSize ?q_DifferentEnds_AmountTooGreat ?q_DifferentEnds_DifferentEnds ?q_DifferentEnds_LetterTooGreat ?q_DifferentEnds_NoSuchColumn ?q_DifferentEnds_NoSuchCorner ?q_DifferentEnds_NoSuchRow ?q_DifferentEnds_NotAFamily ?q_DifferentEnds_NotAPair ?q_DifferentEnds_NotHeights ?q_DifferentEnds_NotStrip ?q_DifferentEnds_TooManyChanges ?q_DifferentEnds_TooManyLetters ?q_DifferentEnds_ValueError ?q_DifferentEnds_WalkhandsError ?q_DifferentEnds_WrongAmounts ?q_DifferentEnds_WrongPlace ?q_DifferentEnds_WrongSize ?q_LetterTooGreat_AmountTooGreat ?q_LetterTooGreat_DifferentEnds ?q_LetterTooGreat_LetterTooGreat ?q_LetterTooGreat_NoSuchColumn ?q_LetterTooGreat_NoSuchCorner ?q_LetterTooGreat_NoSuchRow ?q_LetterTooGreat_NotAFamily ?q_LetterTooGreat_NotAPair ?q_LetterTooGreat_NotHeights ?q_LetterTooGreat_NotStrip ?q_LetterTooGreat_TooManyChanges ?q_LetterTooGreat_TooManyLetters ?q_LetterTooGreat_ValueError ?q_LetterTooGreat_WalkhandsError ?q_LetterTooGreat_WrongAmounts ?q_LetterTooGreat_WrongPlace ?q_LetterTooGreat_WrongSize ?q_NoSuchColumn_AmountTooGreat ?q_NoSuchColumn_DifferentEnds ?q_NoSuchColumn_LetterTooGreat ?q_NoSuchColumn_NoSuchColumn ?q_NoSuchColumn_NoSuchCorner ?q_NoSuchColumn_NoSuchRow ?q_NoSuchColumn_NotAFamily ?q_NoSuchColumn_NotAPair ?q_NoSuchColumn_NotHeights ?q_NoSuchColumn_NotStrip ?q_NoSuchColumn_TooManyChanges ?q_NoSuchColumn_TooManyLetters ?q_NoSuchColumn_ValueError ?q_NoSuchColumn_WalkhandsError ?q_NoSuchColumn_WrongAmounts ?q_NoSuchColumn_WrongPlace ?q_NoSuchColumn_WrongSize ?q_NoSuchCorner_AmountTooGreat ?q_NoSuchCorner_DifferentEnds ?q_NoSuchCorner_LetterTooGreat ?q_NoSuchCorner_NoSuchColumn ?q_NoSuchCorner_NoSuchCorner ?q_NoSuchCorner_NoSuchRow ?q_NoSuchCorner_NotAFamily ?q_NoSuchCorner_NotAPair ?q_NoSuchCorner_NotHeights ?q_NoSuchCorner_NotStrip ?q_NoSuchCorner_TooManyChanges ?q_NoSuchCorner_TooManyLetters ?q_NoSuchCorner_ValueError ?q_NoSuchCorner_WalkhandsError ?q_NoSuchCorner_WrongAmounts ?q_NoSuchCorner_WrongPlace ?q_NoSuchCorner_WrongSize ?q_NoSuchRow_AmountTooGreat ?q_NoSuchRow_DifferentEnds ?q_NoSuchRow_LetterTooGreat ?q_NoSuchRow_NoSuchColumn ?q_NoSuchRow_NoSuchCorner ?q_NoSuchRow_NoSuchRow ?q_NoSuchRow_NotAFamily ?q_NoSuchRow_NotAPair ?q_NoSuchRow_NotHeights ?q_NoSuchRow_NotStrip ?q_NoSuchRow_TooManyChanges ?q_NoSuchRow_TooManyLetters ?q_NoSuchRow_ValueError ?q_NoSuchRow_WalkhandsError ?q_NoSuchRow_WrongAmounts ?q_NoSuchRow_WrongPlace ?q_NoSuchRow_WrongSize ?q_NotAFamily_AmountTooGreat ?q_NotAFamily_DifferentEnds ?q_NotAFamily_LetterTooGreat ?q_NotAFamily_NoSuchColumn ?q_NotAFamily_NoSuchCorner ?q_NotAFamily_NoSuchRow ?q_NotAFamily_NotAFamily ?q_NotAFamily_NotAPair ?q_NotAFamily_NotHeights ?q_NotAFamily_NotStrip ?q_NotAFamily_TooManyChanges ?q_NotAFamily_TooManyLetters ?q_NotAFamily_ValueError ?q_NotAFamily_WalkhandsError ?q_NotAFamily_WrongAmounts ?q_NotAFamily_WrongPlace ?q_NotAFamily_WrongSize ?q_NotAPair_AmountTooGreat ?q_NotAPair_DifferentEnds ?q_NotAPair_LetterTooGreat ?q_NotAPair_NoSuchColumn ?q_NotAPair_NoSuchCorner ?q_NotAPair_NoSuchRow ?q_NotAPair_NotAFamily ?q_NotAPair_NotAPair ?q_NotAPair_NotHeights ?q_NotAPair_NotStrip ?q_NotAPair_TooManyChanges ?q_NotAPair_TooManyLetters ?q_NotAPair_ValueError ?q_NotAPair_WalkhandsError ?q_NotAPair_WrongAmounts ?q_NotAPair_WrongPlace ?q_NotAPair_WrongSize ?q_NotHeights_AmountTooGreat ?q_NotHeights_DifferentEnds ?q_NotHeights_LetterTooGreat ?q_NotHeights_NoSuchColumn ?q_NotHeights_NoSuchCorner ?q_NotHeights_NoSuchRow ?q_NotHeights_NotAFamily ?q_NotHeights_NotAPair ?q_NotHeights_NotHeights ?q_NotHeights_NotStrip ?q_NotHeights_TooManyChanges ?q_NotHeights_TooManyLetters ?q_NotHeights_ValueError ?q_NotHeights_WalkhandsError ?q_NotHeights_WrongAmounts ?q_NotHeights_WrongPlace ?q_NotHeights_WrongSize ?q_NotStrip_AmountTooGreat ?q_NotStrip_DifferentEnds ?q_NotStrip_LetterTooGreat ?q_NotStrip_NoSuchColumn ?q_NotStrip_NoSuchCorner ?q_NotStrip_NoSuchRow ?q_NotStrip_NotAFamily ?q_NotStrip_NotAPair ?q_NotStrip_NotHeights ?q_NotStrip_NotStrip ?q_NotStrip_TooManyChanges ?q_NotStrip_TooManyLetters ?q_NotStrip_ValueError ?q_NotStrip_WalkhandsError ?q_NotStrip_WrongAmounts ?q_NotStrip_WrongPlace ?q_NotStrip_WrongSize ?q_TooManyChanges_AmountTooGreat ?q_TooManyChanges_DifferentEnds ?q_TooManyChanges_LetterTooGreat ?q_TooManyChanges_NoSuchColumn ?q_TooManyChanges_NoSuchCorner ?q_TooManyChanges_NoSuchRow ?q_TooManyChanges_NotAFamily ?q_TooManyChanges_NotAPair ?q_TooManyChanges_NotHeights ?q_TooManyChanges_NotStrip ?q_TooManyChanges_TooManyChanges ?q_TooManyChanges_TooManyLetters ?q_TooManyChanges_ValueError ?q_TooManyChanges_WalkhandsError ?q_TooManyChanges_WrongAmounts ?q_TooManyChanges_WrongPlace ?q_TooManyChanges_WrongSize ?q_TooManyLetters_AmountTooGreat ?q_TooManyLetters_DifferentEnds ?q_TooManyLetters_LetterTooGreat ?q_TooManyLetters_NoSuchColumn ?q_TooManyLetters_NoSuchCorner ?q_TooManyLetters_NoSuchRow ?q_TooManyLetters_NotAFamily ?q_TooManyLetters_NotAPair ?q_TooManyLetters_NotHeights ?q_TooManyLetters_NotStrip ?q_TooManyLetters_TooManyChanges ?q_TooManyLetters_TooManyLetters ?q_TooManyLetters_ValueError ?q_TooManyLetters_WalkhandsError ?q_TooManyLetters_WrongAmounts ?q_TooManyLetters_WrongPlace ?q_TooManyLetters_WrongSize ?q_WrongAmounts_AmountTooGreat ?q_WrongAmounts_DifferentEnds ?q_WrongAmounts_LetterTooGreat ?q_WrongAmounts_NoSuchColumn ?q_WrongAmounts_NoSuchCorner ?q_WrongAmounts_NoSuchRow ?q_WrongAmounts_NotAFamily ?q_WrongAmounts_NotAPair ?q_WrongAmounts_NotHeights ?q_WrongAmounts_NotStrip ?q_WrongAmounts_TooManyChanges ?q_WrongAmounts_TooManyLetters ?q_WrongAmounts_ValueError ?q_WrongAmounts_WalkhandsError ?q_WrongAmounts_WrongAmounts ?q_WrongAmounts_WrongPlace ?q_WrongAmounts_WrongSize ?q_WrongPlace_AmountTooGreat ?q_WrongPlace_DifferentEnds ?q_WrongPlace_LetterTooGreat ?q_WrongPlace_NoSuchColumn ?q_WrongPlace_NoSuchCorner ?q_WrongPlace_NoSuchRow ?q_WrongPlace_NotAFamily ?q_WrongPlace_NotAPair ?q_WrongPlace_NotHeights ?q_WrongPlace_NotStrip ?q_WrongPlace_TooManyChanges ?q_WrongPlace_TooManyLetters ?q_WrongPlace_ValueError ?q_WrongPlace_WalkhandsError ?q_WrongPlace_WrongAmounts ?q_WrongPlace_WrongPlace ?q_WrongPlace_WrongSize ?q_WrongSize_AmountTooGreat ?q_WrongSize_DifferentEnds ?q_WrongSize_LetterTooGreat ?q_WrongSize_NoSuchColumn ?q_WrongSize_NoSuchCorner ?q_WrongSize_NoSuchRow ?q_WrongSize_NotAFamily ?q_WrongSize_NotAPair ?q_WrongSize_NotHeights ?q_WrongSize_NotStrip ?q_WrongSize_TooManyChanges ?q_WrongSize_TooManyLetters ?q_WrongSize_ValueError ?q_WrongSize_WalkhandsError ?q_WrongSize_WrongAmounts ?q_WrongSize_WrongPlace ?q_WrongSize_WrongSize
    (case a_0 => k_is); (case l_0 => k_is); (case c_0 => k_is); (case k_0 => k_is); (case a_1 => k_is); (case l_1 => k_is); (case c_1 => k_is); (case k_1 => k_is); (case a_2 => k_is); (case l_2 => k_is); (case c_2 => k_is); (case k_2 => k_is); (case a_3 => k_is); (case l_3 => k_is); (case c_3 => k_is); (case k_3 => k_is); (case a_4 => k_is); (case l_4 => k_is); (case c_4 => k_is); (case k_4 => k_is); (case z_int => k_is); (case z_range => k_is); (case z_len => k_is); (case z_isinstance => k_is); (case z_ValueError => k_is); (case xa_AmountTooGreat => k_is); (case xk_AmountTooGreat => k_is); (case xhg_AmountTooGreat => k_is); (case xhk_AmountTooGreat => k_is); (case xhs_AmountTooGreat => k_is); (case xhd_AmountTooGreat => k_is); (case xha_AmountTooGreat => k_is); (case xhm_AmountTooGreat => k_is); (case xty_AmountTooGreat => k_is); (case xn_AmountTooGreat => k_exc); (case xa_DifferentEnds => k_is); (case xk_DifferentEnds => k_is); (case xhg_DifferentEnds => k_is); (case xhk_DifferentEnds => k_is); (case xhs_DifferentEnds => k_is); (case xhd_DifferentEnds => k_is); (case xha_DifferentEnds => k_is); (case xhm_DifferentEnds => k_is); (case xty_DifferentEnds => k_is); (case xn_DifferentEnds => k_exc); (case xa_LetterTooGreat => k_is); (case xk_LetterTooGreat => k_is); (case xhg_LetterTooGreat => k_is); (case xhk_LetterTooGreat => k_is); (case xhs_LetterTooGreat => k_is); (case xhd_LetterTooGreat => k_is); (case xha_LetterTooGreat => k_is); (case xhm_LetterTooGreat => k_is); (case xty_LetterTooGreat => k_is); (case xn_LetterTooGreat => k_exc); (case xa_NoSuchColumn => k_is); (case xk_NoSuchColumn => k_is); (case xhg_NoSuchColumn => k_is); (case xhk_NoSuchColumn => k_is); (case xhs_NoSuchColumn => k_is); (case xhd_NoSuchColumn => k_is); (case xha_NoSuchColumn => k_is); (case xhm_NoSuchColumn => k_is); (case xty_NoSuchColumn => k_is); (case xn_NoSuchColumn => k_exc); (case xa_NoSuchCorner => k_is); (case xk_NoSuchCorner => k_is); (case xhg_NoSuchCorner => k_is); (case xhk_NoSuchCorner => k_is); (case xhs_NoSuchCorner => k_is); (case xhd_NoSuchCorner => k_is); (case xha_NoSuchCorner => k_is); (case xhm_NoSuchCorner => k_is); (case xty_NoSuchCorner => k_is); (case xn_NoSuchCorner => k_exc); (case xa_NoSuchRow => k_is); (case xk_NoSuchRow => k_is); (case xhg_NoSuchRow => k_is); (case xhk_NoSuchRow => k_is); (case xhs_NoSuchRow => k_is); (case xhd_NoSuchRow => k_is); (case xha_NoSuchRow => k_is); (case xhm_NoSuchRow => k_is); (case xty_NoSuchRow => k_is); (case xn_NoSuchRow => k_exc); (case xa_NotAFamily => k_is); (case xk_NotAFamily => k_is); (case xhg_NotAFamily => k_is); (case xhk_NotAFamily => k_is); (case xhs_NotAFamily => k_is); (case xhd_NotAFamily => k_is); (case xha_NotAFamily => k_is); (case xhm_NotAFamily => k_is); (case xty_NotAFamily => k_is); (case xn_NotAFamily => k_exc); (case xa_NotAPair => k_is); (case xk_NotAPair => k_is); (case xhg_NotAPair => k_is); (case xhk_NotAPair => k_is); (case xhs_NotAPair => k_is); (case xhd_NotAPair => k_is); (case xha_NotAPair => k_is); (case xhm_NotAPair => k_is); (case xty_NotAPair => k_is); (case xn_NotAPair => k_exc); (case xa_NotHeights => k_is); (case xk_NotHeights => k_is); (case xhg_NotHeights => k_is); (case xhk_NotHeights => k_is); (case xhs_NotHeights => k_is); (case xhd_NotHeights => k_is); (case xha_NotHeights => k_is); (case xhm_NotHeights => k_is); (case xty_NotHeights => k_is); (case xn_NotHeights => k_exc); (case xa_NotStrip => k_is); (case xk_NotStrip => k_is); (case xhg_NotStrip => k_is); (case xhk_NotStrip => k_is); (case xhs_NotStrip => k_is); (case xhd_NotStrip => k_is); (case xha_NotStrip => k_is); (case xhm_NotStrip => k_is); (case xty_NotStrip => k_is); (case xL_NotStrip => k_is); (case xrb_NotStrip => decide +kernel); (case xsa_NotStrip => k_is); (case xno_NotStrip => k_is); (case xin_NotStrip => k_is); (case xti_NotStrip => k_is); (case xli_NotStrip => k_is); (case xci_NotStrip => k_is); (case xki_NotStrip => k_is); (case xa_TooManyChanges => k_is); (case xk_TooManyChanges => k_is); (case xhg_TooManyChanges => k_is); (case xhk_TooManyChanges => k_is); (case xhs_TooManyChanges => k_is); (case xhd_TooManyChanges => k_is); (case xha_TooManyChanges => k_is); (case xhm_TooManyChanges => k_is); (case xty_TooManyChanges => k_is); (case xn_TooManyChanges => k_exc); (case xa_TooManyLetters => k_is); (case xk_TooManyLetters => k_is); (case xhg_TooManyLetters => k_is); (case xhk_TooManyLetters => k_is); (case xhs_TooManyLetters => k_is); (case xhd_TooManyLetters => k_is); (case xha_TooManyLetters => k_is); (case xhm_TooManyLetters => k_is); (case xty_TooManyLetters => k_is); (case xn_TooManyLetters => k_exc); (case xa_WalkhandsError => k_is); (case xk_WalkhandsError => k_is); (case xhg_WalkhandsError => k_is); (case xhk_WalkhandsError => k_is); (case xhs_WalkhandsError => k_is); (case xhd_WalkhandsError => k_is); (case xha_WalkhandsError => k_is); (case xhm_WalkhandsError => k_is); (case xty_WalkhandsError => k_is); (case xa_WrongAmounts => k_is); (case xk_WrongAmounts => k_is); (case xhg_WrongAmounts => k_is); (case xhk_WrongAmounts => k_is); (case xhs_WrongAmounts => k_is); (case xhd_WrongAmounts => k_is); (case xha_WrongAmounts => k_is); (case xhm_WrongAmounts => k_is); (case xty_WrongAmounts => k_is); (case xn_WrongAmounts => k_exc); (case xa_WrongPlace => k_is); (case xk_WrongPlace => k_is); (case xhg_WrongPlace => k_is); (case xhk_WrongPlace => k_is); (case xhs_WrongPlace => k_is); (case xhd_WrongPlace => k_is); (case xha_WrongPlace => k_is); (case xhm_WrongPlace => k_is); (case xty_WrongPlace => k_is); (case xn_WrongPlace => k_exc); (case xa_WrongSize => k_is); (case xk_WrongSize => k_is); (case xhg_WrongSize => k_is); (case xhk_WrongSize => k_is); (case xhs_WrongSize => k_is); (case xhd_WrongSize => k_is); (case xha_WrongSize => k_is); (case xhm_WrongSize => k_is); (case xty_WrongSize => k_is); (case xn_WrongSize => k_exc); (case xspec => k_is); (case xtakes => k_is); (case q_AmountTooGreat_AmountTooGreat => first | kit_is | k_is); (case q_AmountTooGreat_DifferentEnds => first | kit_is | k_is); (case q_AmountTooGreat_LetterTooGreat => first | kit_is | k_is); (case q_AmountTooGreat_NoSuchColumn => first | kit_is | k_is); (case q_AmountTooGreat_NoSuchCorner => first | kit_is | k_is); (case q_AmountTooGreat_NoSuchRow => first | kit_is | k_is); (case q_AmountTooGreat_NotAFamily => first | kit_is | k_is); (case q_AmountTooGreat_NotAPair => first | kit_is | k_is); (case q_AmountTooGreat_NotHeights => first | kit_is | k_is); (case q_AmountTooGreat_NotStrip => first | kit_is | k_is); (case q_AmountTooGreat_TooManyChanges => first | kit_is | k_is); (case q_AmountTooGreat_TooManyLetters => first | kit_is | k_is); (case q_AmountTooGreat_ValueError => first | kit_is | k_is); (case q_AmountTooGreat_WalkhandsError => first | kit_is | k_is); (case q_AmountTooGreat_WrongAmounts => first | kit_is | k_is); (case q_AmountTooGreat_WrongPlace => first | kit_is | k_is); (case q_AmountTooGreat_WrongSize => first | kit_is | k_is); (case q_DifferentEnds_AmountTooGreat => first | kit_is | k_is); (case q_DifferentEnds_DifferentEnds => first | kit_is | k_is); (case q_DifferentEnds_LetterTooGreat => first | kit_is | k_is); (case q_DifferentEnds_NoSuchColumn => first | kit_is | k_is); (case q_DifferentEnds_NoSuchCorner => first | kit_is | k_is); (case q_DifferentEnds_NoSuchRow => first | kit_is | k_is); (case q_DifferentEnds_NotAFamily => first | kit_is | k_is); (case q_DifferentEnds_NotAPair => first | kit_is | k_is); (case q_DifferentEnds_NotHeights => first | kit_is | k_is); (case q_DifferentEnds_NotStrip => first | kit_is | k_is); (case q_DifferentEnds_TooManyChanges => first | kit_is | k_is); (case q_DifferentEnds_TooManyLetters => first | kit_is | k_is); (case q_DifferentEnds_ValueError => first | kit_is | k_is); (case q_DifferentEnds_WalkhandsError => first | kit_is | k_is); (case q_DifferentEnds_WrongAmounts => first | kit_is | k_is); (case q_DifferentEnds_WrongPlace => first | kit_is | k_is); (case q_DifferentEnds_WrongSize => first | kit_is | k_is); (case q_LetterTooGreat_AmountTooGreat => first | kit_is | k_is); (case q_LetterTooGreat_DifferentEnds => first | kit_is | k_is); (case q_LetterTooGreat_LetterTooGreat => first | kit_is | k_is); (case q_LetterTooGreat_NoSuchColumn => first | kit_is | k_is); (case q_LetterTooGreat_NoSuchCorner => first | kit_is | k_is); (case q_LetterTooGreat_NoSuchRow => first | kit_is | k_is); (case q_LetterTooGreat_NotAFamily => first | kit_is | k_is); (case q_LetterTooGreat_NotAPair => first | kit_is | k_is); (case q_LetterTooGreat_NotHeights => first | kit_is | k_is); (case q_LetterTooGreat_NotStrip => first | kit_is | k_is); (case q_LetterTooGreat_TooManyChanges => first | kit_is | k_is); (case q_LetterTooGreat_TooManyLetters => first | kit_is | k_is); (case q_LetterTooGreat_ValueError => first | kit_is | k_is); (case q_LetterTooGreat_WalkhandsError => first | kit_is | k_is); (case q_LetterTooGreat_WrongAmounts => first | kit_is | k_is); (case q_LetterTooGreat_WrongPlace => first | kit_is | k_is); (case q_LetterTooGreat_WrongSize => first | kit_is | k_is); (case q_NoSuchColumn_AmountTooGreat => first | kit_is | k_is); (case q_NoSuchColumn_DifferentEnds => first | kit_is | k_is); (case q_NoSuchColumn_LetterTooGreat => first | kit_is | k_is); (case q_NoSuchColumn_NoSuchColumn => first | kit_is | k_is); (case q_NoSuchColumn_NoSuchCorner => first | kit_is | k_is); (case q_NoSuchColumn_NoSuchRow => first | kit_is | k_is); (case q_NoSuchColumn_NotAFamily => first | kit_is | k_is); (case q_NoSuchColumn_NotAPair => first | kit_is | k_is); (case q_NoSuchColumn_NotHeights => first | kit_is | k_is); (case q_NoSuchColumn_NotStrip => first | kit_is | k_is); (case q_NoSuchColumn_TooManyChanges => first | kit_is | k_is); (case q_NoSuchColumn_TooManyLetters => first | kit_is | k_is); (case q_NoSuchColumn_ValueError => first | kit_is | k_is); (case q_NoSuchColumn_WalkhandsError => first | kit_is | k_is); (case q_NoSuchColumn_WrongAmounts => first | kit_is | k_is); (case q_NoSuchColumn_WrongPlace => first | kit_is | k_is); (case q_NoSuchColumn_WrongSize => first | kit_is | k_is); (case q_NoSuchCorner_AmountTooGreat => first | kit_is | k_is); (case q_NoSuchCorner_DifferentEnds => first | kit_is | k_is); (case q_NoSuchCorner_LetterTooGreat => first | kit_is | k_is); (case q_NoSuchCorner_NoSuchColumn => first | kit_is | k_is); (case q_NoSuchCorner_NoSuchCorner => first | kit_is | k_is); (case q_NoSuchCorner_NoSuchRow => first | kit_is | k_is); (case q_NoSuchCorner_NotAFamily => first | kit_is | k_is); (case q_NoSuchCorner_NotAPair => first | kit_is | k_is); (case q_NoSuchCorner_NotHeights => first | kit_is | k_is); (case q_NoSuchCorner_NotStrip => first | kit_is | k_is); (case q_NoSuchCorner_TooManyChanges => first | kit_is | k_is); (case q_NoSuchCorner_TooManyLetters => first | kit_is | k_is); (case q_NoSuchCorner_ValueError => first | kit_is | k_is); (case q_NoSuchCorner_WalkhandsError => first | kit_is | k_is); (case q_NoSuchCorner_WrongAmounts => first | kit_is | k_is); (case q_NoSuchCorner_WrongPlace => first | kit_is | k_is); (case q_NoSuchCorner_WrongSize => first | kit_is | k_is); (case q_NoSuchRow_AmountTooGreat => first | kit_is | k_is); (case q_NoSuchRow_DifferentEnds => first | kit_is | k_is); (case q_NoSuchRow_LetterTooGreat => first | kit_is | k_is); (case q_NoSuchRow_NoSuchColumn => first | kit_is | k_is); (case q_NoSuchRow_NoSuchCorner => first | kit_is | k_is); (case q_NoSuchRow_NoSuchRow => first | kit_is | k_is); (case q_NoSuchRow_NotAFamily => first | kit_is | k_is); (case q_NoSuchRow_NotAPair => first | kit_is | k_is); (case q_NoSuchRow_NotHeights => first | kit_is | k_is); (case q_NoSuchRow_NotStrip => first | kit_is | k_is); (case q_NoSuchRow_TooManyChanges => first | kit_is | k_is); (case q_NoSuchRow_TooManyLetters => first | kit_is | k_is); (case q_NoSuchRow_ValueError => first | kit_is | k_is); (case q_NoSuchRow_WalkhandsError => first | kit_is | k_is); (case q_NoSuchRow_WrongAmounts => first | kit_is | k_is); (case q_NoSuchRow_WrongPlace => first | kit_is | k_is); (case q_NoSuchRow_WrongSize => first | kit_is | k_is); (case q_NotAFamily_AmountTooGreat => first | kit_is | k_is); (case q_NotAFamily_DifferentEnds => first | kit_is | k_is); (case q_NotAFamily_LetterTooGreat => first | kit_is | k_is); (case q_NotAFamily_NoSuchColumn => first | kit_is | k_is); (case q_NotAFamily_NoSuchCorner => first | kit_is | k_is); (case q_NotAFamily_NoSuchRow => first | kit_is | k_is); (case q_NotAFamily_NotAFamily => first | kit_is | k_is); (case q_NotAFamily_NotAPair => first | kit_is | k_is); (case q_NotAFamily_NotHeights => first | kit_is | k_is); (case q_NotAFamily_NotStrip => first | kit_is | k_is); (case q_NotAFamily_TooManyChanges => first | kit_is | k_is); (case q_NotAFamily_TooManyLetters => first | kit_is | k_is); (case q_NotAFamily_ValueError => first | kit_is | k_is); (case q_NotAFamily_WalkhandsError => first | kit_is | k_is); (case q_NotAFamily_WrongAmounts => first | kit_is | k_is); (case q_NotAFamily_WrongPlace => first | kit_is | k_is); (case q_NotAFamily_WrongSize => first | kit_is | k_is); (case q_NotAPair_AmountTooGreat => first | kit_is | k_is); (case q_NotAPair_DifferentEnds => first | kit_is | k_is); (case q_NotAPair_LetterTooGreat => first | kit_is | k_is); (case q_NotAPair_NoSuchColumn => first | kit_is | k_is); (case q_NotAPair_NoSuchCorner => first | kit_is | k_is); (case q_NotAPair_NoSuchRow => first | kit_is | k_is); (case q_NotAPair_NotAFamily => first | kit_is | k_is); (case q_NotAPair_NotAPair => first | kit_is | k_is); (case q_NotAPair_NotHeights => first | kit_is | k_is); (case q_NotAPair_NotStrip => first | kit_is | k_is); (case q_NotAPair_TooManyChanges => first | kit_is | k_is); (case q_NotAPair_TooManyLetters => first | kit_is | k_is); (case q_NotAPair_ValueError => first | kit_is | k_is); (case q_NotAPair_WalkhandsError => first | kit_is | k_is); (case q_NotAPair_WrongAmounts => first | kit_is | k_is); (case q_NotAPair_WrongPlace => first | kit_is | k_is); (case q_NotAPair_WrongSize => first | kit_is | k_is); (case q_NotHeights_AmountTooGreat => first | kit_is | k_is); (case q_NotHeights_DifferentEnds => first | kit_is | k_is); (case q_NotHeights_LetterTooGreat => first | kit_is | k_is); (case q_NotHeights_NoSuchColumn => first | kit_is | k_is); (case q_NotHeights_NoSuchCorner => first | kit_is | k_is); (case q_NotHeights_NoSuchRow => first | kit_is | k_is); (case q_NotHeights_NotAFamily => first | kit_is | k_is); (case q_NotHeights_NotAPair => first | kit_is | k_is); (case q_NotHeights_NotHeights => first | kit_is | k_is); (case q_NotHeights_NotStrip => first | kit_is | k_is); (case q_NotHeights_TooManyChanges => first | kit_is | k_is); (case q_NotHeights_TooManyLetters => first | kit_is | k_is); (case q_NotHeights_ValueError => first | kit_is | k_is); (case q_NotHeights_WalkhandsError => first | kit_is | k_is); (case q_NotHeights_WrongAmounts => first | kit_is | k_is); (case q_NotHeights_WrongPlace => first | kit_is | k_is); (case q_NotHeights_WrongSize => first | kit_is | k_is); (case q_NotStrip_AmountTooGreat => first | kit_is | k_is); (case q_NotStrip_DifferentEnds => first | kit_is | k_is); (case q_NotStrip_LetterTooGreat => first | kit_is | k_is); (case q_NotStrip_NoSuchColumn => first | kit_is | k_is); (case q_NotStrip_NoSuchCorner => first | kit_is | k_is); (case q_NotStrip_NoSuchRow => first | kit_is | k_is); (case q_NotStrip_NotAFamily => first | kit_is | k_is); (case q_NotStrip_NotAPair => first | kit_is | k_is); (case q_NotStrip_NotHeights => first | kit_is | k_is); (case q_NotStrip_NotStrip => first | kit_is | k_is); (case q_NotStrip_TooManyChanges => first | kit_is | k_is); (case q_NotStrip_TooManyLetters => first | kit_is | k_is); (case q_NotStrip_ValueError => first | kit_is | k_is); (case q_NotStrip_WalkhandsError => first | kit_is | k_is); (case q_NotStrip_WrongAmounts => first | kit_is | k_is); (case q_NotStrip_WrongPlace => first | kit_is | k_is); (case q_NotStrip_WrongSize => first | kit_is | k_is); (case q_TooManyChanges_AmountTooGreat => first | kit_is | k_is); (case q_TooManyChanges_DifferentEnds => first | kit_is | k_is); (case q_TooManyChanges_LetterTooGreat => first | kit_is | k_is); (case q_TooManyChanges_NoSuchColumn => first | kit_is | k_is); (case q_TooManyChanges_NoSuchCorner => first | kit_is | k_is); (case q_TooManyChanges_NoSuchRow => first | kit_is | k_is); (case q_TooManyChanges_NotAFamily => first | kit_is | k_is); (case q_TooManyChanges_NotAPair => first | kit_is | k_is); (case q_TooManyChanges_NotHeights => first | kit_is | k_is); (case q_TooManyChanges_NotStrip => first | kit_is | k_is); (case q_TooManyChanges_TooManyChanges => first | kit_is | k_is); (case q_TooManyChanges_TooManyLetters => first | kit_is | k_is); (case q_TooManyChanges_ValueError => first | kit_is | k_is); (case q_TooManyChanges_WalkhandsError => first | kit_is | k_is); (case q_TooManyChanges_WrongAmounts => first | kit_is | k_is); (case q_TooManyChanges_WrongPlace => first | kit_is | k_is); (case q_TooManyChanges_WrongSize => first | kit_is | k_is); (case q_TooManyLetters_AmountTooGreat => first | kit_is | k_is); (case q_TooManyLetters_DifferentEnds => first | kit_is | k_is); (case q_TooManyLetters_LetterTooGreat => first | kit_is | k_is); (case q_TooManyLetters_NoSuchColumn => first | kit_is | k_is); (case q_TooManyLetters_NoSuchCorner => first | kit_is | k_is); (case q_TooManyLetters_NoSuchRow => first | kit_is | k_is); (case q_TooManyLetters_NotAFamily => first | kit_is | k_is); (case q_TooManyLetters_NotAPair => first | kit_is | k_is); (case q_TooManyLetters_NotHeights => first | kit_is | k_is); (case q_TooManyLetters_NotStrip => first | kit_is | k_is); (case q_TooManyLetters_TooManyChanges => first | kit_is | k_is); (case q_TooManyLetters_TooManyLetters => first | kit_is | k_is); (case q_TooManyLetters_ValueError => first | kit_is | k_is); (case q_TooManyLetters_WalkhandsError => first | kit_is | k_is); (case q_TooManyLetters_WrongAmounts => first | kit_is | k_is); (case q_TooManyLetters_WrongPlace => first | kit_is | k_is); (case q_TooManyLetters_WrongSize => first | kit_is | k_is); (case q_WrongAmounts_AmountTooGreat => first | kit_is | k_is); (case q_WrongAmounts_DifferentEnds => first | kit_is | k_is); (case q_WrongAmounts_LetterTooGreat => first | kit_is | k_is); (case q_WrongAmounts_NoSuchColumn => first | kit_is | k_is); (case q_WrongAmounts_NoSuchCorner => first | kit_is | k_is); (case q_WrongAmounts_NoSuchRow => first | kit_is | k_is); (case q_WrongAmounts_NotAFamily => first | kit_is | k_is); (case q_WrongAmounts_NotAPair => first | kit_is | k_is); (case q_WrongAmounts_NotHeights => first | kit_is | k_is); (case q_WrongAmounts_NotStrip => first | kit_is | k_is); (case q_WrongAmounts_TooManyChanges => first | kit_is | k_is); (case q_WrongAmounts_TooManyLetters => first | kit_is | k_is); (case q_WrongAmounts_ValueError => first | kit_is | k_is); (case q_WrongAmounts_WalkhandsError => first | kit_is | k_is); (case q_WrongAmounts_WrongAmounts => first | kit_is | k_is); (case q_WrongAmounts_WrongPlace => first | kit_is | k_is); (case q_WrongAmounts_WrongSize => first | kit_is | k_is); (case q_WrongPlace_AmountTooGreat => first | kit_is | k_is); (case q_WrongPlace_DifferentEnds => first | kit_is | k_is); (case q_WrongPlace_LetterTooGreat => first | kit_is | k_is); (case q_WrongPlace_NoSuchColumn => first | kit_is | k_is); (case q_WrongPlace_NoSuchCorner => first | kit_is | k_is); (case q_WrongPlace_NoSuchRow => first | kit_is | k_is); (case q_WrongPlace_NotAFamily => first | kit_is | k_is); (case q_WrongPlace_NotAPair => first | kit_is | k_is); (case q_WrongPlace_NotHeights => first | kit_is | k_is); (case q_WrongPlace_NotStrip => first | kit_is | k_is); (case q_WrongPlace_TooManyChanges => first | kit_is | k_is); (case q_WrongPlace_TooManyLetters => first | kit_is | k_is); (case q_WrongPlace_ValueError => first | kit_is | k_is); (case q_WrongPlace_WalkhandsError => first | kit_is | k_is); (case q_WrongPlace_WrongAmounts => first | kit_is | k_is); (case q_WrongPlace_WrongPlace => first | kit_is | k_is); (case q_WrongPlace_WrongSize => first | kit_is | k_is); (case q_WrongSize_AmountTooGreat => first | kit_is | k_is); (case q_WrongSize_DifferentEnds => first | kit_is | k_is); (case q_WrongSize_LetterTooGreat => first | kit_is | k_is); (case q_WrongSize_NoSuchColumn => first | kit_is | k_is); (case q_WrongSize_NoSuchCorner => first | kit_is | k_is); (case q_WrongSize_NoSuchRow => first | kit_is | k_is); (case q_WrongSize_NotAFamily => first | kit_is | k_is); (case q_WrongSize_NotAPair => first | kit_is | k_is); (case q_WrongSize_NotHeights => first | kit_is | k_is); (case q_WrongSize_NotStrip => first | kit_is | k_is); (case q_WrongSize_TooManyChanges => first | kit_is | k_is); (case q_WrongSize_TooManyLetters => first | kit_is | k_is); (case q_WrongSize_ValueError => first | kit_is | k_is); (case q_WrongSize_WalkhandsError => first | kit_is | k_is); (case q_WrongSize_WrongAmounts => first | kit_is | k_is); (case q_WrongSize_WrongPlace => first | kit_is | k_is); (case q_WrongSize_WrongSize => first | kit_is | k_is)
