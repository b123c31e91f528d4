import PyProof.Rows.All
import Wide.All
import OpenK.AllK
import Wide.FinOn
import HandS.ForMost
import HandS.TupAny
import HandS.TupMul
import HandS.Style
import HandS.SortInts
import HandS.IsInst
import KE.GoesMore
import KE.KTupSum
import HandS.ForExc
import HandS.ExcInit
import HandS.ExcField
import HandS.DictComp
import HandS.ExcIs
import KE.KExcIs
import HandS.FStr
import HandS.RaiseMore
import HandS.ExcValue
import HandS.Small
import HandS.Zip
import HandS.TryOnly
import HandS.Conv
import HandS.Walk
import HandS.Text
import HandS.Codes
import PyProof.StrBlock2
import PySem.Challenge.RW_walkhands_k20_whole_words_and_pairs
set_option Elab.async false
set_option linter.all false
set_option maxRecDepth 100000
set_option maxHeartbeats 4000000
namespace Wk
open PySem PySem.Spec PyProof.Rows L2

/-! ## data that stands in a heap -/
mutual
inductive Da (H : Hp) : V → PyData → Prop
  | non : Da H .non .none
  | bl (b : Bool) : Da H (.bl b) (.bool b)
  | int (i : Int) : Da H (.int i) (.int i)
  | str (x : Str) : Da H (.str x) (.str x)
  | lst {a : Addr} {xs : List V} {ds : List PyData} : H a = some (.lst xs) → DaAll H xs ds → Da H (.ref a) (.list ds)
  | tup {a : Addr} {xs : List V} {ds : List PyData} : H a = some (.tup xs) → DaAll H xs ds → Da H (.ref a) (.tuple ds)
inductive DaAll (H : Hp) : List V → List PyData → Prop
  | nil : DaAll H [] []
  | cons {v : V} {vs : List V} {d : PyData} {ds : List PyData} : Da H v d → DaAll H vs ds → DaAll H (v :: vs) (d :: ds)
end
mutual
theorem Da.mono {H H' : Hp} (e : Same H H') : ∀ {v : V} {d : PyData}, Da H v d → Da H' v d
  | _, _, .non => .non
  | _, _, .bl b => .bl b
  | _, _, .int i => .int i
  | _, _, .str x => .str x
  | _, _, .lst h r => .lst (e _ _ h) (DaAll.mono e r)
  | _, _, .tup h r => .tup (e _ _ h) (DaAll.mono e r)
theorem DaAll.mono {H H' : Hp} (e : Same H H') : ∀ {vs : List V} {ds : List PyData}, DaAll H vs ds → DaAll H' vs ds
  | _, _, .nil => .nil
  | _, _, .cons h r => .cons (Da.mono e h) (DaAll.mono e r)
end
mutual
theorem Da.dp {K : PySem.W.Frag} {H : Hp} : ∀ {v : V} {d : PyData}, Da H v d → Dp K H v d
  | _, _, .non => .non
  | _, _, .bl b => .bl b
  | _, _, .int i => .int i
  | _, _, .str x => .str x
  | _, _, .lst h r => .lst (.inl (.inl h)) (DaAll.dp r)
  | _, _, .tup h r => .tup (.inl (.inl h)) (DaAll.dp r)
theorem DaAll.dp {K : PySem.W.Frag} {H : Hp} : ∀ {vs : List V} {ds : List PyData}, DaAll H vs ds → DpAll K H vs ds
  | _, _, .nil => .nil
  | _, _, .cons h r => .cons (Da.dp h) (DaAll.dp r)
end
theorem DaAll.length {H : Hp} : ∀ {vs : List V} {ds : List PyData}, DaAll H vs ds → vs.length = ds.length
  | _, _, .nil => rfl
  | _, _, .cons _ r => by rw [List.length_cons, List.length_cons, DaAll.length r]
theorem DaAll.get {H : Hp} : ∀ {vs : List V} {ds : List PyData} {i : Nat} {d : PyData}, DaAll H vs ds → ds[i]? = some d → ∃ v, vs[i]? = some v ∧ Da H v d
  | _, _, _, _, .nil, e => by simp at e
  | _, _, 0, _, .cons h _, e => by
    simp at e; subst e; exact ⟨_, rfl, h⟩
  | _, _, i + 1, _, .cons _ r, e => by
    obtain ⟨v, h1, h2⟩ := DaAll.get (i := i) r (by simpa using e)
    exact ⟨v, by simpa using h1, h2⟩
theorem DaAll.getV {H : Hp} : ∀ {vs : List V} {ds : List PyData} {i : Nat} {v : V}, DaAll H vs ds → vs[i]? = some v → ∃ d, ds[i]? = some d ∧ Da H v d
  | _, _, _, _, .nil, e => by simp at e
  | _, _, 0, _, .cons h _, e => by
    simp at e; subst e; exact ⟨_, rfl, h⟩
  | _, _, i + 1, _, .cons _ r, e => by
    obtain ⟨v, h1, h2⟩ := DaAll.getV (i := i) r (by simpa using e)
    exact ⟨v, by simpa using h1, h2⟩
theorem DaAll.append {H : Hp} : ∀ {vs ws : List V} {ds es : List PyData}, DaAll H vs ds → DaAll H ws es → DaAll H (vs ++ ws) (ds ++ es)
  | _, _, _, _, .nil, s => s
  | _, _, _, _, .cons h r, s => .cons h (DaAll.append r s)
theorem DaAll.take {H : Hp} : ∀ {vs : List V} {ds : List PyData} (n : Nat), DaAll H vs ds → DaAll H (vs.take n) (ds.take n)
  | _, _, 0, _ => .nil
  | _, _, _ + 1, .nil => .nil
  | _, _, n + 1, .cons h r => .cons h (DaAll.take n r)
theorem DaAll.drop {H : Hp} : ∀ {vs : List V} {ds : List PyData} (n : Nat), DaAll H vs ds → DaAll H (vs.drop n) (ds.drop n)
  | _, _, 0, r => r
  | _, _, _ + 1, .nil => .nil
  | _, _, n + 1, .cons _ r => DaAll.drop n r
theorem DaAll.reverse {H : Hp} : ∀ {vs : List V} {ds : List PyData}, DaAll H vs ds → DaAll H vs.reverse ds.reverse
  | _, _, .nil => .nil
  | _, _, .cons h r => by
    rw [List.reverse_cons, List.reverse_cons]
    exact DaAll.append (DaAll.reverse r) (.cons h .nil)
theorem DaAll.ints {H : Hp} : ∀ {vs : List V} {ns : List Int}, DaAll H vs (ns.map PyData.int) → vs = ns.map V.int
  | _, [], h => by cases h; rfl
  | _, n :: ns, h => by
    cases h with
    | cons h r => cases h; rw [DaAll.ints r]; rfl
theorem DaAll.of_ints {H : Hp} : ∀ (ns : List Int), DaAll H (ns.map V.int) (ns.map PyData.int)
  | [] => .nil
  | n :: ns => .cons (.int n) (DaAll.of_ints ns)
/-- a tuple, a list of ints -/
abbrev tI (ns : List Int) : PyData := .tuple (ns.map PyData.int)
abbrev lI (ns : List Int) : PyData := .list (ns.map PyData.int)

/-! ## what is said of a value: nothing, the data that it is, its address, the script -/
inductive SD where
  | non
  | dat (d : PyData)
  | ad (a : Addr)
  | scr (ns : List Int)
  | ty (n : String)
  | dic (kvs : List (Key × PyData))
  | exc (a : Addr) (cls : Value) (d : Option Addr) (C : Addr) (fs : Option (Str × PyData))
  | xob (C : Addr) (fs : Option (Str × PyData))
abbrev iV (i : Int) : SD := .dat (.int i)
abbrev bV (b : Bool) : SD := .dat (.bool b)
section
variable (K : PySem.W.Frag)
/-- an exception: its class, its own dict -/
def XDok (Hk : Hp) (cls : Value) (d : Option Addr) (C : Addr) (fs : Option (Str × PyData)) : Prop :=
  cls = .ref C ∧ match fs with
    | none => d = none
    | some (f, x) => ∃ (dd : Addr) (v : V), d = some dd ∧ Hk dd = some (.xd [(f, v)]) ∧ Da Hk v x
/-- an exception as a value -/
def XOok (Hk : Hp) (a C : Addr) (fs : Option (Str × PyData)) : Prop :=
  match fs with
    | none => Hk a = some (ExO (.ref C) a)
    | some (f, x) => ∃ (d : Addr) (v : V), Hk a = some (exo a C (some d)) ∧ Hk d = some (exd d [(f, v)]) ∧ Da Hk v x
theorem XOok.mono {H H' : Hp} (e : Same H H') {a C : Addr} : ∀ {fs : Option (Str × PyData)}, XOok H a C fs → XOok H' a C fs
  | none, h => e _ _ h
  | some (f, x), ⟨d, v, h2, h3, h4⟩ => ⟨d, v, e _ _ h2, e _ _ h3, Da.mono e h4⟩
theorem XDok.mono {H H' : Hp} (e : Same H H') {cls : Value} {d : Option Addr} {C : Addr} : ∀ {fs : Option (Str × PyData)}, XDok H cls d C fs → XDok H' cls d C fs
  | none, h => h
  | some (f, x), ⟨h1, dd, v, h2, h3, h4⟩ => ⟨h1, dd, v, h2, e _ _ h3, Da.mono e h4⟩
def SDok (Hk : Hp) (v : V) : SD → Prop
  | .non => True
  | .dat d => Da Hk v d
  | .ad a => v = .ref a
  | .scr ns => ∃ a, v = .ref a ∧ SqL K Hk a (ns.map V.int)
  | .ty n => v = .ty n
  | .dic kvs => ∃ (a : Addr) (vs : List (Key × V)), v = .ref a ∧ Hk a = some (.dK vs) ∧ vs.map (·.1) = kvs.map (·.1) ∧ DaAll Hk (vs.map (·.2)) (kvs.map (·.2))
  | .exc a cls d C fs => v = .ref a ∧ XDok Hk cls d C fs
  | .xob C fs => ∃ a, v = .ref a ∧ XOok Hk a C fs
theorem SDok.mono {K : PySem.W.Frag} {H H' : Hp} (e : Same H H') {v : V} : ∀ {r : SD}, SDok K H v r → SDok K H' v r
  | .non, _ => trivial
  | .dat _, h => Da.mono e h
  | .ad _, h => h
  | .scr _, ⟨a, h1, h2⟩ => ⟨a, h1, e.seq h2⟩
  | .ty _, h => h
  | .dic _, ⟨a, vs, h1, h2, h3, h4⟩ => ⟨a, vs, h1, e _ _ h2, h3, DaAll.mono e h4⟩
  | .exc .., ⟨h1, h2⟩ => ⟨h1, h2.mono e⟩
  | .xob .., ⟨a, h1, h2⟩ => ⟨a, h1, h2.mono e⟩
inductive SDall (Hk : Hp) : List V → List SD → Prop
  | nil : SDall Hk [] []
  | cons {v : V} {vs : List V} {r : SD} {rs : List SD} : SDok K Hk v r → SDall Hk vs rs → SDall Hk (v :: vs) (r :: rs)
section
variable {K} {H H' : Hp}
theorem SDall.mono (e : Same H H') : ∀ {vs : List V} {rs : List SD}, SDall K H vs rs → SDall K H' vs rs
  | _, _, .nil => .nil
  | _, _, .cons h r => .cons (h.mono e) (SDall.mono e r)
theorem SDall.length : ∀ {vs : List V} {rs : List SD}, SDall K H vs rs → vs.length = rs.length
  | _, _, .nil => rfl
  | _, _, .cons _ r => by rw [List.length_cons, List.length_cons, SDall.length r]
theorem SDall.append : ∀ {vs ws : List V} {ds es : List SD}, SDall K H vs ds → SDall K H ws es → SDall K H (vs ++ ws) (ds ++ es)
  | _, _, _, _, .nil, s => s
  | _, _, _, _, .cons h r, s => .cons h (SDall.append r s)
theorem SDall.get : ∀ {vs : List V} {ds : List SD} {i : Nat} {d : SD}, SDall K H vs ds → ds[i]? = some d → ∃ v, vs[i]? = some v ∧ SDok K H v d
  | _, _, _, _, .nil, e => by simp at e
  | _, _, 0, _, .cons h _, e => by
    simp at e; subst e; exact ⟨_, rfl, h⟩
  | _, _, i + 1, _, .cons _ r, e => by
    obtain ⟨v, h1, h2⟩ := SDall.get (i := i) r (by simpa using e)
    exact ⟨v, by simpa using h1, h2⟩
theorem SDall.set {v : V} {r : SD} (h : SDok K H v r) : ∀ {vs : List V} {rs : List SD} (j : Nat), SDall K H vs rs → SDall K H (vs.set j v) (rs.set j r)
  | _, _, _, .nil => .nil
  | _, _, 0, .cons _ t => .cons h t
  | _, _, j + 1, .cons q t => .cons q (SDall.set h j t)
theorem SDall.take : ∀ {vs : List V} {ds : List SD} (n : Nat), SDall K H vs ds → SDall K H (vs.take n) (ds.take n)
  | _, _, 0, _ => .nil
  | _, _, _ + 1, .nil => .nil
  | _, _, n + 1, .cons h r => .cons h (SDall.take n r)
theorem SDall.drop : ∀ {vs : List V} {ds : List SD} (n : Nat), SDall K H vs ds → SDall K H (vs.drop n) (ds.drop n)
  | _, _, 0, r => r
  | _, _, _ + 1, .nil => .nil
  | _, _, n + 1, .cons _ r => SDall.drop n r
theorem SDall.dats : ∀ {vs : List V} {ds : List PyData}, SDall K H vs (ds.map SD.dat) → DaAll H vs ds
  | _, [], h => by cases h; exact .nil
  | _, d :: ds, h => by
    cases h with
    | cons h r => exact .cons h (SDall.dats r)
theorem SDall.of_dats : ∀ {vs : List V} {ds : List PyData}, DaAll H vs ds → SDall K H vs (ds.map SD.dat)
  | _, _, .nil => .nil
  | _, _, .cons h r => .cons h (SDall.of_dats r)
end

/-! ## what is owned: lists (and dicts with text keys) that nothing else knows -/
inductive OD where
  | lst (rs : List SD)
  | dK (kvs : List (Key × SD))
  | tup (rs : List SD)
  | lstX (vs : List V) (rs : List SD)
  | obj (o : HO) (vs : List V) (rs : List SD)
abbrev Own := List (Addr × OD)
def ODok (Hk H : Hp) (a : Addr) : OD → Prop
  | .lst rs => ∃ vs, H a = some (.lst vs) ∧ SDall K Hk vs rs
  | .dK kvs => ∃ vs : List (Key × V), H a = some (.dK vs) ∧ vs.map (·.1) = kvs.map (·.1) ∧ SDall K Hk (vs.map (·.2)) (kvs.map (·.2))
  | .tup rs => ∃ vs, H a = some (.tup vs) ∧ SDall K Hk vs rs
  | .lstX vs rs => H a = some (.lst vs) ∧ SDall K Hk vs rs
  | .obj o vs rs => H a = some o ∧ SDall K Hk vs rs
structure Hold (Hk : Hp) (O : Own) (H : Hp) : Prop where
  kn : Same Hk H
  ow : ∀ p ∈ O, ODok K Hk H p.1 p.2 ∧ Hk p.1 = none
  nd : (O.map (·.1)).Nodup
structure Pt (Hk : Hp) (O : Own) (ds : List SD) (σ : L2.St) (H : Hp) : Prop where
  hold : Hold K Hk O H
  len : σ.length = ds.length
  env : ∀ (i : Nat) (r : SD), ds[i]? = some r → r = .non ∨ ∃ v, σ[i]? = some (some v) ∧ SDok K Hk v r
end
section
variable {K : PySem.W.Frag} {Hk Hk' H H' : Hp} {O O' : Own} {ds : List SD} {σ : L2.St}
theorem ODok.some {a : Addr} {x : OD} (h : ODok K Hk H a x) : ∃ o, H a = some o := by
  cases x with
  | lst rs => obtain ⟨vs, h, _⟩ := h; exact ⟨_, h⟩
  | dK rs => obtain ⟨vs, h, _⟩ := h; exact ⟨_, h⟩
  | tup rs => obtain ⟨vs, h, _⟩ := h; exact ⟨_, h⟩
  | lstX vs rs => obtain ⟨h, _⟩ := h; exact ⟨_, h⟩
  | obj o vs rs => obtain ⟨h, _⟩ := h; exact ⟨_, h⟩
theorem ODok.mono {a : Addr} {x : OD} (e : Same Hk Hk') (h : ODok K Hk H a x) (ha : H' a = H a) : ODok K Hk' H' a x := by
  cases x with
  | lst rs => obtain ⟨vs, h, q⟩ := h; exact ⟨vs, ha.trans h, q.mono e⟩
  | dK rs => obtain ⟨vs, h, k, q⟩ := h; exact ⟨vs, ha.trans h, k, q.mono e⟩
  | tup rs => obtain ⟨vs, h, q⟩ := h; exact ⟨vs, ha.trans h, q.mono e⟩
  | lstX vs rs => obtain ⟨h, q⟩ := h; exact ⟨ha.trans h, q.mono e⟩
  | obj o vs rs => obtain ⟨h, q⟩ := h; exact ⟨ha.trans h, q.mono e⟩
theorem Hold.free_own (h : Hold K Hk O H) {p : Addr} (hp : H p = none) : p ∉ O.map (·.1) := fun z => by
  obtain ⟨q, hq, e⟩ := List.mem_map.mp z
  obtain ⟨o, ho⟩ := (h.ow q hq).1.some
  rw [e, hp] at ho
  cases ho
theorem same_new {H : Hp} {p : Addr} {o : HO} (h : H p = none) : Same H (upd H p o) := fun b x e => by
  rw [upd_ne (ne_of_none e h)]
  exact e
/-- a new object that is known at once -/
theorem Hold.know (h : Hold K Hk O H) {p : Addr} {o : HO} (hp : H p = none) : Hold K (upd Hk p o) O (upd H p o) := by
  have kp : Hk p = none := h.kn.free hp
  refine ⟨fun b x e => ?_, fun q hq => ?_, h.nd⟩
  · by_cases hb : b = p
    · subst hb
      rw [upd_same] at e ⊢
      exact e
    · rw [upd_ne hb] at e ⊢
      exact h.kn b x e
  · have ne : q.1 ≠ p := fun z => h.free_own hp (z ▸ List.mem_map.mpr ⟨q, hq, rfl⟩)
    obtain ⟨h1, h2⟩ := h.ow q hq
    exact ⟨h1.mono (same_new kp) (upd_ne ne), by rw [upd_ne ne]; exact h2⟩
/-- a new list that is owned -/
theorem Hold.own (h : Hold K Hk O H) {p : Addr} {vs : List V} {rs : List SD} (hp : H p = none) (hv : SDall K Hk vs rs) : Hold K Hk ((p, .lst rs) :: O) (upd H p (.lst vs)) := by
  have kp : Hk p = none := h.kn.free hp
  refine ⟨fun b x e => ?_, fun q hq => ?_, ?_⟩
  · rw [upd_ne (ne_of_none e kp)]
    exact h.kn b x e
  · rcases List.mem_cons.mp hq with rfl | hq
    · exact ⟨⟨vs, upd_same, hv⟩, kp⟩
    · have ne : q.1 ≠ p := fun z => h.free_own hp (z ▸ List.mem_map.mpr ⟨q, hq, rfl⟩)
      obtain ⟨h1, h2⟩ := h.ow q hq
      exact ⟨h1.mono (Same.refl _) (upd_ne ne), h2⟩
  · rw [List.map_cons, List.nodup_cons]
    exact ⟨h.free_own hp, h.nd⟩
/-- a new object that is owned -/
theorem Hold.ownG (h : Hold K Hk O H) {p : Addr} {o : HO} {x : OD} (hp : H p = none) (hx : ODok K Hk (upd H p o) p x) : Hold K Hk ((p, x) :: O) (upd H p o) := by
  have kp : Hk p = none := h.kn.free hp
  refine ⟨fun b y e => ?_, fun q hq => ?_, ?_⟩
  · rw [upd_ne (ne_of_none e kp)]
    exact h.kn b y e
  · rcases List.mem_cons.mp hq with rfl | hq
    · exact ⟨hx, kp⟩
    · have ne : q.1 ≠ p := fun z => h.free_own hp (z ▸ List.mem_map.mpr ⟨q, hq, rfl⟩)
      obtain ⟨h1, h2⟩ := h.ow q hq
      exact ⟨h1.mono (Same.refl _) (upd_ne ne), h2⟩
  · rw [List.map_cons, List.nodup_cons]
    exact ⟨h.free_own hp, h.nd⟩
/-- an owned object, said otherwise -/
theorem Hold.tell {a : Addr} {x y : OD} (h : Hold K Hk ((a, x) :: O) H) (hy : ODok K Hk H a y) : Hold K Hk ((a, y) :: O) H := by
  have nd := h.nd
  rw [List.map_cons] at nd
  refine ⟨h.kn, fun q hq => ?_, by rw [List.map_cons]; exact nd⟩
  rcases List.mem_cons.mp hq with rfl | hq
  · exact ⟨hy, (h.ow (a, x) List.mem_cons_self).2⟩
  · exact h.ow q (List.mem_cons_of_mem _ hq)
/-- an owned object is written -/
theorem Hold.writeG {a : Addr} {x y : OD} {o : HO} (h : Hold K Hk ((a, x) :: O) H) (hy : ODok K Hk (upd H a o) a y) : Hold K Hk ((a, y) :: O) (upd H a o) := by
  have ka : Hk a = none := (h.ow (a, x) List.mem_cons_self).2
  have nd := h.nd
  rw [List.map_cons, List.nodup_cons] at nd
  refine ⟨fun b z e => ?_, fun q hq => ?_, ?_⟩
  · rw [upd_ne (ne_of_none e ka)]
    exact h.kn b z e
  · rcases List.mem_cons.mp hq with rfl | hq
    · exact ⟨hy, ka⟩
    · have ne : q.1 ≠ a := fun z => nd.1 (z ▸ List.mem_map.mpr ⟨q, hq, rfl⟩)
      obtain ⟨h1, h2⟩ := h.ow q (List.mem_cons_of_mem _ hq)
      exact ⟨h1.mono (Same.refl _) (upd_ne ne), h2⟩
  · rw [List.map_cons, List.nodup_cons]
    exact nd
theorem Hold.perm (h : Hold K Hk O H) (p : O.Perm O') : Hold K Hk O' H :=
  ⟨h.kn, fun q hq => h.ow q (p.mem_iff.mpr hq), (p.map _).nodup_iff.mp h.nd⟩
theorem Hold.sub (h : Hold K Hk O H) (s : List.Sublist O' O) : Hold K Hk O' H :=
  ⟨h.kn, fun q hq => h.ow q (s.subset hq), (s.map _).nodup h.nd⟩
/-- an owned list is written -/
theorem Hold.write {a : Addr} {x : OD} {vs : List V} {rs : List SD} (h : Hold K Hk ((a, x) :: O) H) (hv : SDall K Hk vs rs) : Hold K Hk ((a, .lst rs) :: O) (upd H a (.lst vs)) := by
  have ka : Hk a = none := (h.ow (a, x) List.mem_cons_self).2
  have nd := h.nd
  rw [List.map_cons, List.nodup_cons] at nd
  refine ⟨fun b y e => ?_, fun q hq => ?_, ?_⟩
  · rw [upd_ne (ne_of_none e ka)]
    exact h.kn b y e
  · rcases List.mem_cons.mp hq with rfl | hq
    · exact ⟨⟨vs, upd_same, hv⟩, ka⟩
    · have ne : q.1 ≠ a := fun z => nd.1 (z ▸ List.mem_map.mpr ⟨q, hq, rfl⟩)
      obtain ⟨h1, h2⟩ := h.ow q (List.mem_cons_of_mem _ hq)
      exact ⟨h1.mono (Same.refl _) (upd_ne ne), h2⟩
  · rw [List.map_cons, List.nodup_cons]
    exact nd
/-- an owned list of data becomes known -/
theorem Hold.freeze {a : Addr} {es : List PyData} (h : Hold K Hk ((a, .lst (es.map .dat)) :: O) H) : ∃ Hk', Same Hk Hk' ∧ Hold K Hk' O H ∧ Da Hk' (.ref a) (.list es) := by
  obtain ⟨⟨vs, ha, hv⟩, ka⟩ := h.ow (a, .lst (es.map .dat)) List.mem_cons_self
  have nd := h.nd
  rw [List.map_cons, List.nodup_cons] at nd
  have sm : Same Hk (upd Hk a (.lst vs)) := same_new ka
  refine ⟨upd Hk a (.lst vs), sm, ⟨fun b y e => ?_, fun q hq => ?_, nd.2⟩, .lst upd_same (DaAll.mono sm hv.dats)⟩
  · by_cases hb : b = a
    · subst hb
      rw [upd_same] at e
      rw [ha]
      exact e
    · rw [upd_ne hb] at e
      exact h.kn b y e
  · have ne : q.1 ≠ a := fun z => nd.1 (z ▸ List.mem_map.mpr ⟨q, hq, rfl⟩)
    obtain ⟨h1, h2⟩ := h.ow q (List.mem_cons_of_mem _ hq)
    exact ⟨h1.mono sm rfl, by rw [upd_ne ne]; exact h2⟩
theorem Pt.ext (p : Pt K Hk O ds σ H) (e : Same Hk Hk') (h : Hold K Hk' O' H') : Pt K Hk' O' ds σ H' :=
  ⟨h, p.len, fun i r hr => (p.env i r hr).imp id fun ⟨v, h1, h2⟩ => ⟨v, h1, h2.mono e⟩⟩
theorem Pt.set {v : V} {r : SD} {j : Nat} (p : Pt K Hk O ds σ H) (h : SDok K Hk v r) : Pt K Hk O (ds.set j r) (σ.set j (some v)) H :=
  ⟨p.hold, by rw [List.length_set, List.length_set, p.len], fun i q hq => by
    by_cases hi : i = j
    · subst hi
      have hl : i < (ds.set i r).length := (List.getElem?_eq_some_iff.mp hq).1
      rw [List.length_set] at hl
      rw [List.getElem?_set_self hl] at hq
      cases hq
      exact .inr ⟨v, List.getElem?_set_self (by rw [p.len]; exact hl), h⟩
    · rw [List.getElem?_set_ne (Ne.symm hi)] at hq
      rw [List.getElem?_set_ne (Ne.symm hi)]
      exact p.env i q hq⟩
theorem Pt.weak {ds' : List SD} (p : Pt K Hk O ds σ H) (hl : ds'.length = ds.length) (h : ∀ (i : Nat) (r : SD), ds'[i]? = some r → r = .non ∨ ds[i]? = some r) : Pt K Hk O ds' σ H :=
  ⟨p.hold, by rw [p.len, hl], fun i r hr => (h i r hr).elim .inl (p.env i r)⟩
end
end Wk
namespace Wk
open PySem PySem.Spec PyProof.Rows L2
/-- descriptions that are data, all of them -/
inductive Dats : List SD → List PyData → Prop
  | nil : Dats [] []
  | cons {d : PyData} {rs : List SD} {ds : List PyData} : Dats rs ds → Dats (.dat d :: rs) (d :: ds)
theorem Dats.eq : ∀ {rs : List SD} {ds : List PyData}, Dats rs ds → rs = ds.map .dat
  | _, _, .nil => rfl
  | _, _, .cons h => by rw [Dats.eq h]; rfl
theorem Dats.map : ∀ (ds : List PyData), Dats (ds.map .dat) ds
  | [] => .nil
  | _ :: r => .cons (Dats.map r)
theorem Dats.ints : ∀ (ns : List Int), Dats (ns.map fun n => iV n) (ns.map .int)
  | [] => .nil
  | _ :: r => .cons (Dats.ints r)
theorem Dats.append : ∀ {rs qs : List SD} {ds es : List PyData}, Dats rs ds → Dats qs es → Dats (rs ++ qs) (ds ++ es)
  | _, _, _, _, .nil, h => h
  | _, _, _, _, .cons h, k => .cons (Dats.append h k)
section
variable (K : PySem.W.Frag)
/-- what is wanted of a value, met -/
def Kont (Hk : Hp) (Q : SD → Own → Prop) (Q' : VK) : Prop :=
  ∀ v r O2 Hk2 H2, Same Hk Hk2 → Hold K Hk2 O2 H2 → SDok K Hk2 v r → Q r O2 → Q' v H2
def EvW (t : TE) (O : Own) (ds : List SD) (Q : SD → Own → Prop) : Prop :=
  ∀ Hk σ H, Pt K Hk O ds σ H → ∀ Q' : VK, Kont K Hk Q Q' → t σ H Q'
def AvW (t : TA) (O : Own) (ds : List SD) (Q : List SD → Own → Prop) : Prop :=
  ∀ Hk σ H, Pt K Hk O ds σ H → ∀ Q' : List V → Hp → Prop, (∀ vs rs O2 Hk2 H2, Same Hk Hk2 → Hold K Hk2 O2 H2 → SDall K Hk2 vs rs → Q rs O2 → Q' vs H2) → t σ H Q'
def TvW (t : TT) (O : Own) (ds : List SD) (Q : Bool → Own → Prop) : Prop :=
  ∀ Hk σ H, Pt K Hk O ds σ H → ∀ Q' : Bool → Hp → Prop, (∀ b O2 Hk2 H2, Same Hk Hk2 → Hold K Hk2 O2 H2 → Q b O2 → Q' b H2) → t σ H Q'
def IvW (t : TO) (O : Own) (ds : List SD) (Q : Option Int → Own → Prop) : Prop :=
  ∀ Hk σ H, Pt K Hk O ds σ H → ∀ Q' : Option Int → Hp → Prop, (∀ b O2 Hk2 H2, Same Hk Hk2 → Hold K Hk2 O2 H2 → Q b O2 → Q' b H2) → t σ H Q'
def OpW (r : R2) (x y : SD) (O : Own) (Q : SD → Own → Prop) : Prop :=
  ∀ Hk H, Hold K Hk O H → ∀ u v, SDok K Hk u x → SDok K Hk v y → ∀ Q' : VK, Kont K Hk Q Q' → r u v H Q'
def UnW (r : V → Hp → VK → Prop) (x : SD) (O : Own) (Q : SD → Own → Prop) : Prop :=
  ∀ Hk H, Hold K Hk O H → ∀ u, SDok K Hk u x → ∀ Q' : VK, Kont K Hk Q Q' → r u H Q'
def CbW (r : List V → Hp → VK → Prop) (xs : List SD) (O : Own) (Q : SD → Own → Prop) : Prop :=
  ∀ Hk H, Hold K Hk O H → ∀ us, SDall K Hk us xs → ∀ Q' : VK, Kont K Hk Q Q' → r us H Q'
def MbW (r : V → List V → Hp → VK → Prop) (x : SD) (xs : List SD) (O : Own) (Q : SD → Own → Prop) : Prop :=
  ∀ Hk H, Hold K Hk O H → ∀ u us, SDok K Hk u x → SDall K Hk us xs → ∀ Q' : VK, Kont K Hk Q Q' → r u us H Q'
def SlW (r : V → Option Int → Option Int → Hp → VK → Prop) (x : SD) (lo hi : Option Int) (O : Own) (Q : SD → Own → Prop) : Prop :=
  ∀ Hk H, Hold K Hk O H → ∀ u, SDok K Hk u x → ∀ Q' : VK, Kont K Hk Q Q' → r u lo hi H Q'
/-- a def's promise, by what it wants -/
def spW (pre : List SD → Own → (SD → Own → Prop) → Prop) : Sp := fun vs H Q' _ =>
  ∃ Hk O rs Q, Hold K Hk O H ∧ SDall K Hk vs rs ∧ pre rs O Q ∧ Kont K Hk Q Q'
def Xt (Hk : Hp) (P : Hp → Prop) : Prop := ∀ Hk', Same Hk Hk' → P Hk'
structure AE where
  nx : Own → List SD → Prop
  rt : SD → Own → Prop
  bk : Own → List SD → Prop := fun _ _ => False
  ct : Own → List SD → Prop := fun _ _ => False
  xt : Hp → Prop := fun _ => True
def Post (Hk : Hp) (P : Own → List SD → Prop) (P' : L2.St → Hp → Prop) : Prop := ∀ O2 ds2 Hk2 σ2 H2, Same Hk Hk2 → Pt K Hk2 O2 ds2 σ2 H2 → P O2 ds2 → P' σ2 H2
structure Lnk (Hk : Hp) (A : AE) (D : Ends) : Prop where
  nx : Post K Hk A.nx D.nx
  rt : Kont K Hk A.rt D.rt
  bk : Post K Hk A.bk D.bk
  ct : Post K Hk A.ct D.ct
  xt : Xt Hk A.xt
def StW (t : TS) (O : Own) (ds : List SD) (A : AE) : Prop := ∀ Hk σ H (D : Ends), Pt K Hk O ds σ H → Lnk K Hk A D → t D σ H
end
section
variable {K : PySem.W.Frag} {Hk Hk' H H' : Hp} {O O' : Own} {ds : List SD} {σ : L2.St} {Q : SD → Own → Prop} {Q' : VK} {r : R2} {x y : SD} {A : AE} {D : Ends}
theorem Kont.ext (k : Kont K Hk Q Q') (e : Same Hk Hk') : Kont K Hk' Q Q' := fun v r O2 Hk2 H2 e2 => k v r O2 Hk2 H2 (e.trans e2)
theorem Kont.now (k : Kont K Hk Q Q') (h : Hold K Hk O H) {v : V} {r : SD} (hv : SDok K Hk v r) (q : Q r O) : Q' v H := k v r O Hk H (Same.refl _) h hv q
theorem Post.ext {P : Own → List SD → Prop} {P' : L2.St → Hp → Prop} (k : Post K Hk P P') (e : Same Hk Hk') : Post K Hk' P P' := fun O2 ds2 Hk2 σ2 H2 e2 => k O2 ds2 Hk2 σ2 H2 (e.trans e2)
theorem Xt.ext {P : Hp → Prop} (k : Xt Hk P) (e : Same Hk Hk') : Xt Hk' P := fun Hk2 e2 => k Hk2 (e.trans e2)
theorem Lnk.ext (k : Lnk K Hk A D) (e : Same Hk Hk') : Lnk K Hk' A D := ⟨k.nx.ext e, k.rt.ext e, k.bk.ext e, k.ct.ext e, k.xt.ext e⟩

/-! ### expressions -/
theorem w_var {i : Nat} {r : SD} (h : ds[i]? = some r) (hn : r ≠ .non) (q : Q r O) : EvW K (tVar i) O ds Q := fun Hk σ H p Q' k => by
  rcases p.env i r h with e | ⟨v, hv, hs⟩
  · exact absurd e hn
  · exact ⟨v, hv, k.now p.hold hs q⟩
theorem w_vD {i : Nat} {d : PyData} (h : ds[i]? = some (.dat d)) (q : Q (.dat d) O) : EvW K (tVar i) O ds Q := w_var h (fun z => nomatch z) q
theorem w_vA {i : Nat} {a : Addr} (h : ds[i]? = some (.ad a)) (q : Q (.ad a) O) : EvW K (tVar i) O ds Q := w_var h (fun z => nomatch z) q
theorem w_vS {i : Nat} {ns : List Int} (h : ds[i]? = some (.scr ns)) (q : Q (.scr ns) O) : EvW K (tVar i) O ds Q := w_var h (fun z => nomatch z) q
theorem w_int {i : Int} (q : Q (iV i) O) : EvW K (tC (.int i)) O ds Q := fun Hk σ H p Q' k => k.now p.hold (r := iV i) (.int i) q
theorem w_bl {b : Bool} (q : Q (bV b) O) : EvW K (tC (.bl b)) O ds Q := fun Hk σ H p Q' k => k.now p.hold (r := bV b) (.bl b) q
theorem w_str {b : Str} (q : Q (.dat (.str b)) O) : EvW K (tC (.str b)) O ds Q := fun Hk σ H p Q' k => k.now p.hold (r := .dat (.str b)) (.str b) q
theorem w_none (q : Q (.dat .none) O) : EvW K (tC .non) O ds Q := fun Hk σ H p Q' k => k.now p.hold (r := .dat .none) .non q
theorem w_op {ta tb : TE} (h : EvW K ta O ds fun r1 O1 => EvW K tb O1 ds fun r2 O2 => OpW K r r1 r2 O2 Q) : EvW K (tOp r ta tb) O ds Q := fun Hk σ H p Q' k =>
  h Hk σ H p _ fun v1 r1 O1 Hk1 H1 e1 h1 s1 q1 => q1 Hk1 σ H1 (p.ext e1 h1) _ fun v2 r2 O2 Hk2 H2 e2 h2 s2 q2 =>
    q2 Hk2 H2 h2 v1 v2 (s1.mono e2) s2 Q' (k.ext (e1.trans e2))
theorem w_un {ta : TE} {r : V → Hp → VK → Prop} (h : EvW K ta O ds fun r1 O1 => UnW K r r1 O1 Q) : EvW K (tUn r ta) O ds Q := fun Hk σ H p Q' k =>
  h Hk σ H p _ fun v1 r1 O1 Hk1 H1 e1 h1 s1 q1 => q1 Hk1 H1 h1 v1 s1 Q' (k.ext e1)
theorem w_if {t : TT} {ta tb : TE} (h : TvW K t O ds fun b O1 => (b = true → EvW K ta O1 ds Q) ∧ (b = false → EvW K tb O1 ds Q)) : EvW K (tIf t ta tb) O ds Q := fun Hk σ H p Q' k =>
  h Hk σ H p _ fun b O1 Hk1 H1 e1 h1 q1 => by
    cases b with
    | true => exact q1.1 rfl Hk1 σ H1 (p.ext e1 h1) Q' (k.ext e1)
    | false => exact q1.2 rfl Hk1 σ H1 (p.ext e1 h1) Q' (k.ext e1)
theorem w_nil {Q : List SD → Own → Prop} (q : Q [] O) : AvW K tNil O ds Q := fun Hk σ H p Q' k => k [] [] O Hk H (Same.refl _) p.hold .nil q
theorem w_cons {ta : TE} {tr : TA} {Q : List SD → Own → Prop} (h : EvW K ta O ds fun r1 O1 => AvW K tr O1 ds fun rs O2 => Q (r1 :: rs) O2) : AvW K (tCons ta tr) O ds Q := fun Hk σ H p Q' k =>
  h Hk σ H p _ fun v1 r1 O1 Hk1 H1 e1 h1 s1 q1 => q1 Hk1 σ H1 (p.ext e1 h1) _ fun vs rs O2 Hk2 H2 e2 h2 s2 q2 =>
    k (v1 :: vs) (r1 :: rs) O2 Hk2 H2 (e1.trans e2) h2 (.cons (s1.mono e2) s2) q2
theorem w_cb {r : List V → Hp → VK → Prop} {ta : TA} (h : AvW K ta O ds fun rs O1 => CbW K r rs O1 Q) : EvW K (tCB r ta) O ds Q := fun Hk σ H p Q' k =>
  h Hk σ H p _ fun vs rs O1 Hk1 H1 e1 h1 s1 q1 => q1 Hk1 H1 h1 vs s1 Q' (k.ext e1)
theorem w_call {pre : List SD → Own → (SD → Own → Prop) → Prop} {E : XK} {ta : TA} (h : AvW K ta O ds fun rs O1 => pre rs O1 Q) : EvW K (tCall (spW K pre) [] E ta) O ds Q := fun Hk σ H p Q' k =>
  h Hk σ H p _ fun vs rs O1 Hk1 H1 e1 h1 s1 q1 => by
    show spW K pre (vs ++ []) H1 Q' E
    rw [List.append_nil]
    exact ⟨Hk1, O1, rs, Q, h1, s1, q1, k.ext e1⟩
/-- a tuple of data -/
theorem w_tup {ta : TA} (h : AvW K ta O ds fun rs O1 => ∃ es : List PyData, Dats rs es ∧ es.length ≤ sizeLine ∧ Q (.dat (.tuple es)) O1) : EvW K (tTup ta) O ds Q := fun Hk σ H p Q' k =>
  h Hk σ H p _ fun vs rs O1 Hk1 H1 e1 h1 s1 q1 => by
    obtain ⟨es, hda, hl, q⟩ := q1
    obtain rfl := hda.eq
    have hd := s1.dats
    refine ⟨by rw [hd.length]; exact hl, fun l hp => ?_⟩
    have sm : Same Hk1 (upd Hk1 l (.tup vs)) := same_new (h1.kn.free hp)
    exact k _ (.dat (.tuple es)) O1 (upd Hk1 l (.tup vs)) _ (e1.trans sm) (h1.know hp) (.tup upd_same (DaAll.mono sm hd)) q
/-- a list display as data -/
theorem w_lst {ta : TA} (h : AvW K ta O ds fun rs O1 => ∃ es : List PyData, Dats rs es ∧ es.length ≤ sizeLine ∧ Q (.dat (.list es)) O1) : EvW K (tLst ta) O ds Q := fun Hk σ H p Q' k =>
  h Hk σ H p _ fun vs rs O1 Hk1 H1 e1 h1 s1 q1 => by
    obtain ⟨es, hda, hl, q⟩ := q1
    obtain rfl := hda.eq
    have hd := s1.dats
    refine ⟨by rw [hd.length]; exact hl, fun l hp => ?_⟩
    have sm : Same Hk1 (upd Hk1 l (.lst vs)) := same_new (h1.kn.free hp)
    exact k _ (.dat (.list es)) O1 (upd Hk1 l (.lst vs)) _ (e1.trans sm) (h1.know hp) (.lst upd_same (DaAll.mono sm hd)) q
/-- a list display that is owned, in front -/
theorem w_lstO {ta : TA} (h : AvW K ta O ds fun rs O1 => rs.length ≤ sizeLine ∧ ∀ l, Q (.ad l) ((l, .lst rs) :: O1)) : EvW K (tLst ta) O ds Q := fun Hk σ H p Q' k =>
  h Hk σ H p _ fun vs rs O1 Hk1 H1 e1 h1 s1 q1 => by
    obtain ⟨hl, q⟩ := q1
    refine ⟨by rw [s1.length]; exact hl, fun l hp => ?_⟩
    exact k _ (.ad l) _ Hk1 _ e1 (h1.own hp s1) rfl (q l)
/-- .. behind the first -/
theorem w_lstO1 {ta : TA} (h : AvW K ta O ds fun rs O1 => rs.length ≤ sizeLine ∧ ∃ a Oa, O1 = a :: Oa ∧ ∀ l, Q (.ad l) (a :: (l, .lst rs) :: Oa)) : EvW K (tLst ta) O ds Q := fun Hk σ H p Q' k =>
  h Hk σ H p _ fun vs rs O1 Hk1 H1 e1 h1 s1 q1 => by
    obtain ⟨hl, a, Oa, rfl, q⟩ := q1
    refine ⟨by rw [s1.length]; exact hl, fun l hp => ?_⟩
    exact k _ (.ad l) _ Hk1 _ e1 ((h1.own hp s1).perm (List.Perm.swap ..)) rfl (q l)
/-! ### what is owned, put otherwise -/
theorem w_perm {t : TE} (s : O.Perm O') (h : EvW K t O' ds Q) : EvW K t O ds Q := fun Hk σ H p => h Hk σ H ⟨p.hold.perm s, p.len, p.env⟩
theorem w_drop {t : TE} (s : List.Sublist O' O) (h : EvW K t O' ds Q) : EvW K t O ds Q := fun Hk σ H p => h Hk σ H ⟨p.hold.sub s, p.len, p.env⟩
theorem s_perm {t : TS} (s : O.Perm O') (h : StW K t O' ds A) : StW K t O ds A := fun Hk σ H D p => h Hk σ H D ⟨p.hold.perm s, p.len, p.env⟩
theorem s_dropO {t : TS} (s : List.Sublist O' O) (h : StW K t O' ds A) : StW K t O ds A := fun Hk σ H D p => h Hk σ H D ⟨p.hold.sub s, p.len, p.env⟩
/-- the value may be taken as known data, if it is an owned list of data -/
theorem w_frz {t : TE} {Q : SD → Own → Prop} (h : EvW K t O ds fun r O1 => ∃ a rs es Oa, r = .ad a ∧ O1.Perm ((a, .lst rs) :: Oa) ∧ Dats rs es ∧ Q (.dat (.list es)) Oa) : EvW K t O ds Q := fun Hk σ H p Q' k =>
  h Hk σ H p _ fun v r O1 Hk1 H1 e1 h1 s1 q1 => by
    obtain ⟨a, rs, es, Oa, rfl, hp, hda, q⟩ := q1
    obtain rfl := hda.eq
    cases (show v = .ref a from s1)
    obtain ⟨Hk2, e2, h2, d2⟩ := (h1.perm hp).freeze
    exact k _ (.dat (.list es)) Oa Hk2 H1 (e1.trans e2) h2 d2 q
theorem w_mono {t : TE} {Q R : SD → Own → Prop} (h : EvW K t O ds R) (k : ∀ r O, R r O → Q r O) : EvW K t O ds Q := fun Hk σ H p Q' kk =>
  h Hk σ H p Q' fun v r O2 Hk2 H2 e h2 s q => kk v r O2 Hk2 H2 e h2 s (k r O2 q)
theorem s_ds {t : TS} {ds' : List SD} (hl : ds'.length = ds.length) (hd : ∀ (i : Nat) (r : SD), ds'[i]? = some r → r = .non ∨ ds[i]? = some r) (h : StW K t O ds' A) : StW K t O ds A := fun Hk σ H D p => h Hk σ H D (p.weak hl hd)

/-! ### tests -/
theorem t_test {te : TE} {Q : Bool → Own → Prop} (h : EvW K te O ds fun r O1 => ∃ b, r = bV b ∧ Q b O1) : TvW K (tTest te) O ds Q := fun Hk σ H p Q' k =>
  h Hk σ H p _ fun v r O1 Hk1 H1 e1 h1 s1 q1 => by
    obtain ⟨b, rfl, q⟩ := q1
    cases (show Da Hk1 v (.bool b) from s1)
    exact ⟨b, rfl, k b O1 Hk1 H1 e1 h1 q⟩
theorem t_B {te : TE} {Q : Bool → Own → Prop} (h : EvW K te O ds fun r O1 => ∃ b, r = bV b ∧ Q b O1) : TvW K (tB te) O ds Q := fun Hk σ H p Q' k =>
  h Hk σ H p _ fun v r O1 Hk1 H1 e1 h1 s1 q1 => by
    obtain ⟨b, rfl, q⟩ := q1
    cases (show Da Hk1 v (.bool b) from s1)
    exact ⟨b, rfl, k b O1 Hk1 H1 e1 h1 q⟩
theorem t_and {t u : TT} {Q : Bool → Own → Prop} (h : TvW K t O ds fun b O1 => (b = true → TvW K u O1 ds Q) ∧ (b = false → Q false O1)) : TvW K (tAnd t u) O ds Q := fun Hk σ H p Q' k =>
  h Hk σ H p _ fun b O1 Hk1 H1 e1 h1 q1 => by
    cases b with
    | true => exact iteT (q1.1 rfl Hk1 σ H1 (p.ext e1 h1) Q' fun b O2 Hk2 H2 e2 => k b O2 Hk2 H2 (e1.trans e2))
    | false => exact iteF (k false O1 Hk1 H1 e1 h1 (q1.2 rfl))
theorem t_or {t u : TT} {Q : Bool → Own → Prop} (h : TvW K t O ds fun b O1 => (b = true → Q true O1) ∧ (b = false → TvW K u O1 ds Q)) : TvW K (tOr t u) O ds Q := fun Hk σ H p Q' k =>
  h Hk σ H p _ fun b O1 Hk1 H1 e1 h1 q1 => by
    cases b with
    | true => exact iteT (k true O1 Hk1 H1 e1 h1 (q1.1 rfl))
    | false => exact iteF (q1.2 rfl Hk1 σ H1 (p.ext e1 h1) Q' fun b O2 Hk2 H2 e2 => k b O2 Hk2 H2 (e1.trans e2))
theorem t_not {t : TT} {Q : Bool → Own → Prop} (h : TvW K t O ds fun b O1 => Q (!b) O1) : TvW K (tNot t) O ds Q := fun Hk σ H p Q' k =>
  h Hk σ H p _ fun b O1 Hk1 H1 e1 h1 q1 => k (!b) O1 Hk1 H1 e1 h1 q1
theorem t_yes {Q : Bool → Own → Prop} (q : Q true O) : TvW K tYes O ds Q := fun Hk σ H p Q' k => k true O Hk H (Same.refl _) p.hold q
theorem w_andV {ta tb : TE} (h : EvW K ta O ds fun r O1 => ∃ c, r = bV c ∧ (c = true → EvW K tb O1 ds Q) ∧ (c = false → Q (bV false) O1)) : EvW K (tAndV ta tb) O ds Q := fun Hk σ H p Q' k =>
  h Hk σ H p _ fun v r O1 Hk1 H1 e1 h1 s1 q1 => by
    obtain ⟨c, rfl, qt, qf⟩ := q1
    cases (show Da Hk1 v (.bool c) from s1)
    refine ⟨c, rfl, ?_⟩
    cases c with
    | true => exact iteT (qt rfl Hk1 σ H1 (p.ext e1 h1) Q' (k.ext e1))
    | false => exact iteF (k _ (bV false) O1 Hk1 H1 e1 h1 (.bl false) (qf rfl))
theorem w_orV {ta tb : TE} (h : EvW K ta O ds fun r O1 => ∃ c, r = bV c ∧ (c = true → Q (bV true) O1) ∧ (c = false → EvW K tb O1 ds Q)) : EvW K (tOrV ta tb) O ds Q := fun Hk σ H p Q' k =>
  h Hk σ H p _ fun v r O1 Hk1 H1 e1 h1 s1 q1 => by
    obtain ⟨c, rfl, qt, qf⟩ := q1
    cases (show Da Hk1 v (.bool c) from s1)
    refine ⟨c, rfl, ?_⟩
    cases c with
    | true => exact iteT (k _ (bV true) O1 Hk1 H1 e1 h1 (.bl true) (qt rfl))
    | false => exact iteF (qf rfl Hk1 σ H1 (p.ext e1 h1) Q' (k.ext e1))
theorem w_notV {ta : TE} (h : EvW K ta O ds fun r O1 => ∃ c, r = bV c ∧ Q (bV (!c)) O1) : EvW K (tNotV ta) O ds Q := fun Hk σ H p Q' k =>
  h Hk σ H p _ fun v r O1 Hk1 H1 e1 h1 s1 q1 => by
    obtain ⟨c, rfl, q⟩ := q1
    cases (show Da Hk1 v (.bool c) from s1)
    exact ⟨c, rfl, k _ (bV (!c)) O1 Hk1 H1 e1 h1 (.bl _) q⟩
/-! ### operators by values -/
theorem o_I0 {g : Int → Int → V} {i j : Int} {d : PyData} (hd : ∀ H, Da H (g i j) d) (q : Q (.dat d) O) : OpW K (rI0 g) (iV i) (iV j) O Q := fun Hk H h u v hu hv Q' k => by
  cases (show Da Hk u (.int i) from hu)
  cases (show Da Hk v (.int j) from hv)
  exact ⟨i, j, rfl, rfl, k.now h (r := .dat d) (hd Hk) q⟩
theorem o_I {C : Int → Int → Prop} {g : Int → Int → V} {i j : Int} {d : PyData} (hc : C i j) (hd : ∀ H, Da H (g i j) d) (q : Q (.dat d) O) : OpW K (rI C g) (iV i) (iV j) O Q := fun Hk H h u v hu hv Q' k => by
  cases (show Da Hk u (.int i) from hu)
  cases (show Da Hk v (.int j) from hv)
  exact ⟨i, j, rfl, rfl, hc, k.now h (r := .dat d) (hd Hk) q⟩
theorem o_add {i j : Int} (q : Q (iV (i + j)) O) : OpW K (rI0 fun i j => .int (i + j)) (iV i) (iV j) O Q := o_I0 (fun _ => .int _) q
theorem o_sub {i j : Int} (q : Q (iV (i - j)) O) : OpW K (rI0 fun i j => .int (i - j)) (iV i) (iV j) O Q := o_I0 (fun _ => .int _) q
theorem o_mul {i j : Int} (hc : CMul i j) (q : Q (iV (i * j)) O) : OpW K (rI CMul fun i j => .int (i * j)) (iV i) (iV j) O Q := o_I hc (fun _ => .int _) q
theorem cmul_l {i j : Int} (h1 : -(2 ^ 64) < i) (h2 : i < 2 ^ 64) : CMul i j := .inl ⟨h1, h2⟩
theorem cmul_r {i j : Int} (h1 : -(2 ^ 64) < j) (h2 : j < 2 ^ 64) : CMul i j := .inr ⟨h1, h2⟩
theorem o_mod {i j : Int} (hc : 0 < j) (q : Q (iV (i % j)) O) : OpW K (rI (fun _ j => 0 < j) fun i j => .int (i % j)) (iV i) (iV j) O Q := o_I (C := fun _ j => 0 < j) hc (fun _ => .int _) q
/-- the rest as a letter -/
theorem o_modB {i j : Int} (hc : 0 < j) (q : ∀ n : Int, 0 ≤ n → n < j → n = i % j → Q (iV n) O) : OpW K (rI (fun _ j => 0 < j) fun i j => .int (i % j)) (iV i) (iV j) O Q :=
  o_mod hc (q _ (Int.emod_nonneg _ (by omega)) (Int.emod_lt_of_pos _ hc) rfl)
theorem o_fdiv {i j : Int} (hc : 0 < j ∧ j < 1073741824) (q : Q (iV (i / j)) O) : OpW K (rI CDiv fun i j => .int (i / j)) (iV i) (iV j) O Q := o_I (C := CDiv) hc (fun _ => .int _) q
theorem o_pow {i j : Int} (hc : CPow i j) (q : Q (iV (i ^ j.toNat)) O) : OpW K (rI CPow fun i j => .int (i ^ j.toNat)) (iV i) (iV j) O Q := o_I hc (fun _ => .int _) q
theorem o_lt {i j : Int} (q : Q (bV (decide (i < j))) O) : OpW K (rI0 fun i j => .bl (decide (i < j))) (iV i) (iV j) O Q := o_I0 (fun _ => .bl _) q
theorem o_pow18 (q : Q (iV 1000000000000000000) O) : OpW K (rI CPow fun i j => .int (i ^ j.toNat)) (iV 10) (iV 18) O Q := o_pow ⟨by decide, by decide, by decide⟩ q
theorem o_gt {i j : Int} (q : Q (bV (decide (j < i))) O) : OpW K (rI0 fun i j => .bl (decide (j < i))) (iV i) (iV j) O Q := o_I0 (fun _ => .bl _) q
theorem o_ge {i j : Int} (q : Q (bV (decide (j ≤ i))) O) : OpW K (rI0 fun i j => .bl (decide (j ≤ i))) (iV i) (iV j) O Q := o_I0 (fun _ => .bl _) q
theorem o_le {i j : Int} (q : Q (bV (decide (i ≤ j))) O) : OpW K (rI0 fun i j => .bl (decide (i ≤ j))) (iV i) (iV j) O Q := o_I0 (fun _ => .bl _) q
theorem u_neg {i : Int} (q : Q (iV (-i)) O) : UnW K (rU fun i => .int (-i)) (iV i) O Q := fun Hk H h u hu Q' k => by
  cases (show Da Hk u (.int i) from hu)
  exact ⟨i, rfl, k.now h (r := iV (-i)) (.int _) q⟩
theorem o_eqI {i j : Int} (q : Q (bV (decide (i = j))) O) : OpW K rEq (iV i) (iV j) O Q := fun Hk H h u v hu hv Q' k => by
  cases (show Da Hk u (.int i) from hu)
  cases (show Da Hk v (.int j) from hv)
  refine ⟨rfl, ?_⟩
  have e : decide (V.int i = V.int j) = decide (i = j) := by
    by_cases z : i = j
    · rw [decide_eq_true z, decide_eq_true (congrArg V.int z)]
    · rw [decide_eq_false z, decide_eq_false fun q => z (V.int.inj q)]
  rw [e]
  exact k.now h (r := bV _) (.bl _) q
theorem o_neI {i j : Int} (q : Q (bV (!decide (i = j))) O) : OpW K rNe (iV i) (iV j) O Q := fun Hk H h u v hu hv Q' k => by
  cases (show Da Hk u (.int i) from hu)
  cases (show Da Hk v (.int j) from hv)
  refine ⟨rfl, ?_⟩
  have e : decide (V.int i = V.int j) = decide (i = j) := by
    by_cases z : i = j
    · rw [decide_eq_true z, decide_eq_true (congrArg V.int z)]
    · rw [decide_eq_false z, decide_eq_false fun q => z (V.int.inj q)]
  rw [e]
  exact k.now h (r := bV _) (.bl _) q
theorem o_eqB {i j : Bool} (q : Q (bV (decide (i = j))) O) : OpW K rEq (bV i) (bV j) O Q := fun Hk H h u v hu hv Q' k => by
  cases (show Da Hk u (.bool i) from hu)
  cases (show Da Hk v (.bool j) from hv)
  refine ⟨rfl, ?_⟩
  have e : decide (V.bl i = V.bl j) = decide (i = j) := by
    by_cases z : i = j
    · rw [decide_eq_true z, decide_eq_true (congrArg V.bl z)]
    · rw [decide_eq_false z, decide_eq_false fun q => z (V.bl.inj q)]
  rw [e]
  exact k.now h (r := bV _) (.bl _) q
theorem o_neB {i j : Bool} (q : Q (bV (!decide (i = j))) O) : OpW K rNe (bV i) (bV j) O Q := fun Hk H h u v hu hv Q' k => by
  cases (show Da Hk u (.bool i) from hu)
  cases (show Da Hk v (.bool j) from hv)
  refine ⟨rfl, ?_⟩
  have e : decide (V.bl i = V.bl j) = decide (i = j) := by
    by_cases z : i = j
    · rw [decide_eq_true z, decide_eq_true (congrArg V.bl z)]
    · rw [decide_eq_false z, decide_eq_false fun q => z (V.bl.inj q)]
  rw [e]
  exact k.now h (r := bV _) (.bl _) q
theorem o_isB {i j : Bool} (q : Q (bV (decide (i = j))) O) : OpW K rIsB (bV i) (bV j) O Q := fun Hk H h u v hu hv Q' k => by
  cases (show Da Hk u (.bool i) from hu)
  cases (show Da Hk v (.bool j) from hv)
  exact ⟨i, j, rfl, rfl, k.now h (r := bV _) (.bl _) q⟩
theorem o_notB {i j : Bool} (q : Q (bV (!decide (i = j))) O) : OpW K rNotB (bV i) (bV j) O Q := fun Hk H h u v hu hv Q' k => by
  cases (show Da Hk u (.bool i) from hu)
  cases (show Da Hk v (.bool j) from hv)
  exact ⟨i, j, rfl, rfl, k.now h (r := bV _) (.bl _) q⟩
/-- == and != of data -/
theorem o_eqD {d e : PyData} (h1 : SeqAt.shaped d = true) (h2 : SeqAt.shaped e = true) (q : Q (bV (PyData.eqv d e)) O) : OpW K (rEqD K) (.dat d) (.dat e) O Q := fun Hk H h u v hu hv Q' k =>
  ⟨d, e, (Da.mono h.kn hu).dp, (Da.mono h.kn hv).dp, h1, h2, k.now h (r := bV _) (.bl _) q⟩
theorem o_neD {d e : PyData} (h1 : SeqAt.shaped d = true) (h2 : SeqAt.shaped e = true) (q : Q (bV (!PyData.eqv d e)) O) : OpW K (rNeD K) (.dat d) (.dat e) O Q := fun Hk H h u v hu hv Q' k =>
  ⟨d, e, (Da.mono h.kn hu).dp, (Da.mono h.kn hv).dp, h1, h2, k.now h (r := bV _) (.bl _) q⟩
/-- an item of a tuple, of a list of data, of an owned list -/
theorem atI_get {α : Type} {xs : List α} {i : Int} {v : α} (h : atI xs i = some v) : ∃ j : Nat, ixN xs.length i = some j ∧ xs[j]? = some v := by
  unfold atI at h
  cases e : ixN xs.length i with
  | none => rw [e] at h; cases h
  | some j => rw [e] at h; exact ⟨j, rfl, h⟩
theorem atI_of {α : Type} {xs : List α} {i : Int} {v : α} {j : Nat} (h1 : ixN xs.length i = some j) (h2 : xs[j]? = some v) : atI xs i = some v := by
  unfold atI
  rw [h1]
  exact h2
theorem o_ixT {es : List PyData} {i : Int} {d : PyData} (ha : atI es i = some d) (q : Q (.dat d) O) : OpW K (rIxT K) (.dat (.tuple es)) (iV i) O Q := fun Hk H h u v hu hv Q' k => by
  cases (show Da Hk v (.int i) from hv)
  cases (show Da Hk u (.tuple es) from hu) with
  | tup h1 h2 =>
    obtain ⟨j, e1, e2⟩ := atI_get ha
    obtain ⟨w, g1, g2⟩ := h2.get e2
    exact ⟨_, _, i, w, rfl, rfl, .inl (.inl (h.kn _ _ h1)), atI_of (by rw [h2.length]; exact e1) g1, k.now h (r := .dat d) g2 q⟩
theorem o_ixL {es : List PyData} {i : Int} {d : PyData} (ha : atI es i = some d) (q : Q (.dat d) O) : OpW K (rIxL K) (.dat (.list es)) (iV i) O Q := fun Hk H h u v hu hv Q' k => by
  cases (show Da Hk v (.int i) from hv)
  cases (show Da Hk u (.list es) from hu) with
  | lst h1 h2 =>
    obtain ⟨j, e1, e2⟩ := atI_get ha
    obtain ⟨w, g1, g2⟩ := h2.get e2
    exact ⟨_, _, i, w, rfl, rfl, .inl (.inl (h.kn _ _ h1)), atI_of (by rw [h2.length]; exact e1) g1, k.now h (r := .dat d) g2 q⟩
theorem atI_in {α : Type} {xs : List α} {i : Int} (h0 : 0 ≤ i) (h1 : i < xs.length) : ∃ v, atI xs i = some v ∧ xs[i.toNat]? = some v ∧ v ∈ xs := by
  obtain ⟨j, rfl⟩ : ∃ j : Nat, i = (j : Int) := ⟨i.toNat, by omega⟩
  have hj : j < xs.length := by omega
  refine ⟨xs[j], atI_nat (List.getElem?_eq_getElem hj), ?_, List.getElem_mem hj⟩
  rw [Int.toNat_natCast]
  exact List.getElem?_eq_getElem hj
/-- an item at a place that is not known -/
theorem o_pickL {es : List PyData} {i : Int} (h0 : 0 ≤ i) (h1 : i < es.length) (q : ∀ d, d ∈ es → Q (.dat d) O) : OpW K (rIxL K) (.dat (.list es)) (iV i) O Q := by
  obtain ⟨d, h, _, hm⟩ := atI_in h0 h1
  exact o_ixL h (q d hm)
theorem o_pickT {es : List PyData} {i : Int} (h0 : 0 ≤ i) (h1 : i < es.length) (q : ∀ d, d ∈ es → Q (.dat d) O) : OpW K (rIxT K) (.dat (.tuple es)) (iV i) O Q := by
  obtain ⟨d, h, _, hm⟩ := atI_in h0 h1
  exact o_ixT h (q d hm)
/-- an item of ints -/
theorem o_nthL {ns : List Int} {i : Int} (h0 : 0 ≤ i) (h1 : i < ns.length) (q : Q (iV (ns.getD i.toNat 0)) O) : OpW K (rIxL K) (.dat (lI ns)) (iV i) O Q := by
  obtain ⟨d, h, e, hm⟩ := atI_in (xs := ns.map PyData.int) h0 (by rw [List.length_map]; exact h1)
  rw [List.getElem?_map] at e
  refine o_ixL h ?_
  cases z : ns[i.toNat]? with
  | none => rw [z] at e; cases e
  | some n =>
    rw [z] at e
    cases e
    rw [List.getD_eq_getElem?_getD, z] at q
    exact q
theorem o_nthT {ns : List Int} {i : Int} (h0 : 0 ≤ i) (h1 : i < ns.length) (q : Q (iV (ns.getD i.toNat 0)) O) : OpW K (rIxT K) (.dat (tI ns)) (iV i) O Q := by
  obtain ⟨d, h, e, hm⟩ := atI_in (xs := ns.map PyData.int) h0 (by rw [List.length_map]; exact h1)
  rw [List.getElem?_map] at e
  refine o_ixT h ?_
  cases z : ns[i.toNat]? with
  | none => rw [z] at e; cases e
  | some n =>
    rw [z] at e
    cases e
    rw [List.getD_eq_getElem?_getD, z] at q
    exact q
theorem o_pickI {ns : List Int} {i : Int} (h0 : 0 ≤ i) (h1 : i < ns.length) (q : ∀ v, v ∈ ns → Q (iV v) O) : OpW K (rIxL K) (.dat (lI ns)) (iV i) O Q :=
  o_pickL h0 (by rw [List.length_map]; exact h1) fun d hd => by
    obtain ⟨v, hv, rfl⟩ := List.mem_map.mp hd
    exact q v hv
theorem o_pickIT {ns : List Int} {i : Int} (h0 : 0 ≤ i) (h1 : i < ns.length) (q : ∀ v, v ∈ ns → Q (iV v) O) : OpW K (rIxT K) (.dat (tI ns)) (iV i) O Q :=
  o_pickT h0 (by rw [List.length_map]; exact h1) fun d hd => by
    obtain ⟨v, hv, rfl⟩ := List.mem_map.mp hd
    exact q v hv
theorem o_ixO {a : Addr} {rs : List SD} {i : Int} {d : SD} (hm : (a, OD.lst rs) ∈ O) (ha : atI rs i = some d) (q : Q d O) : OpW K (rIxL K) (.ad a) (iV i) O Q := fun Hk H h u v hu hv Q' k => by
  cases (show Da Hk v (.int i) from hv)
  cases (show u = .ref a from hu)
  obtain ⟨⟨vs, h1, h2⟩, _⟩ := h.ow _ hm
  obtain ⟨j, e1, e2⟩ := atI_get ha
  obtain ⟨w, g1, g2⟩ := h2.get e2
  exact ⟨a, vs, i, w, rfl, rfl, .inl (.inl h1), atI_of (by rw [h2.length]; exact e1) g1, k.now h g2 q⟩
end
end Wk
namespace Wk
open PySem PySem.Spec PyProof.Rows L2
section
variable {K : PySem.W.Frag} {Hk Hk' H H' : Hp} {O O' : Own} {ds : List SD} {σ : L2.St} {Q : SD → Own → Prop} {Q' : VK} {r : R2} {x y : SD} {A : AE} {D : Ends}
theorem w_ty {n : String} (q : Q (.ty n) O) : EvW K (tC (.ty n)) O ds Q := fun Hk σ H p Q' k => k.now p.hold (r := .ty n) rfl q
theorem w_ref {a : Addr} (q : Q (.ad a) O) : EvW K (tC (.ref a)) O ds Q := fun Hk σ H p Q' k => k.now p.hold (r := .ad a) rfl q
/-! ### built-ins by values -/
theorem all1 {H : Hp} {us : List V} {a : SD} (h : SDall K H us [a]) : ∃ u, us = [u] ∧ SDok K H u a := by
  cases h with
  | cons h r => cases r; exact ⟨_, rfl, h⟩
theorem all2 {H : Hp} {us : List V} {a b : SD} (h : SDall K H us [a, b]) : ∃ u v, us = [u, v] ∧ SDok K H u a ∧ SDok K H v b := by
  cases h with
  | cons h r => obtain ⟨v, rfl, hv⟩ := all1 r; exact ⟨_, v, rfl, h, hv⟩
theorem c_lenT {es : List PyData} (q : Q (iV es.length) O) : CbW K (fun xs H Q => ∃ p ys, xs = [.ref p] ∧ (SqL K H p ys ∨ SqT K H p ys) ∧ Q (.int ys.length) H) [.dat (.tuple es)] O Q := fun Hk H h us hus Q' k => by
  obtain ⟨u, rfl, hu⟩ := all1 hus
  cases (show Da Hk u (.tuple es) from hu) with
  | @tup a xs _ h1 h2 =>
    refine ⟨_, _, rfl, .inr (.inl (.inl (h.kn _ _ h1))), ?_⟩
    rw [h2.length]
    exact k.now h (r := iV _) (.int _) q
theorem c_lenL {es : List PyData} (q : Q (iV es.length) O) : CbW K (fun xs H Q => ∃ p ys, xs = [.ref p] ∧ (SqL K H p ys ∨ SqT K H p ys) ∧ Q (.int ys.length) H) [.dat (.list es)] O Q := fun Hk H h us hus Q' k => by
  obtain ⟨u, rfl, hu⟩ := all1 hus
  cases (show Da Hk u (.list es) from hu) with
  | @lst a xs _ h1 h2 =>
    refine ⟨_, _, rfl, .inl (.inl (.inl (h.kn _ _ h1))), ?_⟩
    rw [h2.length]
    exact k.now h (r := iV _) (.int _) q
theorem c_lenO {a : Addr} {rs : List SD} (hm : (a, OD.lst rs) ∈ O) (q : Q (iV rs.length) O) : CbW K (fun xs H Q => ∃ p ys, xs = [.ref p] ∧ (SqL K H p ys ∨ SqT K H p ys) ∧ Q (.int ys.length) H) [.ad a] O Q := fun Hk H h us hus Q' k => by
  obtain ⟨u, rfl, hu⟩ := all1 hus
  cases (show u = .ref a from hu)
  obtain ⟨⟨vs, h1, h2⟩, _⟩ := h.ow _ hm
  refine ⟨_, _, rfl, .inl (.inl (.inl h1)), ?_⟩
  rw [h2.length]
  exact k.now h (r := iV _) (.int _) q
theorem c_lenS {ns : List Int} (q : Q (iV ns.length) O) : CbW K (fun xs H Q => ∃ p ys, xs = [.ref p] ∧ (SqL K H p ys ∨ SqT K H p ys) ∧ Q (.int ys.length) H) [.scr ns] O Q := fun Hk H h us hus Q' k => by
  obtain ⟨u, rfl, hu⟩ := all1 hus
  obtain ⟨a, rfl, hs⟩ := hu
  refine ⟨_, _, rfl, .inl (h.kn.seq hs), ?_⟩
  rw [List.length_map]
  exact k.now h (r := iV _) (.int _) q
theorem c_max2 {i j : Int} (q : Q (iV (max i j)) O) : CbW K (fun xs H Q => ∃ i j, xs = [.int i, .int j] ∧ Q (.int (if j > i then j else i)) H) [iV i, iV j] O Q := fun Hk H h us hus Q' k => by
  obtain ⟨u, v, rfl, hu, hv⟩ := all2 hus
  cases (show Da Hk u (.int i) from hu)
  cases (show Da Hk v (.int j) from hv)
  refine ⟨i, j, rfl, ?_⟩
  rw [show (if j > i then j else i) = max i j by split <;> omega]
  exact k.now h (r := iV _) (.int _) q
theorem c_min2 {i j : Int} (q : Q (iV (min i j)) O) : CbW K (fun xs H Q => ∃ i j, xs = [.int i, .int j] ∧ Q (.int (if j < i then j else i)) H) [iV i, iV j] O Q := fun Hk H h us hus Q' k => by
  obtain ⟨u, v, rfl, hu, hv⟩ := all2 hus
  cases (show Da Hk u (.int i) from hu)
  cases (show Da Hk v (.int j) from hv)
  refine ⟨i, j, rfl, ?_⟩
  rw [show (if j < i then j else i) = min i j by split <;> omega]
  exact k.now h (r := iV _) (.int _) q
theorem c_int {i : Int} (q : Q (iV i) O) : CbW K (fun xs H Q => (∃ i, xs = [.int i] ∧ Q (.int i) H) ∨ ∃ k, xs = [.bl k] ∧ Q (.int (if k then 1 else 0)) H) [iV i] O Q := fun Hk H h us hus Q' k => by
  obtain ⟨u, rfl, hu⟩ := all1 hus
  cases (show Da Hk u (.int i) from hu)
  exact .inl ⟨i, rfl, k.now h (r := iV _) (.int _) q⟩
theorem c_intB {i : Bool} (q : Q (iV (if i then 1 else 0)) O) : CbW K (fun xs H Q => (∃ i, xs = [.int i] ∧ Q (.int i) H) ∨ ∃ k, xs = [.bl k] ∧ Q (.int (if k then 1 else 0)) H) [bV i] O Q := fun Hk H h us hus Q' k => by
  obtain ⟨u, rfl, hu⟩ := all1 hus
  cases (show Da Hk u (.bool i) from hu)
  exact .inr ⟨i, rfl, k.now h (r := iV _) (.int _) q⟩
theorem c_sum {ns : List Int} (q : Q (iV ns.sum) O) : CbW K (rSum K) [.dat (lI ns)] O Q := fun Hk H h us hus Q' k => by
  obtain ⟨u, rfl, hu⟩ := all1 hus
  cases (show Da Hk u (lI ns) from hu) with
  | @lst a xs _ h1 h2 =>
    rw [h2.ints] at h1
    exact ⟨_, ns, rfl, .inl (.inl (h.kn _ _ h1)), k.now h (r := iV _) (.int _) q⟩
theorem c_max {ns : List Int} (hn : 0 < ns.length) (q : ∀ m, m ∈ ns → (∀ y ∈ ns, y ≤ m) → Q (iV m) O) : CbW K (rMax K) [.dat (lI ns)] O Q := fun Hk H h us hus Q' k => by
  obtain ⟨u, rfl, hu⟩ := all1 hus
  cases (show Da Hk u (lI ns) from hu) with
  | @lst a xs _ h1 h2 =>
    rw [h2.ints] at h1
    exact ⟨_, ns, rfl, .inl (.inl (h.kn _ _ h1)), hn, fun m hm hl => k.now h (r := iV _) (.int _) (q m hm hl)⟩
/-- sorted, the list that comes is data; ordered ascending -/
theorem c_sorted {ns : List Int} (q : ∀ ms : List Int, ms.Perm ns → ms.Pairwise (· ≤ ·) → Q (.dat (lI ms)) O) : CbW K (rSortedI K) [.dat (lI ns)] O Q := fun Hk H h us hus Q' k => by
  obtain ⟨u, rfl, hu⟩ := all1 hus
  cases (show Da Hk u (lI ns) from hu) with
  | @lst a xs _ h1 h2 =>
    rw [h2.ints] at h1
    refine ⟨_, ns, rfl, .inl (.inl (h.kn _ _ h1)), fun ms p hp hs hf => ?_⟩
    have sm : Same Hk (upd Hk p (.lst (ms.map V.int))) := same_new (h.kn.free hf)
    exact k _ (.dat (lI ms)) O _ _ sm (h.know hf) (.lst upd_same (DaAll.of_ints ms)) (q ms hp hs)
/-- tuple(list), tuple(tuple), list(tuple), list(list): as data -/
theorem c_tupL {es : List PyData} (q : Q (.dat (.tuple es)) O) : CbW K (fun xs H Q => ∃ p ys, xs = [.ref p] ∧ ((SqL K H p ys ∧ ∀ l, H l = none → Q (.ref l) (upd H l (.tup ys))) ∨ (SqT K H p ys ∧ Q (.ref p) H))) [.dat (.list es)] O Q := fun Hk H h us hus Q' k => by
  obtain ⟨u, rfl, hu⟩ := all1 hus
  cases (show Da Hk u (.list es) from hu) with
  | @lst a xs _ h1 h2 =>
    refine ⟨_, _, rfl, .inl ⟨.inl (.inl (h.kn _ _ h1)), fun l hf => ?_⟩⟩
    have sm := same_new (o := .tup xs) (h.kn.free hf)
    exact k _ (.dat (.tuple es)) O _ _ sm (h.know hf) (.tup upd_same (DaAll.mono sm h2)) q
theorem c_tupT {es : List PyData} (q : Q (.dat (.tuple es)) O) : CbW K (fun xs H Q => ∃ p ys, xs = [.ref p] ∧ ((SqL K H p ys ∧ ∀ l, H l = none → Q (.ref l) (upd H l (.tup ys))) ∨ (SqT K H p ys ∧ Q (.ref p) H))) [.dat (.tuple es)] O Q := fun Hk H h us hus Q' k => by
  obtain ⟨u, rfl, hu⟩ := all1 hus
  have hu' := hu
  cases (show Da Hk u (.tuple es) from hu) with
  | @tup a xs _ h1 h2 => exact ⟨_, _, rfl, .inr ⟨.inl (.inl (h.kn _ _ h1)), k.now h (r := .dat (.tuple es)) hu' q⟩⟩
theorem c_listT {es : List PyData} (q : Q (.dat (.list es)) O) : CbW K (fun xs H Q => ∃ p ys, xs = [.ref p] ∧ (SqL K H p ys ∨ SqT K H p ys) ∧ ∀ l, H l = none → Q (.ref l) (upd H l (.lst ys))) [.dat (.tuple es)] O Q := fun Hk H h us hus Q' k => by
  obtain ⟨u, rfl, hu⟩ := all1 hus
  cases (show Da Hk u (.tuple es) from hu) with
  | @tup a xs _ h1 h2 =>
    refine ⟨_, _, rfl, .inr (.inl (.inl (h.kn _ _ h1))), fun l hf => ?_⟩
    have sm := same_new (o := .lst xs) (h.kn.free hf)
    exact k _ (.dat (.list es)) O _ _ sm (h.know hf) (.lst upd_same (DaAll.mono sm h2)) q
theorem c_listL {es : List PyData} (q : Q (.dat (.list es)) O) : CbW K (fun xs H Q => ∃ p ys, xs = [.ref p] ∧ (SqL K H p ys ∨ SqT K H p ys) ∧ ∀ l, H l = none → Q (.ref l) (upd H l (.lst ys))) [.dat (.list es)] O Q := fun Hk H h us hus Q' k => by
  obtain ⟨u, rfl, hu⟩ := all1 hus
  cases (show Da Hk u (.list es) from hu) with
  | @lst a xs _ h1 h2 =>
    refine ⟨_, _, rfl, .inl (.inl (.inl (h.kn _ _ h1))), fun l hf => ?_⟩
    have sm := same_new (o := .lst xs) (h.kn.free hf)
    exact k _ (.dat (.list es)) O _ _ sm (h.know hf) (.lst upd_same (DaAll.mono sm h2)) q
/-- .. as a list that is owned -/
theorem c_listTO {es : List PyData} (q : ∀ l, Q (.ad l) ((l, .lst (es.map .dat)) :: O)) : CbW K (fun xs H Q => ∃ p ys, xs = [.ref p] ∧ (SqL K H p ys ∨ SqT K H p ys) ∧ ∀ l, H l = none → Q (.ref l) (upd H l (.lst ys))) [.dat (.tuple es)] O Q := fun Hk H h us hus Q' k => by
  obtain ⟨u, rfl, hu⟩ := all1 hus
  cases (show Da Hk u (.tuple es) from hu) with
  | @tup a xs _ h1 h2 => exact ⟨_, _, rfl, .inr (.inl (.inl (h.kn _ _ h1))), fun l hf => k _ (.ad l) _ Hk _ (Same.refl _) (h.own hf (SDall.of_dats h2)) rfl (q l)⟩
theorem c_listLO {es : List PyData} (q : ∀ l, Q (.ad l) ((l, .lst (es.map .dat)) :: O)) : CbW K (fun xs H Q => ∃ p ys, xs = [.ref p] ∧ (SqL K H p ys ∨ SqT K H p ys) ∧ ∀ l, H l = none → Q (.ref l) (upd H l (.lst ys))) [.dat (.list es)] O Q := fun Hk H h us hus Q' k => by
  obtain ⟨u, rfl, hu⟩ := all1 hus
  cases (show Da Hk u (.list es) from hu) with
  | @lst a xs _ h1 h2 => exact ⟨_, _, rfl, .inl (.inl (.inl (h.kn _ _ h1))), fun l hf => k _ (.ad l) _ Hk _ (Same.refl _) (h.own hf (SDall.of_dats h2)) rfl (q l)⟩
/-- the type of data -/
def tyD : PyData → String
  | .none => "NoneType" | .bool _ => "bool" | .int _ => "int" | .str _ => "str" | .list _ => "list" | .tuple _ => "tuple" | .dict _ => "dict"
theorem tyX_of {v : V} {d : PyData} (h : Da H v d) : TyX K H v (.type (tyD d)) := by
  cases h with
  | non => exact .base .non
  | bl b => exact .base (.bl b)
  | int b => exact .base (.int b)
  | str b => exact .base (.str b)
  | lst h1 _ => exact .base (.lst h1)
  | tup h1 _ => exact .base (.tup h1)
theorem c_isi {d : PyData} {n : String} {b : Bool} (hb : kitB (tyD d) n = some b) (q : Q (bV b) O) : CbW K (rIsi K) [.dat d, .ty n] O Q := fun Hk H h us hus Q' k => by
  obtain ⟨u, v, rfl, hu, hv⟩ := all2 hus
  cases (show v = .ty n from hv)
  exact ⟨u, .ty n, _, _, b, rfl, .ty n, tyX_of (Da.mono h.kn hu), kit_ty hb, k.now h (r := bV _) (.bl _) q⟩
theorem c_isiO {a : Addr} {rs : List SD} {n : String} {b : Bool} (hm : (a, OD.lst rs) ∈ O) (hb : kitB "list" n = some b) (q : Q (bV b) O) : CbW K (rIsi K) [.ad a, .ty n] O Q := fun Hk H h us hus Q' k => by
  obtain ⟨u, v, rfl, hu, hv⟩ := all2 hus
  cases (show v = .ty n from hv)
  cases (show u = .ref a from hu)
  obtain ⟨⟨vs, h1, h2⟩, _⟩ := h.ow _ hm
  exact ⟨_, .ty n, _, _, b, rfl, .ty n, .base (.lst h1), kit_ty hb, k.now h (r := bV _) (.bl _) q⟩
/-! ### reversal, slices, sums of sequences -/
theorem w_rev {te : TE} (h : EvW K te O ds fun r O1 => ∃ es : List PyData, r = .dat (.list es) ∧ Q (.dat (.list es.reverse)) O1) : EvW K (tRevL K te) O ds Q := fun Hk σ H p Q' k =>
  h Hk σ H p _ fun v r O1 Hk1 H1 e1 h1 s1 q1 => by
    obtain ⟨es, rfl, q⟩ := q1
    cases (show Da Hk1 v (.list es) from s1) with
    | @lst a xs _ g1 g2 =>
      refine ⟨_, _, rfl, .inl (.inl (h1.kn _ _ g1)), fun l hf => ?_⟩
      have sm := same_new (o := .lst xs.reverse) (h1.kn.free hf)
      exact k _ (.dat (.list es.reverse)) O1 _ _ (e1.trans sm) (h1.know hf) (.lst upd_same (DaAll.mono sm g2.reverse)) q
def cut {α : Type} (xs : List α) (lo hi : Option Int) : List α := (xs.drop (HT.sIx xs.length 0 lo)).take (HT.sIx xs.length xs.length hi - HT.sIx xs.length 0 lo)
theorem DaAll.cut {vs : List V} {es : List PyData} (h : DaAll H vs es) (lo hi : Option Int) : DaAll H (cutV vs lo hi) (cut es lo hi) := by
  unfold cutV Wk.cut
  rw [h.length]
  exact (h.drop _).take _
theorem w_sl {r : V → Option Int → Option Int → Hp → VK → Prop} {te : TE} {tl th : TO} (h : EvW K te O ds fun x O1 => IvW K tl O1 ds fun lo O2 => IvW K th O2 ds fun hi O3 => SlW K r x lo hi O3 Q) : EvW K (tSl r te tl th) O ds Q := fun Hk σ H p Q' k =>
  h Hk σ H p _ fun v x O1 Hk1 H1 e1 h1 s1 q1 => q1 Hk1 σ H1 (p.ext e1 h1) _ fun lo O2 Hk2 H2 e2 h2 q2 => q2 Hk2 σ H2 ((p.ext e1 h1).ext e2 h2) _ fun hi O3 Hk3 H3 e3 h3 q3 =>
    q3 Hk3 H3 h3 v (s1.mono (e2.trans e3)) Q' (k.ext (e1.trans (e2.trans e3)))
theorem i_none {Q : Option Int → Own → Prop} (q : Q none O) : IvW K tNoPart O ds Q := fun Hk σ H p Q' k => k none O Hk H (Same.refl _) p.hold q
theorem i_some {te : TE} {Q : Option Int → Own → Prop} (h : EvW K te O ds fun r O1 => ∃ i, r = iV i ∧ Q (some i) O1) : IvW K (tPart te) O ds Q := fun Hk σ H p Q' k =>
  h Hk σ H p _ fun v r O1 Hk1 H1 e1 h1 s1 q1 => by
    obtain ⟨i, rfl, q⟩ := q1
    cases (show Da Hk1 v (.int i) from s1)
    exact ⟨i, rfl, k (some i) O1 Hk1 H1 e1 h1 q⟩
theorem sl_L {es : List PyData} {lo hi : Option Int} (q : Q (.dat (.list (cut es lo hi))) O) : SlW K (rSlL K) (.dat (.list es)) lo hi O Q := fun Hk H h u hu Q' k => by
  cases (show Da Hk u (.list es) from hu) with
  | @lst a xs _ h1 h2 =>
    refine ⟨_, _, rfl, .inl (.inl (h.kn _ _ h1)), fun l hf => ?_⟩
    have sm := same_new (o := .lst (cutV xs lo hi)) (h.kn.free hf)
    exact k _ (.dat (.list (cut es lo hi))) O _ _ sm (h.know hf) (.lst upd_same (DaAll.mono sm (h2.cut lo hi))) q
theorem cut_whole {α : Type} {xs : List α} {lo hi : Option Int} (h : HT.sIx xs.length 0 lo = 0 ∧ HT.sIx xs.length xs.length hi = xs.length) : cut xs lo hi = xs := by
  unfold cut
  rw [h.1, h.2]
  simp
theorem sl_T {es : List PyData} {lo hi : Option Int} (q : Q (.dat (.tuple (cut es lo hi))) O) : SlW K (rSlA K) (.dat (.tuple es)) lo hi O Q := fun Hk H h u hu Q' k => by
  have hu' := hu
  cases (show Da Hk u (.tuple es) from hu) with
  | @tup a xs _ h1 h2 =>
    refine ⟨_, _, rfl, .inl (.inl (h.kn _ _ h1)), fun hw => ?_, fun hw l hf => ?_⟩
    · rw [h2.length] at hw
      rw [cut_whole hw] at q
      exact k.now h (r := .dat (.tuple es)) hu' q
    · have sm := same_new (o := .tup (cutV xs lo hi)) (h.kn.free hf)
      exact k _ (.dat (.tuple (cut es lo hi))) O _ _ sm (h.know hf) (.tup upd_same (DaAll.mono sm (h2.cut lo hi))) q
theorem o_catT {es fs : List PyData} (hz : es.length + fs.length ≤ sizeLine) (q : Q (.dat (.tuple (es ++ fs))) O) : OpW K (rCatA K) (.dat (.tuple es)) (.dat (.tuple fs)) O Q := fun Hk H h u v hu hv Q' k => by
  have hu' := hu
  have hv' := hv
  cases (show Da Hk u (.tuple es) from hu) with
  | @tup a xs _ h1 h2 =>
    cases (show Da Hk v (.tuple fs) from hv) with
    | @tup b ys _ g1 g2 =>
      refine ⟨a, b, xs, ys, rfl, rfl, .inl (.inl (h.kn _ _ h1)), .inl (.inl (h.kn _ _ g1)), by rw [h2.length, g2.length]; exact hz, fun e => ?_, fun _ e => ?_, fun _ _ l hf => ?_⟩
      · subst e
        have e2 : es = [] := by cases h2; rfl
        subst e2
        exact k.now h (r := .dat (.tuple _)) hv' q
      · subst e
        have e2 : fs = [] := by cases g2; rfl
        subst e2
        rw [List.append_nil] at q
        exact k.now h (r := .dat (.tuple _)) hu' q
      · have sm := same_new (o := .tup (xs ++ ys)) (h.kn.free hf)
        exact k _ (.dat (.tuple (es ++ fs))) O _ _ sm (h.know hf) (.tup upd_same (DaAll.mono sm (h2.append g2))) q
theorem o_catL {es fs : List PyData} (hz : es.length + fs.length ≤ sizeLine) (q : Q (.dat (.list (es ++ fs))) O) : OpW K rCat (.dat (.list es)) (.dat (.list fs)) O Q := fun Hk H h u v hu hv Q' k => by
  cases (show Da Hk u (.list es) from hu) with
  | @lst a xs _ h1 h2 =>
    cases (show Da Hk v (.list fs) from hv) with
    | @lst b ys _ g1 g2 =>
      refine ⟨a, b, xs, ys, rfl, rfl, h.kn _ _ h1, h.kn _ _ g1, by rw [h2.length, g2.length]; exact hz, fun l hf => ?_⟩
      have sm := same_new (o := .lst (xs ++ ys)) (h.kn.free hf)
      exact k _ (.dat (.list (es ++ fs))) O _ _ sm (h.know hf) (.lst upd_same (DaAll.mono sm (h2.append g2))) q
theorem DaAll.rep {vs : List V} {es : List PyData} (h : DaAll H vs es) : ∀ n : Nat, DaAll H (List.replicate n vs).flatten (List.replicate n es).flatten
  | 0 => .nil
  | n + 1 => by
    rw [List.replicate_succ, List.replicate_succ, List.flatten_cons, List.flatten_cons]
    exact h.append (DaAll.rep h n)
/-! ### methods: append -/
def TyW (K : PySem.W.Frag) (T : String) (x : SD) (O : Own) : Prop := ∀ Hk H, Hold K Hk O H → ∀ u, SDok K Hk u x → tyV K T u H
theorem w_bm {T : String} {r : V → List V → Hp → VK → Prop} {to : TE} {ta : TA} (h : EvW K to O ds fun x O1 => TyW K T x O1 ∧ AvW K ta O1 ds fun rs O2 => MbW K r x rs O2 Q) : EvW K (tBM K T r to ta) O ds Q := fun Hk σ H p Q' k =>
  h Hk σ H p _ fun v x O1 Hk1 H1 e1 h1 s1 q1 => ⟨q1.1 Hk1 H1 h1 v s1, q1.2 Hk1 σ H1 (p.ext e1 h1) _ fun vs rs O2 Hk2 H2 e2 h2 s2 q2 => q2 Hk2 H2 h2 v vs (s1.mono e2) s2 Q' (k.ext (e1.trans e2))⟩
theorem ty_own {a : Addr} {rs : List SD} (hm : (a, OD.lst rs) ∈ O) : TyW K "list" (.ad a) O := fun Hk H h u hu => by
  cases (show u = .ref a from hu)
  obtain ⟨⟨vs, h1, h2⟩, _⟩ := h.ow _ hm
  exact .inl ⟨rfl, vs, .inl (.inl h1)⟩
theorem m_app {a : Addr} {rs : List SD} {x : SD} {Oa : Own} (hp : O.Perm ((a, OD.lst rs) :: Oa)) (hz : rs.length < sizeLine) (q : Q (.dat .none) ((a, .lst (rs ++ [x])) :: Oa)) : MbW K rAppend (.ad a) [x] O Q := fun Hk H h u us hu hus Q' k => by
  cases (show u = .ref a from hu)
  obtain ⟨v, rfl, hv⟩ := all1 hus
  have h' := h.perm hp
  obtain ⟨⟨vs, h1, h2⟩, _⟩ := h'.ow _ List.mem_cons_self
  refine ⟨a, vs, v, rfl, rfl, h1, by rw [h2.length]; exact hz, ?_⟩
  exact k _ (.dat .none) _ Hk _ (Same.refl _) (h'.write (h2.append (.cons hv .nil))) .non q
theorem m_app0 {a : Addr} {rs : List SD} {x : SD} {Oa : Own} (hz : rs.length ≤ 100000) (q : Q (.dat .none) ((a, .lst (rs ++ [x])) :: Oa)) : MbW K rAppend (.ad a) [x] ((a, OD.lst rs) :: Oa) Q := m_app (.refl _) (Nat.lt_of_le_of_lt hz (by decide)) q
theorem mb_perm {r : V → List V → Hp → VK → Prop} {xs : List SD} (h : MbW K r x xs O fun r O1 => ∃ O2, O1.Perm O2 ∧ Q r O2) : MbW K r x xs O Q := fun Hk H hh u us hu hus Q' k =>
  h Hk H hh u us hu hus Q' fun v r O2 Hk2 H2 e h2 s q => by
    obtain ⟨O3, hp, q⟩ := q
    exact k v r O3 Hk2 H2 e (h2.perm hp) s q
theorem m_app1 {a : Addr} {rs : List SD} {x : SD} {b : Addr × OD} {Oa : Own} (hz : rs.length ≤ 100000) (q : Q (.dat .none) (b :: (a, .lst (rs ++ [x])) :: Oa)) : MbW K rAppend (.ad a) [x] (b :: (a, OD.lst rs) :: Oa) Q :=
  mb_perm (m_app (.swap ..) (Nat.lt_of_le_of_lt hz (by decide)) ⟨_, .swap .., q⟩)
theorem m_app2 {a : Addr} {rs : List SD} {x : SD} {b c : Addr × OD} {Oa : Own} (hz : rs.length ≤ 100000) (q : Q (.dat .none) (b :: c :: (a, .lst (rs ++ [x])) :: Oa)) : MbW K rAppend (.ad a) [x] (b :: c :: (a, OD.lst rs) :: Oa) Q :=
  mb_perm (m_app ((List.Perm.swap (a, OD.lst rs) c Oa).cons b |>.trans (.swap ..)) (Nat.lt_of_le_of_lt hz (by decide)) ⟨_, (List.Perm.swap b (a, OD.lst (rs ++ [x])) (c :: Oa)).trans ((List.Perm.swap c (a, OD.lst (rs ++ [x])) Oa).cons b), q⟩)
end
end Wk
namespace Wk
open PySem PySem.Spec PyProof.Rows L2
section
variable {K : PySem.W.Frag} {Hk Hk' H H' : Hp} {O O' : Own} {ds : List SD} {σ : L2.St} {Q : SD → Own → Prop} {Q' : VK} {r : R2} {x y : SD} {A : AE} {D : Ends} {t u : TS} {te : TE} {tc : TT}
/-! ### statements -/
theorem s_next (h : A.nx O ds) : StW K tNext O ds A := fun Hk σ H D p l => l.nx O ds Hk σ H (Same.refl _) p h
theorem s_cont (h : A.ct O ds) : StW K tCont O ds A := fun Hk σ H D p l => l.ct O ds Hk σ H (Same.refl _) p h
theorem s_break (h : A.bk O ds) : StW K tBreak O ds A := fun Hk σ H D p l => l.bk O ds Hk σ H (Same.refl _) p h
theorem s_seq (h : StW K t O ds ⟨fun O1 ds1 => StW K u O1 ds1 A, A.rt, A.bk, A.ct, A.xt⟩) : StW K (tSeq t u) O ds A := fun Hk σ H D p l =>
  h Hk σ H _ p ⟨fun O2 ds2 Hk2 σ2 H2 e p2 q => q Hk2 σ2 H2 D p2 (l.ext e), l.rt, l.bk, l.ct, l.xt⟩
theorem s_asg {i : Nat} (h : EvW K te O ds fun r O1 => A.nx O1 (ds.set i r)) : StW K (tAsg te (gName i)) O ds A := fun Hk σ H D p l =>
  h Hk σ H p _ fun v r O1 Hk1 H1 e1 h1 s1 q1 => l.nx O1 _ Hk1 _ H1 e1 ((p.ext e1 h1).set s1) q1
theorem s_ret (h : EvW K te O ds A.rt) : StW K (tRet te) O ds A := fun Hk σ H D p l => h Hk σ H p _ l.rt
theorem s_retN (h : A.rt (.dat .none) O) : StW K tRetN O ds A := fun Hk σ H D p l => l.rt.now p.hold (r := .dat .none) .non h
theorem s_drop (h : EvW K te O ds fun _ O1 => A.nx O1 ds) : StW K (tDrop te) O ds A := fun Hk σ H D p l =>
  h Hk σ H p _ fun v r O1 Hk1 H1 e1 h1 s1 q1 => l.nx O1 ds Hk1 σ H1 e1 (p.ext e1 h1) q1
theorem s_if (h : TvW K tc O ds fun b O1 => (b = true → StW K t O1 ds A) ∧ (b = false → StW K u O1 ds A)) : StW K (tIfS tc t u) O ds A := fun Hk σ H D p l =>
  h Hk σ H p _ fun b O1 Hk1 H1 e1 h1 q1 => by
    cases b with
    | true => exact iteT (q1.1 rfl Hk1 σ H1 D (p.ext e1 h1) (l.ext e1))
    | false => exact iteF (q1.2 rfl Hk1 σ H1 D (p.ext e1 h1) (l.ext e1))
abbrev Own.P (O O' : Own) : Prop := O.Perm O'
/-- xs[i] = e, the list owned -/
theorem s_setL {to ti : TE} (h : EvW K te O ds fun r O1 => EvW K to O1 ds fun ro O2 => EvW K ti O2 ds fun ri O3 =>
    ∃ a k rs j Oa O4, ro = .ad a ∧ ri = iV k ∧ O3.Perm ((a, .lst rs) :: Oa) ∧ ixN rs.length k = some j ∧ Own.P ((a, .lst (rs.set j r)) :: Oa) O4 ∧ A.nx O4 ds) : StW K (tAsg te (gSub to ti rSetL)) O ds A := fun Hk σ H D p l =>
  h Hk σ H p _ fun v r O1 Hk1 H1 e1 h1 s1 q1 => q1 Hk1 σ H1 (p.ext e1 h1) _ fun vo ro O2 Hk2 H2 e2 h2 s2 q2 => q2 Hk2 σ H2 ((p.ext e1 h1).ext e2 h2) _ fun vi ri O3 Hk3 H3 e3 h3 s3 q3 => by
    obtain ⟨a, k, rs, j, Oa, O4, rfl, rfl, hp, hj, hp2, q⟩ := q3
    cases (show vo = .ref a from s2)
    cases (show Da Hk3 vi (.int k) from s3)
    have h' := h3.perm hp
    obtain ⟨⟨vs, g1, g2⟩, _⟩ := h'.ow _ List.mem_cons_self
    refine ⟨a, vs, k, j, rfl, rfl, g1, by rw [g2.length]; exact hj, ?_⟩
    exact l.nx _ ds Hk3 σ _ (e1.trans (e2.trans e3)) (p.ext (e1.trans (e2.trans e3)) ((h'.write (g2.set (s1.mono (e2.trans e3)) j)).perm hp2)) q
/-! ### what follows may be proved from a weaker word -/
theorem s_cut {t u : TS} (I : Own → List SD → Prop) (h : StW K t O ds ⟨I, A.rt, A.bk, A.ct, A.xt⟩) (k : ∀ O1 ds1, I O1 ds1 → StW K u O1 ds1 A) : StW K (tSeq t u) O ds A := s_seq fun Hk σ H D p l =>
  h Hk σ H D p ⟨fun O2 ds2 Hk2 σ2 H2 e p2 q => l.nx O2 ds2 Hk2 σ2 H2 e p2 (k O2 ds2 q), l.rt, l.bk, l.ct, l.xt⟩
theorem s_mono {t : TS} {A B : AE} (h : StW K t O ds B) (nx : ∀ O ds, B.nx O ds → A.nx O ds) (rt : ∀ r O, B.rt r O → A.rt r O) (bk : ∀ O ds, B.bk O ds → A.bk O ds) (ct : ∀ O ds, B.ct O ds → A.ct O ds) (xt : ∀ Hk, A.xt Hk → B.xt Hk := by first | exact fun _ h => h | exact fun _ _ => True.intro) : StW K t O ds A := fun Hk σ H D p l =>
  h Hk σ H D p ⟨fun O2 ds2 Hk2 σ2 H2 e p2 q => l.nx O2 ds2 Hk2 σ2 H2 e p2 (nx _ _ q), fun v r O2 Hk2 H2 e h s q => l.rt v r O2 Hk2 H2 e h s (rt _ _ q), fun O2 ds2 Hk2 σ2 H2 e p2 q => l.bk O2 ds2 Hk2 σ2 H2 e p2 (bk _ _ q), fun O2 ds2 Hk2 σ2 H2 e p2 q => l.ct O2 ds2 Hk2 σ2 H2 e p2 (ct _ _ q), fun Hk' e' => xt _ (l.xt Hk' e')⟩
/-! ### for -/
/-- what a turn of a loop may end in -/
structure Bdy (I : Nat → Own → List SD → Prop) (i : Nat) (A B : AE) : Prop where
  nx : ∀ O ds, I (i + 1) O ds → B.nx O ds
  ct : ∀ O ds, I (i + 1) O ds → B.ct O ds
  rt : ∀ r O, A.rt r O → B.rt r O
  bk : ∀ O ds, A.nx O ds → B.bk O ds
  xt : ∀ Hk, B.xt Hk → A.xt Hk
theorem Bdy.mk' {I : Nat → Own → List SD → Prop} {i : Nat} {A : AE} : Bdy I i A ⟨I (i + 1), A.rt, A.nx, I (i + 1), A.xt⟩ := ⟨fun _ _ h => h, fun _ _ h => h, fun _ _ h => h, fun _ _ h => h, fun _ h => h⟩
theorem for_rg {lo : Int} {n : Nat} {j : Nat} {tb : TS} {H0 : Hp} (I : Nat → Own → List SD → Prop) (p : Pt K Hk O ds σ H) (l : Lnk K Hk A D) (h0 : I 0 O ds)
    (hs : ∀ (i : Nat) O2 ds2, i < n → I i O2 ds2 → StW K tb O2 (ds2.set j (iV (lo + i))) ⟨I (i + 1), A.rt, A.nx, I (i + 1), A.xt⟩) (hd : ∀ O2 ds2, I n O2 ds2 → A.nx O2 ds2) :
    ∃ W : Nat → Nat → L2.St → Hp → Prop, (∃ m, W 0 m σ H) ∧ ∀ i m σ H, W i m σ H →
      ((Itr lo n).stop i H ∧ D.nx σ H) ∨ ((Itr lo n).go i H ∧ ∃ N : L2.St → Hp → Prop, (∀ σ' H', N σ' H' → ∃ m', m' < m ∧ W (i + 1) m' σ' H') ∧ ∀ x H', (Itr lo n).yld i H x H' → gName j x σ H' fun σ2 H2 => tb { D with nx := N, ct := N, bk := D.nx } σ2 H2) :=
  for_range (fun i σ H => ∃ O2 ds2 Hk2, Same Hk Hk2 ∧ Pt K Hk2 O2 ds2 σ H ∧ I i O2 ds2) ⟨O, ds, Hk, Same.refl _, p, h0⟩
    (fun i σ' H' hi ⟨O2, ds2, Hk2, e, p2, q⟩ => hs i O2 ds2 hi q Hk2 _ H' _ (p2.set (r := iV (lo + i)) (.int _))
      ⟨fun O3 ds3 Hk3 σ3 H3 e3 p3 q3 => ⟨O3, ds3, Hk3, e.trans e3, p3, q3⟩, l.rt.ext e, l.nx.ext e, fun O3 ds3 Hk3 σ3 H3 e3 p3 q3 => ⟨O3, ds3, Hk3, e.trans e3, p3, q3⟩, l.xt.ext e⟩)
    (fun σ' H' ⟨O2, ds2, Hk2, e, p2, q⟩ => l.nx O2 ds2 Hk2 σ' H' e p2 (hd O2 ds2 q))
theorem s_for1 {ta : TA} {j : Nat} {tb : TS} (h : AvW K ta O ds fun rs O1 => ∃ n : Int, rs = [iV n] ∧ n < 2 ^ 62 ∧ -(2 ^ 62) ≤ n ∧ ∃ I : Nat → Own → List SD → Prop, I 0 O1 ds ∧
    (∀ (i : Nat) O2 ds2, (i : Int) < n → I i O2 ds2 → ∀ B : AE, Bdy I i A B → StW K tb O2 (ds2.set j (iV (i : Int))) B) ∧ ∀ O2 ds2, I n.toNat O2 ds2 → A.nx O2 ds2) : StW K (tFor (iRng1 ta) (gName j) tb) O ds A := fun Hk σ H D p l =>
  h Hk σ H p _ fun vs rs O1 Hk1 H1 e1 h1 s1 q1 => by
    obtain ⟨n, rfl, hn, hn2, I, h0, hs, hd⟩ := q1
    obtain ⟨v, rfl, hv⟩ := all1 s1
    cases (show Da Hk1 v (.int n) from hv)
    refine ⟨n, rfl, hn2, hn, for_rg (H0 := H) (A := A) I (p.ext e1 h1) (l.ext e1) h0 (fun i O2 ds2 hi q => ?_) hd⟩
    rw [Int.zero_add]
    exact hs i O2 ds2 (by omega) q _ .mk'
theorem s_for2 {ta : TA} {j : Nat} {tb : TS} (h : AvW K ta O ds fun rs O1 => ∃ lo n : Int, rs = [iV lo, iV n] ∧ (-(2 ^ 62) ≤ lo ∧ lo < 2 ^ 62 ∧ -(2 ^ 62) ≤ n ∧ n < 2 ^ 62) ∧ ∃ I : Nat → Own → List SD → Prop, I 0 O1 ds ∧
    (∀ (i : Nat) O2 ds2, lo + (i : Int) < n → I i O2 ds2 → ∀ B : AE, Bdy I i A B → StW K tb O2 (ds2.set j (iV (lo + (i : Int)))) B) ∧ ∀ O2 ds2, I (n - lo).toNat O2 ds2 → A.nx O2 ds2) : StW K (tFor (iRng2 ta) (gName j) tb) O ds A := fun Hk σ H D p l =>
  h Hk σ H p _ fun vs rs O1 Hk1 H1 e1 h1 s1 q1 => by
    obtain ⟨lo, n, rfl, hn, I, h0, hs, hd⟩ := q1
    obtain ⟨v, v2, rfl, hv, hv2⟩ := all2 s1
    cases (show Da Hk1 v (.int lo) from hv)
    cases (show Da Hk1 v2 (.int n) from hv2)
    exact ⟨lo, n, rfl, hn, for_rg (H0 := H) (A := A) I (p.ext e1 h1) (l.ext e1) h0 (fun i O2 ds2 hi q => hs i O2 ds2 (by omega) q _ .mk') hd⟩
/-- over data: a list -/
theorem s_forL {tl : TE} {j : Nat} {tb : TS} (h : EvW K tl O ds fun r O1 => ∃ es : List PyData, r = .dat (.list es) ∧ ∃ I : Nat → Own → List SD → Prop, I 0 O1 ds ∧
    (∀ (i : Nat) d O2 ds2, es[i]? = some d → I i O2 ds2 → ∀ B : AE, Bdy I i A B → StW K tb O2 (ds2.set j (.dat d)) B) ∧ ∀ O2 ds2, I es.length O2 ds2 → A.nx O2 ds2) : StW K (tFor (iList K tl) (gName j) tb) O ds A := fun Hk σ H D p l =>
  h Hk σ H p _ fun v r O1 Hk1 H1 e1 h1 s1 q1 => by
    obtain ⟨es, rfl, I, h0, hs, hd⟩ := q1
    cases (show Da Hk1 v (.list es) from s1) with
    | @lst a xs _ g1 g2 =>
      refine ⟨a, rfl, ⟨xs, .inl (.inl (h1.kn _ _ g1))⟩, for_list (xs := xs) (fun i σ H => ∃ O2 ds2 Hk2, Same Hk1 Hk2 ∧ Pt K Hk2 O2 ds2 σ H ∧ I i O2 ds2) ⟨O1, ds, Hk1, Same.refl _, p.ext e1 h1, h0⟩
        (fun i σ' H' hi ⟨O2, ds2, Hk2, e, p2, q⟩ => .inl (.inl (p2.hold.kn _ _ (e _ _ g1)))) (fun i x σ' H' hi ⟨O2, ds2, Hk2, e, p2, q⟩ => ?_) (fun σ' H' ⟨O2, ds2, Hk2, e, p2, q⟩ => ?_)⟩
      · obtain ⟨d, hd1, hd2⟩ := g2.getV hi
        exact hs i d O2 ds2 hd1 q _ .mk' Hk2 _ H' _ (p2.set (r := .dat d) (Da.mono e hd2)) ⟨fun O3 ds3 Hk3 σ3 H3 e3 p3 q3 => ⟨O3, ds3, Hk3, e.trans e3, p3, q3⟩, l.rt.ext (e1.trans e), l.nx.ext (e1.trans e), fun O3 ds3 Hk3 σ3 H3 e3 p3 q3 => ⟨O3, ds3, Hk3, e.trans e3, p3, q3⟩, l.xt.ext (e1.trans e)⟩
      · rw [g2.length] at q
        exact l.nx O2 ds2 Hk2 σ' H' (e1.trans e) p2 (hd O2 ds2 q)
theorem s_forT {tl : TE} {j : Nat} {tb : TS} (h : EvW K tl O ds fun r O1 => ∃ es : List PyData, r = .dat (.tuple es) ∧ ∃ I : Nat → Own → List SD → Prop, I 0 O1 ds ∧
    (∀ (i : Nat) d O2 ds2, es[i]? = some d → I i O2 ds2 → ∀ B : AE, Bdy I i A B → StW K tb O2 (ds2.set j (.dat d)) B) ∧ ∀ O2 ds2, I es.length O2 ds2 → A.nx O2 ds2) : StW K (tFor (iTup K tl) (gName j) tb) O ds A := fun Hk σ H D p l =>
  h Hk σ H p _ fun v r O1 Hk1 H1 e1 h1 s1 q1 => by
    obtain ⟨es, rfl, I, h0, hs, hd⟩ := q1
    cases (show Da Hk1 v (.tuple es) from s1) with
    | @tup a xs _ g1 g2 =>
      refine ⟨a, rfl, ⟨xs, .inl (.inl (h1.kn _ _ g1))⟩, for_tup (xs := xs) (fun i σ H => ∃ O2 ds2 Hk2, Same Hk1 Hk2 ∧ Pt K Hk2 O2 ds2 σ H ∧ I i O2 ds2) ⟨O1, ds, Hk1, Same.refl _, p.ext e1 h1, h0⟩
        (fun i σ' H' hi ⟨O2, ds2, Hk2, e, p2, q⟩ => .inl (.inl (p2.hold.kn _ _ (e _ _ g1)))) (fun i x σ' H' hi ⟨O2, ds2, Hk2, e, p2, q⟩ => ?_) (fun σ' H' ⟨O2, ds2, Hk2, e, p2, q⟩ => ?_)⟩
      · obtain ⟨d, hd1, hd2⟩ := g2.getV hi
        exact hs i d O2 ds2 hd1 q _ .mk' Hk2 _ H' _ (p2.set (r := .dat d) (Da.mono e hd2)) ⟨fun O3 ds3 Hk3 σ3 H3 e3 p3 q3 => ⟨O3, ds3, Hk3, e.trans e3, p3, q3⟩, l.rt.ext (e1.trans e), l.nx.ext (e1.trans e), fun O3 ds3 Hk3 σ3 H3 e3 p3 q3 => ⟨O3, ds3, Hk3, e.trans e3, p3, q3⟩, l.xt.ext (e1.trans e)⟩
      · rw [g2.length] at q
        exact l.nx O2 ds2 Hk2 σ' H' (e1.trans e) p2 (hd O2 ds2 q)
/-- over the script -/
theorem s_forS {tl : TE} {j : Nat} {tb : TS} (h : EvW K tl O ds fun r O1 => ∃ ns : List Int, r = .scr ns ∧ ∃ I : Nat → Own → List SD → Prop, I 0 O1 ds ∧
    (∀ (i : Nat) d O2 ds2, ns[i]? = some d → I i O2 ds2 → ∀ B : AE, Bdy I i A B → StW K tb O2 (ds2.set j (iV d)) B) ∧ ∀ O2 ds2, I ns.length O2 ds2 → A.nx O2 ds2) : StW K (tFor (iList K tl) (gName j) tb) O ds A := fun Hk σ H D p l =>
  h Hk σ H p _ fun v r O1 Hk1 H1 e1 h1 s1 q1 => by
    obtain ⟨ns, rfl, I, h0, hs, hd⟩ := q1
    obtain ⟨a, rfl, g1⟩ := s1
    refine ⟨a, rfl, ⟨ns.map V.int, h1.kn.seq g1⟩, for_list (xs := ns.map V.int) (fun i σ H => ∃ O2 ds2 Hk2, Same Hk1 Hk2 ∧ Pt K Hk2 O2 ds2 σ H ∧ I i O2 ds2) ⟨O1, ds, Hk1, Same.refl _, p.ext e1 h1, h0⟩
      (fun i σ' H' hi ⟨O2, ds2, Hk2, e, p2, q⟩ => p2.hold.kn.seq (e.seq g1)) (fun i x σ' H' hi ⟨O2, ds2, Hk2, e, p2, q⟩ => ?_) (fun σ' H' ⟨O2, ds2, Hk2, e, p2, q⟩ => ?_)⟩
    · rw [List.getElem?_map] at hi
      cases hn : ns[i]? with
      | none => rw [hn] at hi; cases hi
      | some d =>
        rw [hn] at hi
        cases hi
        exact hs i d O2 ds2 hn q _ .mk' Hk2 _ H' _ (p2.set (r := iV d) (.int d)) ⟨fun O3 ds3 Hk3 σ3 H3 e3 p3 q3 => ⟨O3, ds3, Hk3, e.trans e3, p3, q3⟩, l.rt.ext (e1.trans e), l.nx.ext (e1.trans e), fun O3 ds3 Hk3 σ3 H3 e3 p3 q3 => ⟨O3, ds3, Hk3, e.trans e3, p3, q3⟩, l.xt.ext (e1.trans e)⟩
    · rw [List.length_map] at q
      exact l.nx O2 ds2 Hk2 σ' H' (e1.trans e) p2 (hd O2 ds2 q)
/-! ### comprehensions: one variable, slot j -/
theorem wipe_wipe {σ : L2.St} {j : Nat} (v : V) : wipe ((wipe σ [j]).set j (some v)) [j] = wipe σ [j] := by
  show ((σ.set j none).set j (some v)).set j none = σ.set j none
  rw [List.set_set, List.set_set]
theorem wipe_set {σ : L2.St} {j : Nat} (v : V) : (wipe σ [j]).set j (some v) = σ.set j (some v) := by
  show (σ.set j none).set j (some v) = σ.set j (some v)
  rw [List.set_set]
/-- one turn: the new list at Dl is the first of what is owned -/
def LcTurn (K : PySem.W.Frag) (tt : TT) (te : TE) (O2 : Own) (ds : List SD) (acc : List SD) (I' : List SD → Own → Prop) : Prop :=
  ∀ Dl : Addr, TvW K tt ((Dl, OD.lst acc) :: O2) ds fun b O3 => (b = true → EvW K te O3 ds fun r O4 => ∃ O5, O4.Perm ((Dl, OD.lst acc) :: O5) ∧ I' (acc ++ [r]) O5) ∧ (b = false → ∃ O5, O3.Perm ((Dl, OD.lst acc) :: O5) ∧ I' acc O5)
/-- .. the second -/
def LcTurn1 (K : PySem.W.Frag) (tt : TT) (te : TE) (a : Addr × OD) (O2 : Own) (ds : List SD) (acc : List SD) (I' : List SD → Own → Prop) : Prop :=
  ∀ Dl : Addr, TvW K tt (a :: (Dl, OD.lst acc) :: O2) ds fun b O3 => (b = true → EvW K te O3 ds fun r O4 => ∃ a' O5, O4 = a' :: (Dl, OD.lst acc) :: O5 ∧ I' (acc ++ [r]) (a' :: O5)) ∧ (b = false → ∃ a' O5, O3 = a' :: (Dl, OD.lst acc) :: O5 ∧ I' acc (a' :: O5))
theorem LcTurn1.to {tt : TT} {te : TE} {a : Addr × OD} {O2 : Own} {ds acc : List SD} {I' : List SD → Own → Prop} (h : LcTurn1 K tt te a O2 ds acc I') : LcTurn K tt te (a :: O2) ds acc I' := fun Dl Hk σ H p Q' k =>
  h Dl Hk σ H ⟨p.hold.perm (.swap ..), p.len, p.env⟩ Q' fun b O3 Hk3 H3 e3 h3 q3 => k b O3 Hk3 H3 e3 h3 ⟨fun hb => w_mono (q3.1 hb) fun r O4 ⟨a', O5, e4, q4⟩ => ⟨a' :: O5, by rw [e4]; exact .swap .., q4⟩, fun hb => by
    obtain ⟨a', O5, e4, q4⟩ := q3.2 hb
    exact ⟨a' :: O5, by rw [e4]; exact .swap .., q4⟩⟩
theorem lc_turn {tt : TT} {te : TE} {O2 : Own} {acc : List SD} {I' : List SD → Own → Prop} {Dl : Addr} {j : Nat} {v : V} {d : SD} {P' : Hp → Prop} (h : LcTurn K tt te O2 (ds.set j d) acc I') (hl : acc.length < sizeLine)
    (p : Pt K Hk O' ds σ H') (hh : Hold K Hk ((Dl, OD.lst acc) :: O2) H) (hv : SDok K Hk v d) (k : ∀ acc2 O3 Hk2 H2, Same Hk Hk2 → Hold K Hk2 ((Dl, OD.lst acc2) :: O3) H2 → I' acc2 O3 → P' H2) :
    gName j v (wipe σ [j]) H fun σ2 H2 => wipe σ2 [j] = wipe σ [j] ∧ tt σ2 H2 fun b H3 =>
      if b = true then te σ2 H3 fun y H4 => ∃ acc, H4 Dl = some (.lst acc) ∧ acc.length < sizeLine ∧ P' (upd H4 Dl (.lst (acc ++ [y]))) else P' H3 := by
  refine ⟨wipe_wipe v, ?_⟩
  rw [wipe_set]
  have p1 : Pt K Hk ((Dl, OD.lst acc) :: O2) (ds.set j d) (σ.set j (some v)) H := (p.ext (Same.refl _) hh).set hv
  refine h Dl Hk _ H p1 _ fun b O3 Hk3 H3 e3 h3 q3 => ?_
  cases b with
  | true =>
    refine iteT (q3.1 rfl Hk3 _ H3 (p1.ext e3 h3) _ fun y r O4 Hk4 H4 e4 h4 s4 q4 => ?_)
    obtain ⟨O5, hp, q5⟩ := q4
    have h5 := h4.perm hp
    obtain ⟨⟨vs, g1, g2⟩, _⟩ := h5.ow _ List.mem_cons_self
    exact ⟨vs, g1, by rw [g2.length]; exact hl, k _ O5 Hk4 _ (e3.trans e4) (h5.write (g2.append (.cons s4 .nil))) q5⟩
  | false =>
    obtain ⟨O5, hp, q5⟩ := q3.2 rfl
    exact iteF (k _ O5 Hk3 _ e3 (h3.perm hp) q5)
theorem w_lc1 {ta : TA} {j : Nat} {tt : TT} (h : AvW K ta O ds fun rs O1 => ∃ n : Int, rs = [iV n] ∧ n ≤ 1000000 ∧ -(2 ^ 62) ≤ n ∧ ∃ I : Nat → List SD → Own → Prop, I 0 [] O1 ∧
    (∀ (i : Nat) acc O2, (i : Int) < n → acc.length ≤ i → I i acc O2 → LcTurn K tt te O2 (ds.set j (iV (i : Int))) acc (I (i + 1))) ∧ ∀ acc O2 Dl, I n.toNat acc O2 → Q (.ad Dl) ((Dl, .lst acc) :: O2)) : EvW K (tLc (iRng1 ta) (gName j) tt te [j]) O ds Q := fun Hk σ H p Q' k =>
  h Hk σ H p _ fun vs rs O1 Hk1 H1 e1 h1 s1 q1 => by
    obtain ⟨n, rfl, hn, hn2, I, h0, hs, hd⟩ := q1
    obtain ⟨v, rfl, hv⟩ := all1 s1
    cases (show Da Hk1 v (.int n) from hv)
    refine ⟨n, rfl, by omega, by omega, fun Dl hf => lc_range (lo := 0) (n := n.toNat) (fun i H => ∃ acc O2 Hk2, Same Hk1 Hk2 ∧ acc.length ≤ i ∧ Hold K Hk2 ((Dl, OD.lst acc) :: O2) H ∧ I i acc O2)
      ⟨[], O1, Hk1, Same.refl _, Nat.le_refl _, h1.own hf .nil, h0⟩ (fun i H2 hi hP => ?_) (fun H2 hP => ?_)⟩
    · obtain ⟨acc, O2, Hk2, e2, hl, hh, q⟩ := hP
      have hz : acc.length < sizeLine := Nat.lt_of_lt_of_le (show acc.length < 1000001 by omega) (by decide)
      have ht := hs i acc O2 (by omega) hl q
      rw [← Int.zero_add (i : Int)] at ht
      refine lc_turn (d := iV (0 + (i : Int))) (P' := fun H => ∃ acc2 O3 Hk2, Same Hk1 Hk2 ∧ acc2.length ≤ i + 1 ∧ Hold K Hk2 ((Dl, OD.lst acc2) :: O3) H ∧ I (i + 1) acc2 O3) (I' := fun acc2 O3 => acc2.length ≤ i + 1 ∧ I (i + 1) acc2 O3) ?_ hz ((p.ext e1 h1).ext e2 (hh.sub (List.sublist_cons_self ..))) hh (.int _) fun acc2 O3 Hk3 H3 e3 h3 q3 => ⟨acc2, O3, Hk3, e2.trans e3, q3.1, h3, q3.2⟩
      intro Dl2 Hk3 σ3 H3 p3 Q3 k3
      refine ht Dl2 Hk3 σ3 H3 p3 Q3 fun b O3 Hk4 H4 e4 h4 q4 => k3 b O3 Hk4 H4 e4 h4 ⟨fun hb => w_mono (q4.1 hb) fun r O4 ⟨O5, hp, q5⟩ => ⟨O5, hp, by rw [List.length_append]; simp; omega, q5⟩, fun hb => ?_⟩
      obtain ⟨O5, hp, q5⟩ := q4.2 hb
      exact ⟨O5, hp, by omega, q5⟩
    · obtain ⟨acc, O2, Hk2, e2, hl, hh, q⟩ := hP
      exact k _ (.ad Dl) _ Hk2 H2 (e1.trans e2) hh rfl (hd acc O2 Dl q)
theorem w_lcL {tl : TE} {j : Nat} {tt : TT} (h : EvW K tl O ds fun r O1 => ∃ es : List PyData, r = .dat (.list es) ∧ es.length ≤ 1000000 ∧ ∃ I : Nat → List SD → Own → Prop, I 0 [] O1 ∧
    (∀ (i : Nat) d acc O2, es[i]? = some d → acc.length ≤ i → I i acc O2 → LcTurn K tt te O2 (ds.set j (.dat d)) acc (I (i + 1))) ∧ ∀ acc O2 Dl, I es.length acc O2 → Q (.ad Dl) ((Dl, .lst acc) :: O2)) : EvW K (tLc (iList K tl) (gName j) tt te [j]) O ds Q := fun Hk σ H p Q' k =>
  h Hk σ H p _ fun v rs O1 Hk1 H1 e1 h1 s1 q1 => by
    obtain ⟨es, rfl, hn, I, h0, hs, hd⟩ := q1
    cases (show Da Hk1 v (.list es) from s1) with
    | @lst a xs _ g1 g2 =>
    refine ⟨a, rfl, ⟨xs, .inl (.inl (h1.kn _ _ g1))⟩, fun Dl hf => lc_list (xs := xs) (fun i H => ∃ acc O2 Hk2, Same Hk1 Hk2 ∧ acc.length ≤ i ∧ Hold K Hk2 ((Dl, OD.lst acc) :: O2) H ∧ I i acc O2)
      ⟨[], O1, Hk1, Same.refl _, Nat.le_refl _, h1.own hf .nil, h0⟩ (fun i H2 _ ⟨acc, O2, Hk2, e2, hl, hh, q⟩ => .inl (.inl (hh.kn _ _ (e2 _ _ g1)))) (fun i x H2 hi hP => ?_) (fun H2 hP => ?_)⟩
    · obtain ⟨acc, O2, Hk2, e2, hl, hh, q⟩ := hP
      obtain ⟨d, hd1, hd2⟩ := g2.getV hi
      have hlt := (List.getElem?_eq_some_iff.mp hd1).1
      have hz : acc.length < sizeLine := Nat.lt_of_lt_of_le (show acc.length < 1000001 by omega) (by decide)
      have ht := hs i d acc O2 hd1 hl q
      refine lc_turn (d := .dat d) (P' := fun H => ∃ acc2 O3 Hk2, Same Hk1 Hk2 ∧ acc2.length ≤ i + 1 ∧ Hold K Hk2 ((Dl, OD.lst acc2) :: O3) H ∧ I (i + 1) acc2 O3) (I' := fun acc2 O3 => acc2.length ≤ i + 1 ∧ I (i + 1) acc2 O3) ?_ hz ((p.ext e1 h1).ext e2 (hh.sub (List.sublist_cons_self ..))) hh (Da.mono e2 hd2) fun acc2 O3 Hk3 H3 e3 h3 q3 => ⟨acc2, O3, Hk3, e2.trans e3, q3.1, h3, q3.2⟩
      intro Dl2 Hk3 σ3 H3 p3 Q3 k3
      refine ht Dl2 Hk3 σ3 H3 p3 Q3 fun b O3 Hk4 H4 e4 h4 q4 => k3 b O3 Hk4 H4 e4 h4 ⟨fun hb => w_mono (q4.1 hb) fun r O4 ⟨O5, hp, q5⟩ => ⟨O5, hp, by rw [List.length_append]; simp; omega, q5⟩, fun hb => ?_⟩
      obtain ⟨O5, hp, q5⟩ := q4.2 hb
      exact ⟨O5, hp, by omega, q5⟩
    · obtain ⟨acc, O2, Hk2, e2, hl, hh, q⟩ := hP
      rw [g2.length] at q
      exact k _ (.ad Dl) _ Hk2 H2 (e1.trans e2) hh rfl (hd acc O2 Dl q)
theorem w_lcT {tl : TE} {j : Nat} {tt : TT} (h : EvW K tl O ds fun r O1 => ∃ es : List PyData, r = .dat (.tuple es) ∧ es.length ≤ 1000000 ∧ ∃ I : Nat → List SD → Own → Prop, I 0 [] O1 ∧
    (∀ (i : Nat) d acc O2, es[i]? = some d → acc.length ≤ i → I i acc O2 → LcTurn K tt te O2 (ds.set j (.dat d)) acc (I (i + 1))) ∧ ∀ acc O2 Dl, I es.length acc O2 → Q (.ad Dl) ((Dl, .lst acc) :: O2)) : EvW K (tLc (iTup K tl) (gName j) tt te [j]) O ds Q := fun Hk σ H p Q' k =>
  h Hk σ H p _ fun v rs O1 Hk1 H1 e1 h1 s1 q1 => by
    obtain ⟨es, rfl, hn, I, h0, hs, hd⟩ := q1
    cases (show Da Hk1 v (.tuple es) from s1) with
    | @tup a xs _ g1 g2 =>
    refine ⟨a, rfl, ⟨xs, .inl (.inl (h1.kn _ _ g1))⟩, fun Dl hf => lc_tup (xs := xs) (fun i H => ∃ acc O2 Hk2, Same Hk1 Hk2 ∧ acc.length ≤ i ∧ Hold K Hk2 ((Dl, OD.lst acc) :: O2) H ∧ I i acc O2)
      ⟨[], O1, Hk1, Same.refl _, Nat.le_refl _, h1.own hf .nil, h0⟩ (fun i H2 _ ⟨acc, O2, Hk2, e2, hl, hh, q⟩ => .inl (.inl (hh.kn _ _ (e2 _ _ g1)))) (fun i x H2 hi hP => ?_) (fun H2 hP => ?_)⟩
    · obtain ⟨acc, O2, Hk2, e2, hl, hh, q⟩ := hP
      obtain ⟨d, hd1, hd2⟩ := g2.getV hi
      have hlt := (List.getElem?_eq_some_iff.mp hd1).1
      have hz : acc.length < sizeLine := Nat.lt_of_lt_of_le (show acc.length < 1000001 by omega) (by decide)
      have ht := hs i d acc O2 hd1 hl q
      refine lc_turn (d := .dat d) (P' := fun H => ∃ acc2 O3 Hk2, Same Hk1 Hk2 ∧ acc2.length ≤ i + 1 ∧ Hold K Hk2 ((Dl, OD.lst acc2) :: O3) H ∧ I (i + 1) acc2 O3) (I' := fun acc2 O3 => acc2.length ≤ i + 1 ∧ I (i + 1) acc2 O3) ?_ hz ((p.ext e1 h1).ext e2 (hh.sub (List.sublist_cons_self ..))) hh (Da.mono e2 hd2) fun acc2 O3 Hk3 H3 e3 h3 q3 => ⟨acc2, O3, Hk3, e2.trans e3, q3.1, h3, q3.2⟩
      intro Dl2 Hk3 σ3 H3 p3 Q3 k3
      refine ht Dl2 Hk3 σ3 H3 p3 Q3 fun b O3 Hk4 H4 e4 h4 q4 => k3 b O3 Hk4 H4 e4 h4 ⟨fun hb => w_mono (q4.1 hb) fun r O4 ⟨O5, hp, q5⟩ => ⟨O5, hp, by rw [List.length_append]; simp; omega, q5⟩, fun hb => ?_⟩
      obtain ⟨O5, hp, q5⟩ := q4.2 hb
      exact ⟨O5, hp, by omega, q5⟩
    · obtain ⟨acc, O2, Hk2, e2, hl, hh, q⟩ := hP
      rw [g2.length] at q
      exact k _ (.ad Dl) _ Hk2 H2 (e1.trans e2) hh rfl (hd acc O2 Dl q)
end
/-! ### a def -/
section
variable {P : Program} {w : World} {K : PySem.W.Frag} {mg : Str → Option Value} {base : Heap}
theorem start_pt {Hk H : Hp} {O : Own} {vs : List V} {rs : List SD} {N : List Str} (h : Hold K Hk O H) (hv : SDall K Hk vs rs) : Pt K Hk O (rs ++ List.replicate (N.length - rs.length) .non) (L2.start N vs) H :=
  ⟨h, by unfold L2.start; rw [List.length_append, List.length_append, List.length_map, List.length_replicate, List.length_replicate, hv.length], fun i r hr => by
    by_cases hi : i < rs.length
    · rw [List.getElem?_append_left hi] at hr
      obtain ⟨v, h1, h2⟩ := hv.get hr
      refine .inr ⟨v, ?_, h2⟩
      unfold L2.start
      rw [List.getElem?_append_left (by rw [List.length_map, hv.length]; exact hi), List.getElem?_map, h1]
      rfl
    · rw [List.getElem?_append_right (by omega), List.getElem?_replicate] at hr
      split at hr
      · cases hr; exact .inl rfl
      · cases hr⟩
theorem fn_ok {x qual : Str} {st : Stmt} {f : Addr} {fd : FuncData} {N ps : List Str} {k : Nat} {pre : List SD → Own → (SD → Own → Prop) → Prop} (F : Fun K x qual st f fd) (S : FnScope N ps (defScope st)) (len : ∀ rs O Q, pre rs O Q → rs.length = ps.length)
    (hbody : ∀ (cdv : Value) (A : Around) (outer : List Env) (s : Shared) (H : Hp) (E : XK), Room k (A.deeper (envOfC qual (defScope st) s.heap.objs.size f cdv)) →
      ∃ t, PSs (cxOf CX0 P w K mg base N qual (defScope st) f cdv A outer s H E).nox (defBody st) t ∧ ∀ rs O Q, pre rs O Q → StW K t O (rs ++ List.replicate (N.length - rs.length) .non) ⟨fun O _ => Q (.dat .none) O, Q, fun _ _ => False, fun _ _ => False, fun _ => True⟩) :
    FnOk P w K mg base CX0 (k + 1) f fd ps (spW K pre) :=
  F.ok S (fun vs H Q E ⟨Hk, O, rs, Q0, h, hv, hp, kk⟩ => by rw [hv.length]; exact len rs O Q0 hp) fun cdv A outer s H vs Q E hr ⟨Hk, O, rs, Q0, h, hv, hp, kk⟩ => by
    obtain ⟨t, ht, hs⟩ := hbody cdv A outer s H E hr
    refine ⟨t, ht, hs rs O Q0 hp Hk _ H _ (start_pt h hv) ⟨fun O2 ds2 Hk2 σ2 H2 e p2 q => kk _ (.dat .none) O2 Hk2 H2 e p2.hold .non q, kk, fun O2 ds2 Hk2 σ2 H2 e p2 q => q.elim, fun O2 ds2 Hk2 σ2 H2 e p2 q => q.elim, fun _ _ => True.intro⟩⟩
end
end Wk
namespace Wk
open PySem PySem.Spec PyProof.Rows L2
section
variable (P : Program) (w : World) (K : PySem.W.Frag) (mg : Str → Option Value) (base : Heap)
def Def (x : Str) (st : Stmt) : Prop := ∃ f fd, Fun K x x st f fd ∧ mg x = some (.ref f)
def Callee (x : Str) (ps : List Str) (k : Nat) (pre : List SD → Own → (SD → Own → Prop) → Prop) : Prop :=
  ∃ f fd, FnOk P w K mg base CX0 k f fd ps (spW K pre) ∧ mg x = some (.ref f) ∧ PySem.W.keepIn K (.ref f) = true ∧ Binds K fd ps [] ∧ ∃ oc od sl, K.lookup f = some ⟨oc, od, .func fd, sl⟩
end
theorem callee_law {P : Program} {w : World} {K : PySem.W.Frag} {mg : Str → Option Value} {base : Heap} {x : Str} {ps : List Str} {k : Nat} {pre : List SD → Own → (SD → Own → Prop) → Prop} {f : Addr} {fd : FuncData} {qual : Str} {st : Stmt}
    (C : Callee P w K mg base x ps k pre) (g : mg x = some (.ref f)) (F : Fun K x qual st f fd) : FnOk P w K mg base CX0 k f fd ps (spW K pre) := by
  obtain ⟨f', fd', G, g', _, _, oc', od', sl', lk'⟩ := C
  rw [g] at g'
  cases g'
  obtain ⟨oc, od, kV, doc, pm, an, cdv, ct, osl, rfl, lk, hcd⟩ := F.ex
  rw [lk] at lk'
  cases lk'
  exact G
theorem Fun.lk {K : PySem.W.Frag} {x qual : Str} {st : Stmt} {f : Addr} {fd : FuncData} (F : Fun K x qual st f fd) : ∃ oc od sl, K.lookup f = some ⟨oc, od, .func fd, sl⟩ := by
  obtain ⟨oc, od, kV, doc, pm, an, cdv, ct, osl, rfl, lk, hcd⟩ := F.ex
  exact ⟨_, _, _, lk⟩
theorem cx_K {CX : CXT} {P : Program} {w : World} {K : PySem.W.Frag} {mg : Str → Option Value} {base : Heap} {N : List Str} {qual : Str} {scope : Scope} {f : Addr} {cd : Value} {A : Around} {outer : List Env} {s : Shared} {H : Hp} {E : XK} :
    (cxOf CX P w K mg base N qual scope f cd A outer s H E).nox.K = K := rfl
theorem b_dec {p : Prop} [Decidable p] {A B : Prop} (h1 : p → A) (h2 : ¬p → B) : (decide p = true → A) ∧ (decide p = false → B) := ⟨fun h => h1 (of_decide_eq_true h), fun h => h2 (of_decide_eq_false h)⟩
theorem b_ndec {p : Prop} [Decidable p] {A B : Prop} (h1 : ¬p → A) (h2 : p → B) : ((!decide p) = true → A) ∧ ((!decide p) = false → B) := by
  by_cases hp : p
  · exact ⟨fun h => by simp [hp] at h, fun _ => h2 hp⟩
  · exact ⟨fun _ => h1 hp, fun h => by simp [hp] at h⟩
theorem b_true {A B : Prop} (h : A) : (true = true → A) ∧ (true = false → B) := ⟨fun _ => h, fun h => Bool.noConfusion h⟩
theorem b_false {A B : Prop} (h : B) : (false = true → A) ∧ (false = false → B) := ⟨fun h => Bool.noConfusion h, fun _ => h⟩
/-- the law's own start -/
theorem law_start {K : PySem.W.Frag} {H : Hp} {a : Addr} {ns : List Int} {pre : List SD → Own → (SD → Own → Prop) → Prop} (hS : SqL K H a (ns.map V.int)) (hp : pre [.scr ns] [] fun r _ => r = bV true) : spW K pre [.ref a] H (fun v _ => v = .bl true) fun _ _ _ => False :=
  ⟨H, [], [.scr ns], _, ⟨Same.refl _, fun p hp => (nomatch hp), List.nodup_nil⟩, .cons ⟨a, rfl, hS⟩ .nil, hp, fun v r O2 Hk2 H2 e h s q => by
    subst q
    cases (show Da Hk2 v (.bool true) from s)
    rfl⟩
end Wk
namespace Wk
open PySem PySem.Spec PyProof.Rows L2
/-! ### the rules that speak of the written part, at a given one -/
section
variable {X : Cx} (K : PySem.W.Frag)
theorem ixL (h : X.K = K := by rfl) : IxR X (rIxL K) := h ▸ ix_list
theorem ixT (h : X.K = K := by rfl) : IxR X (rIxT K) := h ▸ ix_tup
theorem slL (h : X.K = K := by rfl) : SlR X (rSlL K) := h ▸ sl_list
theorem slT (h : X.K = K := by rfl) : SlR X (rSlA K) := h ▸ sl_tupA
theorem kCatT (h : X.K = K := by rfl) : OpR X (binaryOp .Add) (rCatA K) := h ▸ op_catA
theorem kRepT (h : X.K = K := by rfl) : OpR X (binaryOp .Mult) (rRepT K) := h ▸ op_repT
def rLen (K : PySem.W.Frag) : List V → Hp → VK → Prop := fun xs H Q => ∃ p ys, xs = [.ref p] ∧ (SqL K H p ys ∨ SqT K H p ys) ∧ Q (.int ys.length) H
def rListOf (K : PySem.W.Frag) : List V → Hp → VK → Prop := fun xs H Q => ∃ p ys, xs = [.ref p] ∧ (SqL K H p ys ∨ SqT K H p ys) ∧ ∀ l, H l = none → Q (.ref l) (upd H l (.lst ys))
def rTupOf (K : PySem.W.Frag) : List V → Hp → VK → Prop := fun xs H Q => ∃ p ys, xs = [.ref p] ∧ ((SqL K H p ys ∧ ∀ l, H l = none → Q (.ref l) (upd H l (.tup ys))) ∨ (SqT K H p ys ∧ Q (.ref p) H))
def rMax2 : List V → Hp → VK → Prop := fun xs H Q => ∃ i j, xs = [.int i, .int j] ∧ Q (.int (if j > i then j else i)) H
def rMin2 : List V → Hp → VK → Prop := fun xs H Q => ∃ i j, xs = [.int i, .int j] ∧ Q (.int (if j < i then j else i)) H
def rInt1 : List V → Hp → VK → Prop := fun xs H Q => (∃ i, xs = [.int i] ∧ Q (.int i) H) ∨ ∃ k, xs = [.bl k] ∧ Q (.int (if k then 1 else 0)) H
theorem kLen (h : X.K = K := by rfl) : CallR X (.builtin "len") (rLen K) := h ▸ call_len_seq
theorem kListOf (h : X.K = K := by rfl) : CallR X (.type "list") (rListOf K) := h ▸ call_list_of
theorem kTupOf (h : X.K = K := by rfl) : CallR X (.type "tuple") (rTupOf K) := h ▸ call_tuple_of
theorem kMax2 (hc : X.calm = true) : CallR X (.builtin "max") rMax2 := call_max2 hc
theorem kMin2 (hc : X.calm = true) : CallR X (.builtin "min") rMin2 := call_min2 hc
theorem kInt1 : CallR X (.type "int") rInt1 := call_int1
theorem kSum (hc : X.calm = true) (h : X.K = K := by rfl) : CallR X (.builtin "sum") (rSum K) := h ▸ cr_sum hc
theorem kMax (hc : X.calm = true) (h : X.K = K := by rfl) : CallR X (.builtin "max") (rMax K) := h ▸ cr_max hc
theorem kMin (hc : X.calm = true) (h : X.K = K := by rfl) : CallR X (.builtin "min") (rMin K) := h ▸ cr_min hc
theorem kSorted (h : X.K = K := by rfl) : CallR X (.builtin "sorted") (rSortedI K) := h ▸ cr_sortedI
theorem kIsi (h : X.K = K := by rfl) : CallR X (.builtin "isinstance") (rIsi K) := h ▸ call_isi
theorem kEqD (hu : X.A.units + 64 < cLine) (h : X.K = K := by rfl) : OpR X (compareOp .Eq) (rEqD K) := h ▸ op_eqD hu
theorem kNeD (hu : X.A.units + 64 < cLine) (h : X.K = K := by rfl) : OpR X (compareOp .NotEq) (rNeD K) := h ▸ op_neD hu
theorem piL {tg l : Expr} {tl : TE} (hl : PE X l tl) (h : X.K = K := by rfl) : PI X tg l (iList K tl) := h ▸ pi_list hl
theorem piT {tg l : Expr} {tl : TE} (hl : PE X l tl) (h : X.K = K := by rfl) : PI X tg l (iTup K tl) := h ▸ pi_tup hl
theorem peRev {e : Expr} {te : TE} {k : Nat} {p1 p2 p3 pos : Pos} (he : PE X e te) (h : X.K = K := by rfl) : PE X (.Subscript e (.Slice none none (some (.UnaryOp .USub (.Constant (.int 1) k p1) p2)) p3) pos) (tRevL K te) := h ▸ pe_revL he
theorem psApp {st : Stmt} {to : TE} {ta : TA} (hs : PS X st (tDrop (tBM X.K "list" rAppend to ta))) (h : X.K = K := by rfl) : PS X st (tDrop (tBM K "list" rAppend to ta)) := h ▸ hs
end
section
variable {K : PySem.W.Frag} {Hk Hk' H H' : Hp} {O O' Oa : Own} {ds : List SD} {σ : L2.St} {Q : SD → Own → Prop} {Q' : VK} {x y : SD} {es fs : List PyData} {lo hi : Option Int} {b : Addr × OD} {te : TE}
/-! ### lists that are data or owned -/
inductive Lst (O : Own) : SD → List PyData → Prop
  | d {es : List PyData} : Lst O (.dat (.list es)) es
  | o {a : Addr} {rs : List SD} {es : List PyData} (hm : (a, OD.lst rs) ∈ O) (hd : Dats rs es) : Lst O (.ad a) es
theorem Lst.get (l : Lst O x es) (h : Hold K Hk O H) {u : V} (hu : SDok K Hk u x) : ∃ a xs, u = .ref a ∧ H a = some (.lst xs) ∧ DaAll Hk xs es := by
  cases l with
  | d =>
    cases (show Da Hk u (.list es) from hu) with
    | @lst a xs _ h1 h2 => exact ⟨a, xs, rfl, h.kn _ _ h1, h2⟩
  | @o a rs _ hm hd =>
    cases (show u = .ref a from hu)
    obtain ⟨⟨vs, h1, h2⟩, _⟩ := h.ow _ hm
    obtain rfl := hd.eq
    exact ⟨a, vs, rfl, h1, h2.dats⟩
theorem sq_of {a : Addr} {xs : List V} (h : H a = some (.lst xs)) : SqL K H a xs := .inl (.inl h)
/-- a new list, as data; as owned in front; as owned behind the first -/
theorem Kont.newD (k : Kont K Hk Q Q') (h : Hold K Hk O H) {l : Addr} {xs : List V} (hf : H l = none) (hd : DaAll Hk xs es) (q : Q (.dat (.list es)) O) : Q' (.ref l) (upd H l (.lst xs)) := by
  have sm := same_new (o := .lst xs) (h.kn.free hf)
  exact k _ (.dat (.list es)) O _ _ sm (h.know hf) (.lst upd_same (DaAll.mono sm hd)) q
theorem Kont.newO (k : Kont K Hk Q Q') (h : Hold K Hk O H) {l : Addr} {xs : List V} (hf : H l = none) (hd : DaAll Hk xs es) (q : ∀ l, Q (.ad l) ((l, .lst (es.map .dat)) :: O)) : Q' (.ref l) (upd H l (.lst xs)) :=
  k _ (.ad l) _ Hk _ (Same.refl _) (h.own hf (SDall.of_dats hd)) rfl (q l)
theorem Kont.newO1 (k : Kont K Hk Q Q') (h : Hold K Hk (b :: Oa) H) {l : Addr} {xs : List V} (hf : H l = none) (hd : DaAll Hk xs es) (q : ∀ l, Q (.ad l) (b :: (l, .lst (es.map .dat)) :: Oa)) : Q' (.ref l) (upd H l (.lst xs)) :=
  k _ (.ad l) _ Hk _ (Same.refl _) ((h.own hf (SDall.of_dats hd)).perm (.swap ..)) rfl (q l)
theorem g_len (l : Lst O x es) (q : Q (iV es.length) O) : CbW K (rLen K) [x] O Q := fun Hk H h us hus Q' k => by
  obtain ⟨u, rfl, hu⟩ := all1 hus
  obtain ⟨a, xs, rfl, h1, h2⟩ := l.get h hu
  refine ⟨_, _, rfl, .inl (sq_of h1), ?_⟩
  rw [h2.length]
  exact k.now h (r := iV _) (.int _) q
theorem g_lenT (q : Q (iV es.length) O) : CbW K (rLen K) [.dat (.tuple es)] O Q := c_lenT q
theorem g_lenS {ns : List Int} (q : Q (iV ns.length) O) : CbW K (rLen K) [.scr ns] O Q := c_lenS q
theorem g_lenO {a : Addr} {rs : List SD} (hm : (a, OD.lst rs) ∈ O) (q : Q (iV rs.length) O) : CbW K (rLen K) [.ad a] O Q := c_lenO hm q
theorem g_max2 {i j : Int} (q : Q (iV (max i j)) O) : CbW K rMax2 [iV i, iV j] O Q := c_max2 q
theorem g_min2 {i j : Int} (q : Q (iV (min i j)) O) : CbW K rMin2 [iV i, iV j] O Q := c_min2 q
theorem g_int {i : Int} (q : Q (iV i) O) : CbW K rInt1 [iV i] O Q := c_int q
theorem g_intB {i : Bool} (q : Q (iV (if i then 1 else 0)) O) : CbW K rInt1 [bV i] O Q := c_intB q
theorem g_tupT (q : Q (.dat (.tuple es)) O) : CbW K (rTupOf K) [.dat (.tuple es)] O Q := c_tupT q
theorem g_tup (l : Lst O x es) (q : Q (.dat (.tuple es)) O) : CbW K (rTupOf K) [x] O Q := fun Hk H h us hus Q' k => by
  obtain ⟨u, rfl, hu⟩ := all1 hus
  obtain ⟨a, xs, rfl, h1, h2⟩ := l.get h hu
  refine ⟨_, _, rfl, .inl ⟨sq_of h1, fun l hf => ?_⟩⟩
  have sm := same_new (o := .tup xs) (h.kn.free hf)
  exact k _ (.dat (.tuple es)) O _ _ sm (h.know hf) (.tup upd_same (DaAll.mono sm h2)) q
theorem g_list (l : Lst O x es) (q : Q (.dat (.list es)) O) : CbW K (rListOf K) [x] O Q := fun Hk H h us hus Q' k => by
  obtain ⟨u, rfl, hu⟩ := all1 hus
  obtain ⟨a, xs, rfl, h1, h2⟩ := l.get h hu
  exact ⟨_, _, rfl, .inl (sq_of h1), fun l hf => k.newD h hf h2 q⟩
theorem g_listO (l : Lst O x es) (q : ∀ l, Q (.ad l) ((l, .lst (es.map .dat)) :: O)) : CbW K (rListOf K) [x] O Q := fun Hk H h us hus Q' k => by
  obtain ⟨u, rfl, hu⟩ := all1 hus
  obtain ⟨a, xs, rfl, h1, h2⟩ := l.get h hu
  exact ⟨_, _, rfl, .inl (sq_of h1), fun l hf => k.newO h hf h2 q⟩
theorem g_listO1 (l : Lst (b :: Oa) x es) (q : ∀ l, Q (.ad l) (b :: (l, .lst (es.map .dat)) :: Oa)) : CbW K (rListOf K) [x] (b :: Oa) Q := fun Hk H h us hus Q' k => by
  obtain ⟨u, rfl, hu⟩ := all1 hus
  obtain ⟨a, xs, rfl, h1, h2⟩ := l.get h hu
  exact ⟨_, _, rfl, .inl (sq_of h1), fun l hf => k.newO1 h hf h2 q⟩
theorem g_listT (q : Q (.dat (.list es)) O) : CbW K (rListOf K) [.dat (.tuple es)] O Q := c_listT q
theorem g_listTO1 (q : ∀ l, Q (.ad l) (b :: (l, .lst (es.map .dat)) :: Oa)) : CbW K (rListOf K) [.dat (.tuple es)] (b :: Oa) Q := fun Hk H h us hus Q' k => by
  obtain ⟨u, rfl, hu⟩ := all1 hus
  cases (show Da Hk u (.tuple es) from hu) with
  | @tup a xs _ h1 h2 => exact ⟨_, _, rfl, .inr (.inl (.inl (h.kn _ _ h1))), fun l hf => k.newO1 h hf h2 q⟩
theorem g_sum {ns : List Int} (l : Lst O x (ns.map .int)) (q : Q (iV ns.sum) O) : CbW K (rSum K) [x] O Q := fun Hk H h us hus Q' k => by
  obtain ⟨u, rfl, hu⟩ := all1 hus
  obtain ⟨a, xs, rfl, h1, h2⟩ := l.get h hu
  rw [h2.ints] at h1
  exact ⟨_, ns, rfl, sq_of h1, k.now h (r := iV _) (.int _) q⟩
theorem g_max {ns : List Int} (l : Lst O x (ns.map .int)) (hn : 0 < ns.length) (q : ∀ m, m ∈ ns → (∀ y ∈ ns, y ≤ m) → Q (iV m) O) : CbW K (rMax K) [x] O Q := fun Hk H h us hus Q' k => by
  obtain ⟨u, rfl, hu⟩ := all1 hus
  obtain ⟨a, xs, rfl, h1, h2⟩ := l.get h hu
  rw [h2.ints] at h1
  exact ⟨_, ns, rfl, sq_of h1, hn, fun m hm hl => k.now h (r := iV _) (.int _) (q m hm hl)⟩
theorem g_sorted {ns : List Int} (l : Lst O x (ns.map .int)) (q : ∀ ms : List Int, ms.Perm ns → ms.Pairwise (· ≤ ·) → Q (.dat (lI ms)) O) : CbW K (rSortedI K) [x] O Q := fun Hk H h us hus Q' k => by
  obtain ⟨u, rfl, hu⟩ := all1 hus
  obtain ⟨a, xs, rfl, h1, h2⟩ := l.get h hu
  rw [h2.ints] at h1
  exact ⟨_, ns, rfl, sq_of h1, fun ms p hp hs hf => k.newD h hf (DaAll.of_ints ms) (q ms hp hs)⟩
theorem g_rev (h : EvW K te O ds fun r O1 => ∃ es, Lst O1 r es ∧ Q (.dat (.list es.reverse)) O1) : EvW K (tRevL K te) O ds Q := fun Hk σ H p Q' k =>
  h Hk σ H p _ fun v r O1 Hk1 H1 e1 h1 s1 q1 => by
    obtain ⟨es, l, q⟩ := q1
    obtain ⟨a, xs, rfl, g1, g2⟩ := l.get h1 s1
    exact ⟨_, _, rfl, sq_of g1, fun l hf => (k.ext e1).newD h1 hf g2.reverse q⟩
theorem g_revO1 (h : EvW K te O ds fun r O1 => ∃ es b Oa, O1 = b :: Oa ∧ Lst O1 r es ∧ ∀ l, Q (.ad l) (b :: (l, .lst (es.reverse.map .dat)) :: Oa)) : EvW K (tRevL K te) O ds Q := fun Hk σ H p Q' k =>
  h Hk σ H p _ fun v r O1 Hk1 H1 e1 h1 s1 q1 => by
    obtain ⟨es, b, Oa, rfl, l, q⟩ := q1
    obtain ⟨a, xs, rfl, g1, g2⟩ := l.get h1 s1
    exact ⟨_, _, rfl, sq_of g1, fun l hf => (k.ext e1).newO1 h1 hf g2.reverse q⟩
theorem g_sl (l : Lst O x es) (q : Q (.dat (.list (cut es lo hi))) O) : SlW K (rSlL K) x lo hi O Q := fun Hk H h u hu Q' k => by
  obtain ⟨a, xs, rfl, h1, h2⟩ := l.get h hu
  exact ⟨_, _, rfl, sq_of h1, fun l hf => k.newD h hf (h2.cut lo hi) q⟩
theorem g_slO1 (l : Lst (b :: Oa) x es) (q : ∀ l, Q (.ad l) (b :: (l, .lst ((cut es lo hi).map .dat)) :: Oa)) : SlW K (rSlL K) x lo hi (b :: Oa) Q := fun Hk H h u hu Q' k => by
  obtain ⟨a, xs, rfl, h1, h2⟩ := l.get h hu
  exact ⟨_, _, rfl, sq_of h1, fun l hf => k.newO1 h hf (h2.cut lo hi) q⟩
theorem g_cat (l1 : Lst O x es) (l2 : Lst O y fs) (hz : es.length + fs.length ≤ 1000000) (q : Q (.dat (.list (es ++ fs))) O) : OpW K rCat x y O Q := fun Hk H h u v hu hv Q' k => by
  obtain ⟨a, xs, rfl, h1, h2⟩ := l1.get h hu
  obtain ⟨a2, ys, rfl, g1, g2⟩ := l2.get h hv
  exact ⟨_, _, xs, ys, rfl, rfl, h1, g1, by rw [h2.length, g2.length]; exact Nat.le_trans hz (by decide), fun l hf => k.newD h hf (h2.append g2) q⟩
theorem g_catO1 (l1 : Lst (b :: Oa) x es) (l2 : Lst (b :: Oa) y fs) (hz : es.length + fs.length ≤ 1000000) (q : ∀ l, Q (.ad l) (b :: (l, .lst ((es ++ fs).map .dat)) :: Oa)) : OpW K rCat x y (b :: Oa) Q := fun Hk H h u v hu hv Q' k => by
  obtain ⟨a, xs, rfl, h1, h2⟩ := l1.get h hu
  obtain ⟨a2, ys, rfl, g1, g2⟩ := l2.get h hv
  exact ⟨_, _, xs, ys, rfl, rfl, h1, g1, by rw [h2.length, g2.length]; exact Nat.le_trans hz (by decide), fun l hf => k.newO1 h hf (h2.append g2) q⟩
theorem g_rep {k : Int} (l1 : Lst O x es) (h0 : k ≤ 1000) (h00 : -1000 ≤ k) (hz : es.length ≤ 1000) (q : Q (.dat (.list (List.replicate k.toNat es).flatten)) O) : OpW K rRep x (iV k) O Q := fun Hk H h u v hu hv Q' kk => by
  obtain ⟨a, xs, rfl, h1, h2⟩ := l1.get h hu
  cases (show Da Hk v (.int k) from hv)
  refine ⟨_, k, xs, rfl, rfl, h1, by omega, by omega, ?_, fun l hf => kk.newD h hf (h2.rep _) q⟩
  rw [h2.length]
  have h3 : es.length * k.toNat ≤ 1000 * 1000 := Nat.mul_le_mul hz (by omega)
  exact Nat.le_trans h3 (by decide)
theorem g_ix {i : Int} {d : PyData} (l : Lst O x es) (ha : atI es i = some d) (q : Q (.dat d) O) : OpW K (rIxL K) x (iV i) O Q := fun Hk H h u v hu hv Q' k => by
  obtain ⟨a, xs, rfl, h1, h2⟩ := l.get h hu
  cases (show Da Hk v (.int i) from hv)
  obtain ⟨j, e1, e2⟩ := atI_get ha
  obtain ⟨w, g1, g2⟩ := h2.get e2
  exact ⟨_, xs, i, w, rfl, rfl, sq_of h1, atI_of (by rw [h2.length]; exact e1) g1, k.now h (r := .dat d) g2 q⟩
end
theorem sz_ok {n : Nat} (h : Nat.ble n 1000000 = true) : n ≤ sizeLine := Nat.le_trans (Nat.le_of_ble_eq_true h) (by decide)
def intOf : PyData → Int
  | .int n => n
  | _ => 0
/-- an item of a written menu of ints -/
theorem o_pickM {K : PySem.W.Frag} {O : Own} {Q : SD → Own → Prop} {es : List PyData} {i : Int} (he : es = (es.map intOf).map .int) (h0 : 0 ≤ i) (h1 : i < es.length) (q : ∀ v, v ∈ es.map intOf → Q (iV v) O) : OpW K (rIxL K) (.dat (.list es)) (iV i) O Q :=
  o_pickL h0 h1 fun d hd => by
    rw [he] at hd
    obtain ⟨v, hv, rfl⟩ := List.mem_map.mp hd
    exact q v hv
section
variable {K : PySem.W.Frag} {O O' Oa : Own} {ds : List SD} {Q : SD → Own → Prop} {A : AE} {t : TS} {te : TE}
/-- a name of an owned list of data: from here on it is data -/
theorem s_frz {i : Nat} {a : Addr} {rs : List SD} {es : List PyData} (hi : ds[i]? = some (.ad a)) (hp : O.Perm ((a, OD.lst rs) :: Oa)) (hd : Dats rs es) (h : StW K t Oa (ds.set i (.dat (.list es))) A) : StW K t O ds A := fun Hk σ H D p l => by
  obtain rfl := hd.eq
  obtain ⟨Hk2, e2, h2, d2⟩ := (p.hold.perm hp).freeze
  have p2 : Pt K Hk2 Oa ds σ H := p.ext e2 h2
  rcases p.env i (.ad a) hi with z | ⟨v, hv, hs⟩
  · cases z
  · cases (show v = .ref a from hs)
    refine h Hk2 σ H D ?_ (l.ext e2)
    have p3 := p2.set (j := i) (r := .dat (.list es)) (v := .ref a) d2
    have e : σ.set i (some (.ref a)) = σ := by
      obtain ⟨hl, e⟩ := List.getElem?_eq_some_iff.mp hv
      rw [← e]
      exact List.set_getElem_self hl
    rw [e] at p3
    exact p3
theorem g_nthO {a : Addr} {ns : List Int} {i : Int} (hm : (a, OD.lst (ns.map fun n => iV n)) ∈ O) (h0 : 0 ≤ i) (h1 : i < ns.length) (q : Q (iV (ns.getD i.toNat 0)) O) : OpW K (rIxL K) (.ad a) (iV i) O Q := by
  obtain ⟨d, h, e, _⟩ := atI_in (xs := ns.map PyData.int) h0 (by rw [List.length_map]; exact h1)
  rw [List.getElem?_map] at e
  refine g_ix (.o hm (Dats.ints ns)) h ?_
  cases z : ns[i.toNat]? with
  | none => rw [z] at e; cases e
  | some n =>
    rw [z] at e
    cases e
    rw [List.getD_eq_getElem?_getD, z] at q
    exact q
theorem ixN_in {n : Nat} {k : Int} (h0 : 0 ≤ k) (h1 : k < n) : ixN n k = some k.toNat := by
  unfold ixN
  rw [if_pos h0, if_pos h1]
theorem dats_iV (ns : List Int) : (ns.map PyData.int).map SD.dat = ns.map fun n => iV n := by rw [List.map_map]; rfl
theorem iV_set (ns : List Int) (j : Nat) (v : Int) : (ns.map fun n => iV n).set j (iV v) = (ns.set j v).map fun n => iV n := by rw [List.map_set]
end
section
variable {K : PySem.W.Frag} {O : Own} {Q : SD → Own → Prop} {n : String} {b : Bool}
theorem i_B {x : Bool} (hb : kitB "bool" n = some b) (q : Q (bV b) O) : CbW K (rIsi K) [bV x, .ty n] O Q := c_isi (d := .bool x) hb q
theorem i_I {x : Int} (hb : kitB "int" n = some b) (q : Q (bV b) O) : CbW K (rIsi K) [iV x, .ty n] O Q := c_isi (d := .int x) hb q
theorem i_T {x : List PyData} (hb : kitB "tuple" n = some b) (q : Q (bV b) O) : CbW K (rIsi K) [.dat (.tuple x), .ty n] O Q := c_isi (d := .tuple x) hb q
theorem i_L {x : List PyData} (hb : kitB "list" n = some b) (q : Q (bV b) O) : CbW K (rIsi K) [.dat (.list x), .ty n] O Q := c_isi (d := .list x) hb q
theorem i_N (hb : kitB "NoneType" n = some b) (q : Q (bV b) O) : CbW K (rIsi K) [.dat .none, .ty n] O Q := c_isi (d := .none) hb q
theorem i_O {a : Addr} {rs : List SD} (hm : (a, OD.lst rs) ∈ O) (hb : kitB "list" n = some b) (q : Q (bV b) O) : CbW K (rIsi K) [.ad a, .ty n] O Q := c_isiO hm hb q
end
theorem cut_lo {α : Type} (xs : List α) {i : Int} (h0 : 0 ≤ i) : cut xs (some i) none = xs.drop i.toNat := by
  obtain ⟨k, rfl⟩ : ∃ k : Nat, i = (k : Int) := ⟨i.toNat, by omega⟩
  unfold cut
  rw [HT.sIx_nat, HT.sIx_none, Int.toNat_natCast]
  by_cases h : k ≤ xs.length
  · rw [Nat.min_eq_left h]
    exact List.take_of_length_le (by rw [List.length_drop]; exact Nat.le_refl _)
  · rw [Nat.min_eq_right (by omega), List.drop_length, List.take_nil, List.drop_eq_nil_of_le (by omega)]
theorem cut_hi {α : Type} (xs : List α) {i : Int} (h0 : 0 ≤ i) : cut xs none (some i) = xs.take i.toNat := by
  obtain ⟨k, rfl⟩ : ∃ k : Nat, i = (k : Int) := ⟨i.toNat, by omega⟩
  unfold cut
  rw [HT.sIx_nat, HT.sIx_none, Int.toNat_natCast, List.drop_zero, Nat.sub_zero]
  by_cases h : k ≤ xs.length
  · rw [Nat.min_eq_left h]
  · rw [Nat.min_eq_right (by omega), List.take_length, List.take_of_length_le (by omega)]
theorem cut_map {α β : Type} (f : α → β) (xs : List α) (lo hi : Option Int) : cut (xs.map f) lo hi = (cut xs lo hi).map f := by
  unfold cut
  rw [List.length_map, ← List.map_drop, ← List.map_take]
theorem cut_len {α : Type} (xs : List α) (lo hi : Option Int) : (cut xs lo hi).length ≤ xs.length := by
  unfold cut
  rw [List.length_take, List.length_drop]
  omega
theorem g_catT {K : PySem.W.Frag} {O : Own} {Q : SD → Own → Prop} {es fs : List PyData} (hz : es.length + fs.length ≤ 1000000) (q : Q (.dat (.tuple (es ++ fs))) O) : OpW K (rCatA K) (.dat (.tuple es)) (.dat (.tuple fs)) O Q := o_catT (Nat.le_trans hz (by decide)) q
theorem map_app1 (ns : List Int) (v : Int) : ns.map PyData.int ++ [PyData.int v] = (ns ++ [v]).map PyData.int := by rw [List.map_append]; rfl
theorem b_any {b : Bool} {A B : Prop} (h1 : b = true → A) (h2 : b = false → B) : (b = true → A) ∧ (b = false → B) := ⟨h1, h2⟩
end Wk
namespace Wk
open PySem PySem.Spec PyProof.Rows L2
/-! ### plain data: ints and None in lists and tuples, n deep -/
def plB : Nat → PyData → Bool
  | _, .int _ => true
  | _, .none => true
  | n + 1, .list xs => xs.all (plB n)
  | n + 1, .tuple xs => xs.all (plB n)
  | _, _ => false
def PlAll (n : Nat) (xs : List PyData) : Prop := ∀ x ∈ xs, plB n x = true
theorem PlAll.nil (n : Nat) : PlAll n [] := fun _ h => absurd h List.not_mem_nil
theorem PlAll.cons {n : Nat} {x : PyData} {xs : List PyData} (h : plB n x = true) (r : PlAll n xs) : PlAll n (x :: xs) := fun y hy => (List.mem_cons.mp hy).elim (fun e => e ▸ h) (r y)
theorem PlAll.app {n : Nat} {xs ys : List PyData} (h : PlAll n xs) (r : PlAll n ys) : PlAll n (xs ++ ys) := fun y hy => (List.mem_append.mp hy).elim (h y) (r y)
theorem PlAll.map {α : Type} {n : Nat} {f : α → PyData} {xs : List α} (h : ∀ x, plB n (f x) = true) : PlAll n (xs.map f) := fun y hy => by
  obtain ⟨x, _, rfl⟩ := List.mem_map.mp hy
  exact h x
theorem pl_int (n : Nat) (i : Int) : plB n (.int i) = true := by cases n <;> rfl
theorem pl_none (n : Nat) : plB n .none = true := by cases n <;> rfl
theorem pl_list {n : Nat} {xs : List PyData} (h : PlAll n xs) : plB (n + 1) (.list xs) = true := List.all_eq_true.mpr h
theorem pl_tuple {n : Nat} {xs : List PyData} (h : PlAll n xs) : plB (n + 1) (.tuple xs) = true := List.all_eq_true.mpr h
theorem plAll_of {n : Nat} {x : PyData} {xs : List PyData} (h : PlAll n (x :: xs)) : plB n x = true ∧ PlAll n xs := ⟨h x List.mem_cons_self, fun y hy => h y (List.mem_cons_of_mem _ hy)⟩
theorem pl_lay : ∀ (n : Nat) (d : PyData), plB n d = true → d.canLay0 = true ∧ d.depth ≤ n := by
  intro n
  induction n with
  | zero => intro d h; cases d <;> first | (cases h; done) | exact ⟨rfl, Nat.le_refl _⟩ | cases h
  | succ n ih =>
    have all : ∀ xs : List PyData, PlAll n xs → PyData.canLayAll0 xs = true ∧ PyData.depthAll xs ≤ n := by
      intro xs
      induction xs with
      | nil => intro _; exact ⟨rfl, Nat.zero_le _⟩
      | cons x xs ihx =>
        intro h
        obtain ⟨h1, h2⟩ := plAll_of h
        obtain ⟨a1, a2⟩ := ih x h1
        obtain ⟨b1, b2⟩ := ihx h2
        refine ⟨by simp [PyData.canLayAll0, a1, b1], ?_⟩
        simp only [PyData.depthAll]
        omega
    intro d h
    cases d with
    | none => exact ⟨rfl, Nat.zero_le _⟩
    | int i => exact ⟨rfl, Nat.zero_le _⟩
    | bool b => cases h
    | str b => cases h
    | dict b => cases h
    | list xs =>
      obtain ⟨a, b⟩ := all xs (List.all_eq_true.mp h)
      exact ⟨by simpa [PyData.canLay0] using a, by simp only [PyData.depth]; omega⟩
    | tuple xs =>
      obtain ⟨a, b⟩ := all xs (List.all_eq_true.mp h)
      exact ⟨by simpa [PyData.canLay0] using a, by simp only [PyData.depth]; omega⟩
theorem pl_shaped {n : Nat} {d : PyData} (h : plB n d = true) (hn : n ≤ 64) : SeqAt.shaped d = true := by
  obtain ⟨a, b⟩ := pl_lay n d h
  unfold SeqAt.shaped
  rw [a, decide_eq_true (Nat.le_trans b hn)]
  rfl
theorem eqv_iff : ∀ (n : Nat) (d e : PyData), plB n d = true → plB n e = true → (PyData.eqv d e = true ↔ d = e) := by
  intro n
  induction n with
  | zero =>
    intro d e h k
    cases d <;> cases e <;> first | (cases h; done) | (cases k; done) | (simp [PyData.eqv])
  | succ n ih =>
    have all : ∀ xs ys : List PyData, PlAll n xs → PlAll n ys → (PyData.eqvAll xs ys = true ↔ xs = ys) := by
      intro xs
      induction xs with
      | nil => intro ys _ _; cases ys <;> simp [PyData.eqvAll]
      | cons x xs ihx =>
        intro ys h k
        cases ys with
        | nil => simp [PyData.eqvAll]
        | cons y ys =>
          obtain ⟨h1, h2⟩ := plAll_of h
          obtain ⟨k1, k2⟩ := plAll_of k
          simp only [PyData.eqvAll, Bool.and_eq_true, ih x y h1 k1, ihx ys h2 k2, List.cons.injEq]
    intro d e h k
    cases d with
    | bool b => cases h
    | str b => cases h
    | dict b => cases h
    | none => cases e <;> first | (cases k; done) | (simp [PyData.eqv])
    | int i => cases e <;> first | (cases k; done) | (simp [PyData.eqv])
    | list xs =>
      cases e with
      | list ys => simp only [PyData.eqv, PyData.list.injEq, all xs ys (List.all_eq_true.mp h) (List.all_eq_true.mp k)]
      | bool b => cases k
      | str b => cases k
      | dict b => cases k
      | none => simp [PyData.eqv]
      | int i => simp [PyData.eqv]
      | tuple i => simp [PyData.eqv]
    | tuple xs =>
      cases e with
      | tuple ys => simp only [PyData.eqv, PyData.tuple.injEq, all xs ys (List.all_eq_true.mp h) (List.all_eq_true.mp k)]
      | bool b => cases k
      | str b => cases k
      | dict b => cases k
      | none => simp [PyData.eqv]
      | int i => simp [PyData.eqv]
      | list i => simp [PyData.eqv]
section
variable {K : PySem.W.Frag} {O : Own} {Q : SD → Own → Prop} {d e : PyData}
theorem o_eqP (h1 : plB 8 d = true) (h2 : plB 8 e = true) (q : ∀ b, (b = true ↔ d = e) → Q (bV b) O) : OpW K (rEqD K) (.dat d) (.dat e) O Q :=
  o_eqD (pl_shaped h1 (by decide)) (pl_shaped h2 (by decide)) (q _ (eqv_iff 8 d e h1 h2))
theorem o_neP (h1 : plB 8 d = true) (h2 : plB 8 e = true) (q : ∀ b, (b = true ↔ d = e) → Q (bV (!b)) O) : OpW K (rNeD K) (.dat d) (.dat e) O Q :=
  o_neD (pl_shaped h1 (by decide)) (pl_shaped h2 (by decide)) (q _ (eqv_iff 8 d e h1 h2))
end
theorem ints_inj {a b : List Int} (h : a.map PyData.int = b.map PyData.int) : a = b := by
  induction a generalizing b with
  | nil => cases b with
    | nil => rfl
    | cons y s => cases h
  | cons x r ih => cases b with
    | nil => cases h
    | cons y s =>
      rw [List.map_cons, List.map_cons] at h
      injection h with h1 h2
      injection h1 with h1
      rw [h1, ih h2]
theorem tI_inj {a b : List Int} (h : tI a = tI b) : a = b := by
  injection h with h
  exact ints_inj h
abbrev lS (cs : List (List Int)) : PyData := .list (cs.map fun c => tI c)
abbrev tS (cs : List (List Int)) : PyData := .tuple (cs.map fun c => tI c)
theorem shapes_inj {a b : List (List Int)} (h : (a.map fun c => tI c) = b.map fun c => tI c) : a = b := by
  induction a generalizing b with
  | nil => cases b with
    | nil => rfl
    | cons y s => cases h
  | cons x r ih => cases b with
    | nil => cases h
    | cons y s =>
      rw [List.map_cons, List.map_cons] at h
      injection h with h1 h2
      rw [tI_inj h1, ih h2]
theorem lS_inj {a b : List (List Int)} (h : lS a = lS b) : a = b := by
  injection h with h
  exact shapes_inj h
section
variable {K : PySem.W.Frag} {O : Own} {Q : SD → Own → Prop}
theorem getD_some {α : Type} {xs : List α} {j : Nat} {d : α} (h : j < xs.length) : xs[j]? = some (xs.getD j d) := by
  rw [List.getD_eq_getElem?_getD, List.getElem?_eq_getElem h]
  rfl
/-- a shape of a list of shapes, a row of a tuple of rows -/
theorem o_nthS {cs : List (List Int)} {i : Int} (h0 : 0 ≤ i) (h1 : i < cs.length) (q : Q (.dat (tI (cs.getD i.toNat []))) O) : OpW K (rIxL K) (.dat (lS cs)) (iV i) O Q := by
  obtain ⟨d, h, e, _⟩ := atI_in (xs := cs.map fun c => tI c) h0 (by rw [List.length_map]; exact h1)
  rw [List.getElem?_map, getD_some (d := []) (by omega)] at e
  cases e
  exact o_ixL h q
theorem o_nthST {cs : List (List Int)} {i : Int} (h0 : 0 ≤ i) (h1 : i < cs.length) (q : Q (.dat (tI (cs.getD i.toNat []))) O) : OpW K (rIxT K) (.dat (tS cs)) (iV i) O Q := by
  obtain ⟨d, h, e, _⟩ := atI_in (xs := cs.map fun c => tI c) h0 (by rw [List.length_map]; exact h1)
  rw [List.getElem?_map, getD_some (d := []) (by omega)] at e
  cases e
  exact o_ixT h q
/-- the last -/
theorem at_last {α : Type} {xs : List α} {d : α} (h : xs ≠ []) : atI xs (-1) = some (xs.getD (xs.length - 1) d) := by
  have hl : 0 < xs.length := List.length_pos_iff.mpr h
  unfold atI ixN
  rw [if_neg (by decide), if_pos (by omega)]
  show xs[((-1 : Int) + (xs.length : Int)).toNat]? = _
  rw [show ((-1 : Int) + (xs.length : Int)).toNat = xs.length - 1 by omega]
  exact getD_some (by omega)
theorem o_lastS {cs : List (List Int)} (h : cs ≠ []) (q : Q (.dat (tI (cs.getD (cs.length - 1) []))) O) : OpW K (rIxL K) (.dat (lS cs)) (iV (-1)) O Q := by
  refine o_ixL (d := tI (cs.getD (cs.length - 1) [])) ?_ q
  rw [at_last (d := .none) (by simpa using h)]
  congr 1
  rw [List.length_map, List.getD_eq_getElem?_getD, List.getElem?_map, getD_some (d := []) (by have := List.length_pos_iff.mpr h; omega)]
  rfl
end
theorem cut_length {α : Type} (xs : List α) (lo hi : Option Int) : (cut xs lo hi).length = min (HT.sIx xs.length xs.length hi - HT.sIx xs.length 0 lo) (xs.length - HT.sIx xs.length 0 lo) := by
  unfold cut
  rw [List.length_take, List.length_drop]
/-- lists of shapes of bounded sizes -/
def GoodX (n : Nat) (xs : List PyData) : Prop := ∃ o : List (List Int), xs = o.map (fun c => tI c) ∧ o.length ≤ n ∧ ∀ c ∈ o, c.length ≤ 1000
theorem GoodX.cut {n : Nat} {xs : List PyData} (h : GoodX n xs) (lo hi : Option Int) : GoodX n (cut xs lo hi) := by
  obtain ⟨o, rfl, h1, h2⟩ := h
  refine ⟨Wk.cut o lo hi, cut_map _ _ _ _, Nat.le_trans (cut_len _ _ _) h1, fun c hc => h2 c ?_⟩
  unfold Wk.cut at hc
  exact List.mem_of_mem_drop (List.mem_of_mem_take hc)
theorem GoodX.app {n m : Nat} {xs ys : List PyData} (h : GoodX n xs) (k : GoodX m ys) : GoodX (n + m) (xs ++ ys) := by
  obtain ⟨o, rfl, h1, h2⟩ := h
  obtain ⟨p, rfl, k1, k2⟩ := k
  refine ⟨o ++ p, by rw [List.map_append], by rw [List.length_append]; omega, fun c hc => ?_⟩
  rcases List.mem_append.mp hc with hc | hc
  · exact h2 c hc
  · exact k2 c hc
theorem GoodX.rev {n : Nat} {xs : List PyData} (h : GoodX n xs) : GoodX n xs.reverse := by
  obtain ⟨o, rfl, h1, h2⟩ := h
  exact ⟨o.reverse, by rw [List.map_reverse], by rw [List.length_reverse]; exact h1, fun c hc => h2 c (List.mem_reverse.mp hc)⟩
theorem GoodX.one {ns : List Int} (h : ns.length ≤ 1000) : GoodX 1 [tI ns] := ⟨[ns], rfl, Nat.le_refl _, fun c hc => by rw [List.mem_singleton.mp hc]; exact h⟩
theorem GoodX.len {n : Nat} {xs : List PyData} (h : GoodX n xs) : xs.length ≤ n := by
  obtain ⟨o, rfl, h1, h2⟩ := h
  rw [List.length_map]
  exact h1
section
variable {K : PySem.W.Frag} {O O' : Own} {ds : List SD} {Q : SD → Own → Prop} {x y : SD} {es : List PyData} {d e : PyData}
theorem Lst.ne (l : Lst O x es) : x ≠ .non := by
  cases l with
  | d => exact fun z => nomatch z
  | o _ _ => exact fun z => nomatch z
theorem Lst.weak (l : Lst O x es) (h : ∀ p ∈ O, p ∈ O') : Lst O' x es := by
  cases l with
  | d => exact .d
  | o hm hd => exact .o (h _ hm) hd
theorem w_vX {i : Nat} (h : ds[i]? = some x) (l : Lst O x es) (q : Q x O) : EvW K (tVar i) O ds Q := w_var h l.ne q
theorem o_nthG {cs : List (List Int)} {i : Int} (l : Lst O x (cs.map fun c => tI c)) (h0 : 0 ≤ i) (h1 : i < cs.length) (q : Q (.dat (tI (cs.getD i.toNat []))) O) : OpW K (rIxL K) x (iV i) O Q := by
  obtain ⟨d, h, e, _⟩ := atI_in (xs := cs.map fun c => tI c) h0 (by rw [List.length_map]; exact h1)
  rw [List.getElem?_map, getD_some (d := []) (by omega)] at e
  cases e
  exact g_ix l h q
/-- what may be compared: data, or an owned list of data -/
inductive Val (O : Own) : SD → PyData → Prop
  | d {d : PyData} : Val O (.dat d) d
  | l {x : SD} {es : List PyData} (h : Lst O x es) : Val O x (.list es)
theorem Val.dp {H Hk : Hp} (v : Val O x d) (h : Hold K Hk O H) {u : V} (hu : SDok K Hk u x) : Dp K H u d := by
  cases v with
  | d => exact (Da.mono h.kn hu).dp
  | l h1 =>
    obtain ⟨a, xs, rfl, g1, g2⟩ := h1.get h hu
    exact .lst (sq_of g1) (DaAll.mono h.kn g2).dp
theorem o_eqV (v1 : Val O x d) (v2 : Val O y e) (h1 : plB 8 d = true) (h2 : plB 8 e = true) (q : ∀ b, (b = true ↔ d = e) → Q (bV b) O) : OpW K (rEqD K) x y O Q := fun Hk H h u v hu hv Q' k =>
  ⟨d, e, v1.dp h hu, v2.dp h hv, pl_shaped h1 (by decide), pl_shaped h2 (by decide), k.now h (r := bV _) (.bl _) (q _ (eqv_iff 8 d e h1 h2))⟩
theorem o_neV (v1 : Val O x d) (v2 : Val O y e) (h1 : plB 8 d = true) (h2 : plB 8 e = true) (q : ∀ b, (b = true ↔ d = e) → Q (bV (!b)) O) : OpW K (rNeD K) x y O Q := fun Hk H h u v hu hv Q' k =>
  ⟨d, e, v1.dp h hu, v2.dp h hv, pl_shaped h1 (by decide), pl_shaped h2 (by decide), k.now h (r := bV _) (.bl _) (q _ (eqv_iff 8 d e h1 h2))⟩
end
theorem w_chain {K : PySem.W.Frag} {O : Own} {ds : List SD} {Q : SD → Own → Prop} {r r' : R2} {ta tb tc : TE} (h : EvW K ta O ds fun x O1 => EvW K tb O1 ds fun y O2 => OpW K r x y O2 fun z O3 => ∃ k, z = bV k ∧ (k = true → EvW K tc O3 ds fun w O4 => OpW K r' y w O4 Q) ∧ (k = false → Q (bV false) O3)) : EvW K (tChain r r' ta tb tc) O ds Q := fun Hk σ H p Q' k =>
  h Hk σ H p _ fun v1 x O1 Hk1 H1 e1 h1 s1 q1 => q1 Hk1 σ H1 (p.ext e1 h1) _ fun v2 y O2 Hk2 H2 e2 h2 s2 q2 =>
    q2 Hk2 H2 h2 v1 v2 (s1.mono e2) s2 _ fun v3 z O3 Hk3 H3 e3 h3 s3 q3 => by
      obtain ⟨c, rfl, qt, qf⟩ := q3
      cases (show Da Hk3 v3 (.bool c) from s3)
      refine ⟨c, rfl, ?_⟩
      cases c with
      | true => exact iteT (qt rfl Hk3 σ H3 (((p.ext e1 h1).ext e2 h2).ext e3 h3) _ fun v4 w O4 Hk4 H4 e4 h4 s4 q4 => q4 Hk4 H4 h4 v2 v4 (s2.mono (e3.trans e4)) s4 Q' (k.ext (e1.trans (e2.trans (e3.trans e4)))))
      | false => exact iteF (k _ (bV false) O3 Hk3 H3 (e1.trans (e2.trans e3)) h3 (.bl false) (qf rfl))
end Wk
namespace Wk
open PySem PySem.Spec PyProof.Rows L2
/-! ### enumerate of a tuple -/
theorem enumT_meets (a : Addr) (xs : Array Value) (n : Nat) (d0 : Option Addr) (sl : Array (Option Value)) :
    Meets (Builtin.«enumerate.__new__» ⟨[.type "enumerate", .ref a], []⟩) (fun _ R s => s.heap.get? a = some { cls := .type "tuple", dict := d0, data := .seq xs n, slots := sl } ∧
      R (.ok (.ret (.ref (s.heap.push { cls := .type "tuple_iterator", data := .fields #[.ref a, .int 0 0] }).objs.size)))
        { s with heap := (s.heap.push { cls := .type "tuple_iterator", data := .fields #[.ref a, .int 0 0] }).push { cls := .type "enumerate", data := .fields #[.none, .bool false, .ref s.heap.objs.size, rawInt 0, .none, .none] } }) :=
  .of_wp fun prog w A R s h => by
    obtain ⟨hp, g, dr, tk, os⟩ := s
    obtain ⟨ha, h⟩ := h
    have sub := sub_enumerate
    have hT : Heap.IsTuple (Shared.heap ⟨hp, g, dr, tk, os⟩) a xs := ⟨_, ha, rfl, n, rfl⟩
    wp_walk using AutoSeq1.wpAny_loadPart' ha
    refine wpAny_stack_any fun st => wpAny_pure ?_
    split
    · rename_i c _ _ _ _ _
      cases (c == Value.type "enumerate")
      · wp_walk using AutoSeq1.wpAny_loadPart' ha, wpAny_pyIter_tuple hT
        exact ⟨_, rfl, h⟩
      · wp_walk using AutoSeq1.wpAny_loadPart' ha, wpAny_pyIter_tuple hT
        exact ⟨_, rfl, h⟩
    · wp_walk using AutoSeq1.wpAny_loadPart' ha, wpAny_pyIter_tuple hT
      exact ⟨_, rfl, h⟩
theorem call_enumT {prog : Program} {w : World} {A : Around} {E : Value → Shared → Prop} {s : Shared} {a : Addr} {xs : Array Value} {Q : Value → Shared → Prop} (hT : s.heap.IsTuple a xs)
    (h : ∀ h', IsEnum h' (s.heap.objs.size + 1) s.heap.objs.size 0 .none → h'.IsTupleIter s.heap.objs.size a 0 → h'.objs.size = s.heap.objs.size + 2 → (∀ b o, s.heap.get? b = some o → h'.get? b = some o) →
      Q (.ref (s.heap.objs.size + 1)) { s with heap := h' }) : wpAny (model prog w) A (call (.type "enumerate") [.ref a]) Q E s := by
  obtain ⟨⟨c, d0, dt, sl⟩, ha, hc, n, hd⟩ := hT
  replace hc : c = .type "tuple" := hc
  replace hd : dt = .seq xs n := hd
  subst hc hd
  refine callType_new F.called_enumerate (by decide) (F.typeCall_enumerate_1 _) (F.newCall_enumerate_1 _) (fun ob => F.args_object_init_2 ob _) F.entry_enumerate_new (enumT_meets a xs n d0 sl) ⟨ha, ?_⟩
  have z1 : (s.heap.push { cls := .type "tuple_iterator", data := .fields #[.ref a, .int 0 0] }).objs.size = s.heap.objs.size + 1 := Heap.size_push ..
  show _ ∧ _
  rw [z1]
  have he : IsEnum ((s.heap.push { cls := .type "tuple_iterator", data := .fields #[.ref a, .int 0 0] }).push { cls := .type "enumerate", data := .fields #[.none, .bool false, .ref s.heap.objs.size, rawInt 0, .none, .none] }) (s.heap.objs.size + 1) s.heap.objs.size 0 .none := by
    have g := Heap.get?_push_size (s.heap.push { cls := .type "tuple_iterator", data := .fields #[.ref a, .int 0 0] }) (o := { cls := .type "enumerate", data := .fields #[.none, .bool false, .ref s.heap.objs.size, rawInt 0, .none, .none] }) rfl
    rw [z1] at g
    exact g
  refine ⟨⟨_, he, rfl⟩, h _ he ⟨_, Heap.get?_push_of_some _ (Heap.get?_push_size _ rfl), rfl, rfl⟩ ?_ fun b o y => Heap.get?_push_of_some _ (Heap.get?_push_of_some _ y)⟩
  rw [Heap.size_push, z1]
/-- a tuple's items, each in a new pair with its number -/
def IteT (K : PySem.W.Frag) (a : Addr) : It :=
  ⟨fun i H => ∃ (xs : List V) (x : V), SqT K H a xs ∧ xs[i]? = some x, fun i H v H' => ∃ T x, v = .ref T ∧ H T = none ∧ H' = upd H T (.tup [.int (i : Nat), x]) ∧ ∀ xs, SqT K H a xs → xs[i]? = some x, fun i H => ∃ xs : List V, SqT K H a xs ∧ xs.length = i⟩
theorem turn_enumT {P : Program} {w : World} {K : PySem.W.Frag} {elts : List Expr} {kk : Nat} {tpos : Pos} (a e it : Addr) (ne : e ≠ it) (na : a ≠ it) (nea : e ≠ a) :
    Turn P w K (.Tuple elts kk tpos) (IteT K a) [e, it] e (fun i h => (∃ old, IsEnum h e it ((i : Nat) : Int) old) ∧ h.IsTupleIter it a i) where
  mem := by simp
  obj := fun i h st b hb => by
    obtain ⟨⟨old, he⟩, ⟨o, ho, hc, hd⟩⟩ := st
    have e' : b = e ∨ b = it := by simpa using hb
    rcases e' with z | z
    · subst z
      exact ⟨_, he, fun v q => nomatch q⟩
    · subst z
      exact ⟨o, ho, fun v q => by rw [hd] at q; cases q⟩
  keep := fun i h h' st k => let ⟨⟨old, he⟩, hi⟩ := st; ⟨⟨old, k e (by simp) _ he⟩, hi.at fun o q => k it (by simp) o q⟩
  item := by
    intro X hP hw hK hc i pins s σ H E I hf st hg
    subst hP hw hK
    obtain ⟨⟨old, he⟩, hit⟩ := st
    obtain ⟨xs, x, hq, hx⟩ := hg
    obtain ⟨its, rv, p, hz⟩ := I.tuple hq
    obtain ⟨u, hu, ru⟩ := rv.get hx
    have hel : e < s.heap.objs.size := Heap.lt_size he
    have hil : it < s.heap.objs.size := by obtain ⟨_, q, _⟩ := hit; exact Heap.lt_size q
    have hlt : i < its.toArray.size := by
      have := (List.getElem?_eq_some_iff.mp hu).1
      simpa using this
    refine wpAny_pyNext_enum_itemD (Draws.tuple (A := X.A.in1) (show X.A.in1.handled = none from I.ok.hd hc) it a na its.toArray) he ⟨hit, show s.heap.IsTuple a its.toArray from p⟩ hlt ne (by simp [ne, nea]) fun x' h' tk hx' ho hst' hT hsz hk => ?_
    have ex : x' = u := by
      rw [List.getElem?_toArray, hu] at hx'
      exact (Option.some.inj hx').symm
    subst ex
    refine ⟨_, rfl, wpAny_letOwnedTupleGo_enum (s := { s with heap := h', toks := tk + 1 }) ho fun h'' he' sb => ?_⟩
    have hT2 : h''.get? s.heap.objs.size = some { cls := .type "tuple", data := .seq #[.int i tk, x'] } := (sb.2 _ (Nat.ne_of_gt hel)).trans hT
    have new : ObjOk X.prog X.w (upd H s.heap.objs.size (.tup [.int (i : Nat), x])) h'' s.heap.objs.size (.tup [.int (i : Nat), x]) :=
      ⟨by show 2 ≤ sizeLine; decide, [.int i tk, x'], .cons ⟨_, rfl⟩ (.cons ru .nil), ⟨_, hT2, rfl, _, rfl⟩⟩
    have I1 : Inv X pins σ (upd H s.heap.objs.size (.tup [.int (i : Nat), x])) { s with heap := h'', toks := tk + 1 } :=
      I.turnedNew (ch := [e, it]) (fun b ob hb q => (sb.2 b (fun z => hb (by simp [z]))).trans (hk b ob (fun z => hb (by simp [z])) (fun z => hb (by simp [z])) q)) hf (Nat.le_refl _) new
    refine ⟨.ref s.heap.objs.size, _, I1, rfl, ⟨_, x, rfl, I.hok.fresh (Nat.le_refl _), rfl, fun ys hy => by rw [I.tuple_inj hy hq]; exact hx⟩, ⟨⟨x', ?_⟩, hst'.1.at fun o q => (sb.2 it (Ne.symm ne)).trans q⟩, fun b hb => ?_⟩
    · have e1 : ((i + 1 : Nat) : Int) = (i : Int) + 1 := by omega
      rw [e1]
      exact he'
    · have hb' : b < s.heap.objs.size := by
        have e' : b = e ∨ b = it := by simpa using hb
        rcases e' with z | z
        · subst z; exact hel
        · subst z; exact hil
      rw [upd_ne (Nat.ne_of_lt hb')]
      exact (hf b hb).1
  done := by
    intro X hP hw hK hc i pins s σ H E I hf st hg
    subst hP hw hK
    obtain ⟨⟨old, he⟩, hit⟩ := st
    obtain ⟨xs, hq, hx⟩ := hg
    obtain ⟨its, rv, p, hz⟩ := I.tuple hq
    obtain ⟨f0, f1, f2, f3, f4, f5⟩ := hf it (by simp)
    have hl := rv.length
    have hs : its.toArray.size = i := by rw [List.size_toArray]; omega
    have hit2 : s.heap.IsTupleIter it a its.toArray.size := by rw [hs]; exact hit
    exact wpAny_pyNext_enum_endD (Draws.tuple (A := X.A.in1) (show X.A.in1.handled = none from I.ok.hd hc) it a na its.toArray) he ⟨hit2, show s.heap.IsTuple a its.toArray from p⟩ fun h' eb => ⟨rfl, I.turned (t' := s.toks) (fun b o hb q => eb b o hb q) f0 f1 f3 f4 f5⟩
  self := fun A i s Q E st h => let ⟨⟨_, he⟩, _⟩ := st; wpAny_pyIter_enum he h
def iEnumT (K : PySem.W.Frag) (ta : TA) : TI := fun σ H R => ta σ H fun vs H1 => ∃ a xs, vs = [.ref a] ∧ SqT K H1 a xs ∧ R (IteT K a) H1
theorem pi_enumT {X : Cx} (K : PySem.W.Frag) {e : Expr} {ta : TA} {p pos tpos : Pos} {elts : List Expr} {kk : Nat} (hg : Gl X "enumerate") (hm : X.mg "enumerate" = none) (ha : PA X [e] ta) (hK : X.K = K := by rfl) (hs : starEach [e] X.env = [(false, eval e X.env)] := by rfl) :
    PI X (.Tuple elts kk tpos) (.Call (.Name "enumerate" p) [e] [] pos) (iEnumT K ta) := by
  subst hK
  refine ⟨fun pins s σ H R I h => ?_⟩
  refine Call_ (ld_blt I hg hm boot_enumerate (PyProof.Rows.callWith_type1 (thn (ha.run pos pins s σ H _ I h) fun us s1 ⟨vs, H1, I1, r1, q1⟩ => ?_) hs rfl))
  obtain ⟨a, xs, ex, hq, q⟩ := q1
  subst ex
  cases r1 with
  | cons r rr =>
    cases rr
    cases r
    obtain ⟨its, rv, p', hz⟩ := I1.tuple hq
    have hT : s1.heap.IsTuple a its.toArray := p'
    have hal : a < s1.heap.objs.size := by obtain ⟨_, g, _⟩ := hT; exact Heap.lt_size g
    refine call_enumT hT fun h' he hit hsz hk => wpAny_pyIter_enum he ?_
    have I2 : Inv X pins σ H1 { s1 with heap := h' } := I1.kept (t' := s1.toks) hk
    refine ⟨s1.heap.objs.size + 1, [s1.heap.objs.size + 1, s1.heap.objs.size], _, _, H1, rfl, I2, turn_enumT a (s1.heap.objs.size + 1) s1.heap.objs.size (Nat.succ_ne_self _) (Nat.ne_of_lt hal) (Nat.ne_of_gt (Nat.lt_succ_of_lt hal)), ⟨⟨.none, he⟩, hit⟩, fun b hb => ?_, q⟩
    have e' : b = s1.heap.objs.size + 1 ∨ b = s1.heap.objs.size := by simpa using hb
    have hle : s1.heap.objs.size ≤ b := by
      rcases e' with z | z
      · rw [z]; exact Nat.le_add_right _ _
      · rw [z]; exact Nat.le_refl _
    exact I1.fpOk hle (I1.hok.fresh hle)
theorem pgTup {X : Cx} (K : PySem.W.Frag) {es : List Expr} {k : Nat} {pos : Pos} {t : TGs} {n : Nat} (hc : X.calm = true) (h : PGs X es t) (hK : X.K = K := by rfl) (hn : (assignEach es X.env).length = n := by rfl)
    (hst : (assignEach es X.env).findIdx? (·.1) = none := by rfl) : PG X (.Tuple es k pos) (gTup K n t) := hK ▸ pg_tup hc h hn hst
section
variable {K : PySem.W.Frag} {Hk Hk' H H' : Hp} {O O' : Own} {ds : List SD} {σ : L2.St} {Q : SD → Own → Prop} {A : AE}
/-- for i, x in enumerate(t), t data -/
theorem s_forET {ta : TA} {j1 j2 : Nat} {tb : TS} (h : AvW K ta O ds fun rs O1 => ∃ es : List PyData, rs = [.dat (.tuple es)] ∧ ∃ I : Nat → Own → List SD → Prop, I 0 O1 ds ∧
    (∀ (i : Nat) d O2 ds2, es[i]? = some d → I i O2 ds2 → ∀ B : AE, Bdy I i A B → StW K tb O2 ((ds2.set j1 (iV (i : Int))).set j2 (.dat d)) B) ∧ ∀ O2 ds2, I es.length O2 ds2 → A.nx O2 ds2) :
    StW K (tFor (iEnumT K ta) (gTup K 2 (gCons (gName j1) (gCons (gName j2) gNil))) tb) O ds A := fun Hk σ H D p l =>
  h Hk σ H p _ fun vs rs O1 Hk1 H1 e1 h1 s1 q1 => by
    obtain ⟨es, rfl, I, h0, hs, hd⟩ := q1
    obtain ⟨v, rfl, hv⟩ := all1 s1
    cases (show Da Hk1 v (.tuple es) from hv) with
    | @tup a xs _ g1 g2 =>
      refine ⟨a, xs, rfl, .inl (.inl (h1.kn _ _ g1)), fun i m σ H => m = xs.length - i ∧ i ≤ xs.length ∧ ∃ O2 ds2 Hk2, Same Hk1 Hk2 ∧ Pt K Hk2 O2 ds2 σ H ∧ I i O2 ds2, ⟨xs.length, by simp, Nat.zero_le _, O1, ds, Hk1, Same.refl _, p.ext e1 h1, h0⟩, ?_⟩
      rintro i m σ' H' ⟨rfl, hi, O2, ds2, Hk2, e, p2, q⟩
      have sq : SqT K H' a xs := .inl (.inl (p2.hold.kn _ _ (e _ _ g1)))
      by_cases hlt : i < xs.length
      · have hx : xs[i]? = some xs[i] := List.getElem?_eq_getElem hlt
        refine .inr ⟨⟨xs, xs[i], sq, hx⟩, fun σ2 H2 => ∃ O3 ds3 Hk3, Same Hk1 Hk3 ∧ Pt K Hk3 O3 ds3 σ2 H2 ∧ I (i + 1) O3 ds3, fun σ2 H2 hN => ⟨xs.length - (i + 1), by omega, rfl, hlt, hN⟩, fun x H2 y => ?_⟩
        obtain ⟨T, x', rfl, nT, rfl, fx⟩ := y
        have ex : x' = xs[i] := by
          have := fx xs sq
          rw [hx] at this
          exact (Option.some.inj this).symm
        obtain ⟨d, hd1, hd2⟩ := g2.getV hx
        have smT : Same Hk2 (upd Hk2 T (.tup [.int (i : Nat), x'])) := same_new (p2.hold.kn.free nT)
        have p3 : Pt K (upd Hk2 T (.tup [.int (i : Nat), x'])) O2 ds2 σ' (upd H' T (.tup [.int (i : Nat), x'])) := p2.ext smT (p2.hold.know nT)
        refine ⟨T, [.int (i : Nat), x'], rfl, .inl (.inl upd_same), rfl, .int (i : Nat), [x'], rfl, x', [], rfl, rfl, ?_⟩
        have hdx : SDok K (upd Hk2 T (.tup [.int (i : Nat), x'])) x' (.dat d) := by
          have := Da.mono (e.trans smT) hd2
          rw [← ex] at this
          exact this
        have e4 := e.trans smT
        exact hs i d O2 ds2 hd1 q _ .mk' _ _ _ _ ((p3.set (j := j1) (r := iV (i : Int)) (.int _)).set (j := j2) hdx) ⟨fun O3 ds3 Hk3 σ3 H3 e3 p3 q3 => ⟨O3, ds3, Hk3, e4.trans e3, p3, q3⟩, l.rt.ext (e1.trans e4), l.nx.ext (e1.trans e4), fun O3 ds3 Hk3 σ3 H3 e3 p3 q3 => ⟨O3, ds3, Hk3, e4.trans e3, p3, q3⟩, l.xt.ext (e1.trans e4)⟩
      · have ei : i = xs.length := by omega
        refine .inl ⟨⟨xs, sq, ei.symm⟩, ?_⟩
        rw [ei, g2.length] at q
        exact l.nx O2 ds2 Hk2 σ' H' (e1.trans e) p2 (hd O2 ds2 q)
end
end Wk
namespace Wk
open PySem PySem.Spec PyProof.Rows L2
/-! ### the sum of a tuple -/
theorem sum_rawT {prog : Program} {w : World} {A : Around} {E : Value → Shared → Prop} {s : Shared} {l : Addr} {its : List Value} {ns : List Int} {Q : Value → Shared → Prop} (hh : A.handled = none) (hl : s.heap.IsTuple l its.toArray) (hi : IntsAre its ns)
    (h : ∀ h' tk t', (∀ b o, s.heap.get? b = some o → h'.get? b = some o) → Q (.int ns.sum t') { s with heap := h', toks := tk }) : wpAny (model prog w) A (call (.builtin "sum") [.ref l]) Q E s := by
  obtain ⟨xs, e⟩ := hi.allInts.items
  have hn : numsOf (intItems xs).toList = ns := by rw [← e]; exact hi.numsOf
  rw [nums_intItems] at hn
  rw [e] at hl
  refine PySem.W.ktm_sumG hh hl fun h' tk t' hk => ?_
  have := h h' tk t' hk
  rw [preSum_eq, List.take_of_length_le (by simp), hn]
  exact this
def rSumT (K : PySem.W.Frag) : List V → Hp → VK → Prop := fun vs H Q => ∃ (a : Addr) (ns : List Int), vs = [V.ref a] ∧ SqT K H a (ns.map V.int) ∧ Q (.int ns.sum) H
theorem cr_sumT {X : Cx} (hc : X.calm = true) : CallR X (.builtin "sum") (rSumT X.K) := by
  intro pins s σ H vs us Q I r h
  obtain ⟨a, ns, rfl, hs, q⟩ := h
  obtain ⟨its, rv, hl, _⟩ := I.tuple hs
  rw [Vals.ref1 r]
  exact sum_rawT (I.ok.hd hc) hl rv.ints fun h' tk t' hk => ⟨.int _, H, I.kept hk, ⟨_, rfl⟩, q⟩
section
variable {X : Cx} (K : PySem.W.Frag)
theorem kSumT (hc : X.calm = true) (h : X.K = K := by rfl) : CallR X (.builtin "sum") (rSumT K) := h ▸ cr_sumT hc
end
section
variable {K : PySem.W.Frag} {O : Own} {Q : SD → Own → Prop}
theorem g_sumT {ns : List Int} (q : Q (iV ns.sum) O) : CbW K (rSumT K) [.dat (tI ns)] O Q := fun Hk H h us hus Q' k => by
  obtain ⟨u, rfl, hu⟩ := all1 hus
  cases (show Da Hk u (.tuple (ns.map .int)) from hu) with
  | @tup a xs _ h1 h2 =>
    rw [h2.ints] at h1
    exact ⟨_, ns, rfl, .inl (.inl (h.kn _ _ h1)), k.now h (r := iV _) (.int _) q⟩
variable {x : SD} {es : List PyData}
theorem g_repO {k : Int} (l1 : Lst O x es) (h0 : k ≤ 1000) (h00 : -1000 ≤ k) (hz : es.length ≤ 1000) (q : ∀ l, Q (.ad l) ((l, .lst ((List.replicate k.toNat es).flatten.map .dat)) :: O)) : OpW K rRep x (iV k) O Q := fun Hk H h u v hu hv Q' kk => by
  obtain ⟨a, xs, rfl, h1, h2⟩ := l1.get h hu
  cases (show Da Hk v (.int k) from hv)
  refine ⟨_, k, xs, rfl, rfl, h1, by omega, by omega, ?_, fun l hf => kk.newO h hf (h2.rep _) q⟩
  rw [h2.length]
  have h3 : es.length * k.toNat ≤ 1000 * 1000 := Nat.mul_le_mul hz (by omega)
  exact Nat.le_trans h3 (by decide)
theorem at_snoc {α : Type} (xs : List α) (x : α) : atI (xs ++ [x]) (-1) = some x := by
  rw [at_last (d := x) (by simp), List.getD_eq_getElem?_getD, List.length_append, List.length_singleton, Nat.add_sub_cancel, List.getElem?_append_right (Nat.le_refl _), Nat.sub_self]
  rfl
end
end Wk
namespace Wk
open PySem PySem.Spec PyProof.Rows L2
/-! ### what is owned, seen as data for a while -/
section
variable {K : PySem.W.Frag} {Hk H H' : Hp} {O : Own} {ds : List SD} {Q : SD → Own → Prop} {x y : SD} {d e : PyData}
theorem Hold.grow (h : Hold K Hk O H) (s : Same H H') : Hold K Hk O H' := ⟨h.kn.trans s, fun p hp => ⟨by
    obtain ⟨h1, _⟩ := h.ow p hp
    obtain ⟨a, o⟩ := p
    cases o with
    | lst rs =>
      obtain ⟨vs, g1, g2⟩ := h1
      exact ⟨vs, s _ _ g1, g2⟩
    | dK kvs =>
      obtain ⟨vs, g1, g2⟩ := h1
      exact ⟨vs, s _ _ g1, g2⟩
    | tup kvs =>
      obtain ⟨vs, g1, g2⟩ := h1
      exact ⟨vs, s _ _ g1, g2⟩
    | lstX vs kvs =>
      obtain ⟨g1, g2⟩ := h1
      exact ⟨s _ _ g1, g2⟩
    | obj o vs kvs =>
      obtain ⟨g1, g2⟩ := h1
      exact ⟨s _ _ g1, g2⟩, (h.ow p hp).2⟩, h.nd⟩
/-- the data that it reads as, now -/
def VD (K : PySem.W.Frag) (O : Own) (x : SD) (d : PyData) : Prop := ∀ (Hk H : Hp), Hold K Hk O H → ∀ u : V, SDok K Hk u x → Da H u d
inductive VDs (K : PySem.W.Frag) (O : Own) : List SD → List PyData → Prop
  | nil : VDs K O [] []
  | cons {x : SD} {d : PyData} {rs : List SD} {es : List PyData} : VD K O x d → VDs K O rs es → VDs K O (x :: rs) (d :: es)
theorem VD.kn : VD K O (.dat d) d := fun _ _ h _ hu => Da.mono h.kn hu
theorem VDs.kn : ∀ es : List PyData, VDs K O (es.map SD.dat) es
  | [] => .nil
  | _ :: r => .cons VD.kn (VDs.kn r)
theorem VDs.all {Hk H : Hp} (h : Hold K Hk O H) : ∀ {rs : List SD} {es : List PyData} {vs : List V}, VDs K O rs es → SDall K Hk vs rs → DaAll H vs es
  | _, _, _, .nil, .nil => .nil
  | _, _, _, .cons a r, .cons b s => .cons (a _ _ h _ b) (VDs.all h r s)
theorem VD.o {a : Addr} {rs : List SD} {es : List PyData} (hm : (a, OD.lst rs) ∈ O) (hv : VDs K O rs es) : VD K O (.ad a) (.list es) := fun Hk H h u hu => by
  obtain ⟨⟨vs, h1, h2⟩, _⟩ := h.ow _ hm
  cases (show u = .ref a from hu)
  exact .lst h1 (hv.all h h2)
theorem VD.o' {a : Addr} {rs : List SD} {es : List PyData} (hm : (a, OD.lst rs) ∈ O) (hd : Dats rs es) : VD K O (.ad a) (.list es) := by
  obtain rfl := hd.eq
  exact VD.o hm (VDs.kn es)
theorem o_eqW (v1 : VD K O x d) (v2 : VD K O y e) (h1 : plB 8 d = true) (h2 : plB 8 e = true) (q : ∀ b, (b = true ↔ d = e) → Q (bV b) O) : OpW K (rEqD K) x y O Q := fun Hk H h u v hu hv Q' k =>
  ⟨d, e, (v1 _ _ h _ hu).dp, (v2 _ _ h _ hv).dp, pl_shaped h1 (by decide), pl_shaped h2 (by decide), k.now h (r := bV _) (.bl _) (q _ (eqv_iff 8 d e h1 h2))⟩
theorem o_neW (v1 : VD K O x d) (v2 : VD K O y e) (h1 : plB 8 d = true) (h2 : plB 8 e = true) (q : ∀ b, (b = true ↔ d = e) → Q (bV (!b)) O) : OpW K (rNeD K) x y O Q := fun Hk H h u v hu hv Q' k =>
  ⟨d, e, (v1 _ _ h _ hu).dp, (v2 _ _ h _ hv).dp, pl_shaped h1 (by decide), pl_shaped h2 (by decide), k.now h (r := bV _) (.bl _) (q _ (eqv_iff 8 d e h1 h2))⟩
/-- [.. for x in xs if t], where the test says no to every one -/
theorem w_lcNone {tl : TE} {j : Nat} {tt : TT} {te : TE} (h : EvW K tl O ds fun r O1 => ∃ es : List PyData, VD K O1 r (.list es) ∧
    (∀ (i : Nat) (d : PyData) (Dl : Addr), es[i]? = some d → TvW K tt [(Dl, OD.lst [])] (ds.set j (.dat d)) fun b O3 => b = false ∧ O3 = [(Dl, OD.lst [])]) ∧ ∀ Dl, Q (.ad Dl) ((Dl, .lst []) :: O1)) : EvW K (tLc (iList K tl) (gName j) tt te [j]) O ds Q := fun Hk σ H p Q' k =>
  h Hk σ H p _ fun v r O1 Hk1 H1 e1 h1 s1 q1 => by
    obtain ⟨es, hv, hs, hd⟩ := q1
    cases (hv _ _ h1 _ s1) with
    | @lst a xs _ g1 g2 =>
    have h0 : Hold K H1 [] H1 := ⟨Same.refl _, fun _ h => absurd h List.not_mem_nil, List.nodup_nil⟩
    refine ⟨a, rfl, ⟨xs, .inl (.inl g1)⟩, fun Dl hf => lc_list (xs := xs) (fun i H => ∃ Hk2, Same H1 Hk2 ∧ Hold K Hk2 [(Dl, OD.lst [])] H)
      ⟨H1, Same.refl _, h0.own hf .nil⟩ (fun i H2 _ ⟨Hk2, e2, hh⟩ => .inl (.inl (hh.kn _ _ (e2 _ _ g1)))) (fun i x H2 hi hP => ?_) (fun H2 hP => ?_)⟩
    · obtain ⟨Hk2, e2, hh⟩ := hP
      obtain ⟨d, hd1, hd2⟩ := g2.getV hi
      have pp : Pt K Hk2 [] ds σ H2 := ⟨hh.sub (List.nil_sublist _), p.len, fun i r hr => (p.env i r hr).imp id fun ⟨v, a, b⟩ => ⟨v, a, b.mono (e1.trans (h1.kn.trans e2))⟩⟩
      refine lc_turn (d := .dat d) (acc := []) (O2 := []) (Dl := Dl) (P' := fun H => ∃ Hk2, Same H1 Hk2 ∧ Hold K Hk2 [(Dl, OD.lst [])] H) (I' := fun acc2 O3 => acc2 = [] ∧ O3 = []) ?_ (by decide) pp hh (Da.mono e2 hd2) ?_
      · intro Dl2 Hk3 σ3 H3 p3 Q3 k3
        refine hs i d Dl2 hd1 Hk3 σ3 H3 p3 Q3 fun b O3 Hk4 H4 e4 h4 q4 => k3 b O3 Hk4 H4 e4 h4 ⟨fun hb => ?_, fun hb => ?_⟩
        · rw [q4.1] at hb
          cases hb
        · rw [q4.2]
          exact ⟨[], .refl _, rfl, rfl⟩
      · rintro _ _ Hk3 H3 e3 hh3 ⟨rfl, rfl⟩
        exact ⟨Hk3, e2.trans e3, hh3⟩
    · obtain ⟨Hk2, e2, hh⟩ := hP
      have h5 := h1.own hf (rs := []) .nil
      refine k _ (.ad Dl) _ Hk1 H2 e1 (h5.grow fun b o hb => ?_) rfl (hd Dl)
      obtain ⟨⟨vs, g3, g4⟩, _⟩ := hh.ow _ List.mem_cons_self
      cases g4
      by_cases z : b = Dl
      · subst z
        rw [show upd H1 b (.lst []) b = some (.lst []) from by simp [upd]] at hb
        rw [← hb]
        exact g3
      · rw [show upd H1 Dl (.lst []) b = H1 b from by simp [upd, z]] at hb
        exact hh.kn _ _ (e2 _ _ hb)
end
end Wk
namespace Wk
open PySem PySem.Spec PyProof.Rows L2
/-! ### the greatest of a tuple -/
section
variable {prog : Program} {w : World} {A : Around} {E : Value → Shared → Prop} {s : Shared} {l : Addr}
theorem max_tupInts {xs : Array (Int × Tok)} {Q : Value → Shared → Prop} (hh : A.handled = none) (ht : s.heap.IsTuple l (intItems xs)) (hne : 0 < xs.size)
    (h : ∀ v h' tk, (intItems xs)[argBest (fun i j => decide (numAt xs i > numAt xs j)) (xs.size - 1)]? = some v → (∀ b o, s.heap.get? b = some o → h'.get? b = some o) → Q v { s with heap := h', toks := tk }) :
    wpAny (model prog w) A (call (.builtin "max") [.ref l]) Q E s := by
  obtain ⟨o, ho, hc, n, hd⟩ := id ht
  have hn2 : l ≠ s.heap.objs.size := Nat.ne_of_lt (Heap.lt_size ho)
  refine call_max_walk (wpAny_pyIter_tuple ht ?_)
  refine ⟨s.heap.objs.size, _, _, _, _, _, _, rfl, Walks.tuple (A := A.in1) hh s.heap.objs.size l hn2 (intItems xs), ⟨⟨_, Heap.get?_push_size _ rfl, rfl, rfl⟩, ht.at fun o e => Heap.get?_push_of_some _ e⟩, fun b hb => ?_, by simpa [intItems] using hne, CmpOf.ints_gt (numAt xs) (fun _ _ => intItems_at), fun v h' tk hP hk => ?_⟩
  · rcases List.mem_cons.mp hb with rfl | hb
    · exact Heap.lt_size (Heap.get?_push_size _ rfl)
    · obtain rfl := List.mem_singleton.mp hb
      exact Heap.lt_size (Heap.get?_push_of_some _ ho)
  · exact h v h' tk (by simpa [intItems] using hP) fun b o e => hk b o (fun hb => absurd (Heap.lt_size e) ((List.mem_singleton.mp hb) ▸ Nat.lt_irrefl _)) (Heap.get?_push_of_some _ e)
theorem max_rawT {its : List Value} {ns : List Int} {Q : Value → Shared → Prop} (hh : A.handled = none) (hl : s.heap.IsTuple l its.toArray) (hi : IntsAre its ns) (hne : 0 < ns.length)
    (h : ∀ h' tk M t', (∀ b o, s.heap.get? b = some o → h'.get? b = some o) → M ∈ ns → (∀ a, a ∈ ns → a ≤ M) → Q (.int M t') { s with heap := h', toks := tk }) : wpAny (model prog w) A (call (.builtin "max") [.ref l]) Q E s := by
  obtain ⟨xs, e⟩ := hi.allInts.items
  have hn : numsOf (intItems xs).toList = ns := by rw [← e]; exact hi.numsOf
  rw [nums_intItems] at hn
  subst hn
  rw [e] at hl
  have hsz : 0 < xs.size := by simpa using hne
  refine max_tupInts hh hl hsz fun v h' tk hv hk => ?_
  obtain ⟨t, rfl⟩ := intItems_at hv
  obtain ⟨h1, h2⟩ := argBest_gt (numAt xs) (xs.size - 1)
  refine h h' tk _ t hk ?_ fun a ha => ?_
  · rw [numAt_eq]; exact PySem.getD_mem (by rw [List.length_map, Array.length_toList]; omega)
  · obtain ⟨i, hi, rfl⟩ := List.mem_iff_getElem.mp ha
    have hi2 : i < xs.size := by simpa using hi
    have := h2 i (by omega)
    rw [numAt_eq xs i, List.getD_eq_getElem?_getD, List.getElem?_eq_getElem hi] at this
    exact this
end
def rMaxT (K : PySem.W.Frag) : List V → Hp → VK → Prop := fun vs H Q => ∃ (a : Addr) (ns : List Int), vs = [V.ref a] ∧ SqT K H a (ns.map V.int) ∧ 0 < ns.length ∧ ∀ m, m ∈ ns → (∀ y, y ∈ ns → y ≤ m) → Q (.int m) H
theorem cr_maxT {X : Cx} (hc : X.calm = true) : CallR X (.builtin "max") (rMaxT X.K) := by
  intro pins s σ H vs us Q I r h
  obtain ⟨a, ns, rfl, hs, hne, q⟩ := h
  obtain ⟨its, rv, hl, _⟩ := I.tuple hs
  rw [Vals.ref1 r]
  exact max_rawT (I.ok.hd hc) hl rv.ints hne fun h' tk m t' hk h1 h2 => ⟨.int _, H, I.kept hk, ⟨_, rfl⟩, q m h1 h2⟩
section
variable {X : Cx} (K : PySem.W.Frag)
theorem kMaxT (hc : X.calm = true) (h : X.K = K := by rfl) : CallR X (.builtin "max") (rMaxT K) := h ▸ cr_maxT hc
end
section
variable {K : PySem.W.Frag} {O : Own} {Q : SD → Own → Prop}
theorem g_maxT {ns : List Int} (hn : 0 < ns.length) (q : ∀ m, m ∈ ns → (∀ y ∈ ns, y ≤ m) → Q (iV m) O) : CbW K (rMaxT K) [.dat (tI ns)] O Q := fun Hk H h us hus Q' k => by
  obtain ⟨u, rfl, hu⟩ := all1 hus
  cases (show Da Hk u (.tuple (ns.map .int)) from hu) with
  | @tup a xs _ h1 h2 =>
    rw [h2.ints] at h1
    exact ⟨_, ns, rfl, .inl (.inl (h.kn _ _ h1)), hn, fun m hm hy => k.now h (r := iV m) (.int m) (q m hm hy)⟩
end
end Wk
namespace Wk
open PySem PySem.Spec PyProof.Rows L2
/-! ### a tuple, one time and more -/
theorem tuple_mul1 (l : Addr) (items : Array Value) (n : Nat) (dd : Option Addr) (sl : Array (Option Value)) (x : Int) (u : Tok) (c0 : (decide (x < -(2 ^ 63)) || decide (x ≥ 2 ^ 63)) = false) (c1 : (items.isEmpty || x == 1) = true) :
    Meets (Builtin.«tuple.__mul__» ⟨[.ref l, .int x u], []⟩) (fun _ R s => s.heap.get? l = some { cls := .type "tuple", dict := dd, data := .seq items n, slots := sl } ∧ R (.ok (.ret (Value.ref l))) s) :=
  .of_wp fun prog w A R s h => by
    obtain ⟨hp, g, d, tk, os⟩ := s
    obtain ⟨hl, h⟩ := h
    have f1 := AutoSeq1.idx_int
    wp_walk using wpAny_loadPart' hl
    repeat (first
      | (refine wpAny_ite_false (decide_eq_false (by rw [c0]; exact Bool.false_ne_true)) ?_; wp_walk using wpAny_loadPart' hl)
      | (refine wpAny_ite_true (decide_eq_true (by rw [c1])) ?_; wp_walk using wpAny_loadPart' hl))
    exact ⟨_, rfl, h⟩
def rRep1 (K : PySem.W.Frag) : R2 := fun x y H Q => rRepT K x y H Q ∨ ∃ l xs, x = .ref l ∧ y = .int 1 ∧ SqT K H l xs ∧ Q (.ref l) H
theorem op_rep1 {X : Cx} : OpR X (binaryOp .Mult) (rRep1 X.K) := by
  intro pins s σ H x y v u Q I rx ry h
  rcases h with h | h
  · exact op_repT pins s σ H x y v u Q I rx ry h
  obtain ⟨l, xs, rfl, rfl, hT, q⟩ := h
  cases rx
  obtain ⟨t, rfl⟩ := ry
  obtain ⟨its, r, ⟨⟨cls, dd, data, sl⟩, ho, hc, n, hd⟩, hs⟩ := I.tuple hT
  simp only at hc hd
  subst hc hd
  refine wpAny_binaryOp_repeat_ref (T := "tuple") (U := "int") (by decide) ⟨_, ho, rfl⟩ (fun s' => typeIs_int s' 1 t) noFill_tuple_mul F.fills_int_mul F.slot_int_rmul repeat_tuple F.slot_int_index.lookup
    (call_meets F.slot_int_rmul (typeIs_int s 1 t) F.entry_int_rmul (F.args_int_rmul_2 _ _) (int_rmul_tuple 1 t l its.toArray n dd sl)
      ⟨ho, rfl, ⟨_, ho, rfl⟩, call_meets F.slot_tuple_mul ⟨_, ho, rfl⟩ F.entry_tuple_mul (F.args_tuple_mul_2 _ _) (tuple_mul1 l its.toArray n dd sl 1 t (by decide) (by simp)) ⟨ho, ?_⟩⟩)
  exact ⟨.ref l, H, I.kept (t' := s.toks) (fun _ _ q => q), rfl, q⟩
section
variable {X : Cx} (K : PySem.W.Frag)
theorem kRep1 (h : X.K = K := by rfl) : OpR X (binaryOp .Mult) (rRep1 K) := h ▸ op_rep1
end
section
variable {K : PySem.W.Frag} {O : Own} {Q : SD → Own → Prop}
theorem rep_one {α : Type} (x : α) : ∀ n : Nat, (List.replicate n [x]).flatten = List.replicate n x
  | 0 => rfl
  | n + 1 => by
    rw [List.replicate_succ, List.flatten_cons, rep_one x n, List.replicate_succ]
    rfl
theorem g_rep1 {d : PyData} {k : Int} (h0 : 1 ≤ k) (h1 : k ≤ 1000) (q : Q (.dat (.tuple (List.replicate k.toNat d))) O) : OpW K (rRep1 K) (.dat (.tuple [d])) (iV k) O Q := fun Hk H h u v hu hv Q' kk => by
  cases (show Da Hk v (.int k) from hv)
  cases (show Da Hk u (.tuple [d]) from hu) with
  | @tup a xs _ g1 g2 =>
    by_cases e : k = 1
    · subst e
      exact .inr ⟨a, xs, rfl, rfl, .inl (.inl (h.kn _ _ g1)), kk.now h (r := .dat (.tuple [d])) (.tup g1 g2) q⟩
    · have hl : xs.length = 1 := g2.length
      refine .inl ⟨a, k, xs, rfl, rfl, .inl (.inl (h.kn _ _ g1)), (fun z => by rw [z] at hl; cases hl), by omega, h1, by omega, fun l hf => ?_⟩
      have sm := same_new (o := .tup (List.replicate k.toNat xs).flatten) (h.kn.free hf)
      refine kk _ (.dat (.tuple (List.replicate k.toNat d))) O _ _ sm (h.know hf) (.tup upd_same (DaAll.mono sm ?_)) q
      have e2 := g2.rep k.toNat
      rw [rep_one d] at e2
      exact e2
end
end Wk
namespace Wk
open PySem PySem.Spec PyProof.Rows L2
/-! ### errors: raised, let through, caught -/
/-- what is wanted of an error, met: W is told the slots too -/
def KonX (K : PySem.W.Frag) (Hk : Hp) (Qx : Addr → Option (Str × PyData) → Own → Prop) (E : XK) : Prop :=
  ∀ cls d C fs O2 Hk2 H2, Same Hk Hk2 → Hold K Hk2 O2 H2 → XDok Hk2 cls d C fs → Qx C fs O2 → E cls d H2
def KonW (K : PySem.W.Frag) (Hk : Hp) (Qs : Addr → Option (Str × PyData) → Own → List SD → Prop) (W : WX) : Prop :=
  ∀ cls d C fs σ O2 ds2 Hk2 H2, Same Hk Hk2 → Pt K Hk2 O2 ds2 σ H2 → XDok Hk2 cls d C fs → Qs C fs O2 ds2 → W cls d σ H2
/-- the promise of a def that may raise -/
def spX (K : PySem.W.Frag) (pre : List SD → Own → (SD → Own → Prop) → (Addr → Option (Str × PyData) → Own → Prop) → Prop) : Sp := fun vs H Q' E =>
  ∃ Hk O rs Q Qx, Hold K Hk O H ∧ SDall K Hk vs rs ∧ pre rs O Q Qx ∧ Kont K Hk Q Q' ∧ KonX K Hk Qx E
/-- an expression that may let an error out, to W -/
def EvX (K : PySem.W.Frag) (W : WX) (Qs : Addr → Option (Str × PyData) → Own → List SD → Prop) (t : TE) (O : Own) (ds : List SD) (Q : SD → Own → Prop) : Prop :=
  ∀ Hk σ H, Pt K Hk O ds σ H → KonW K Hk Qs W → ∀ Q' : VK, Kont K Hk Q Q' → t σ H Q'
section
variable {K : PySem.W.Frag} {Hk Hk' H H' : Hp} {O O' Oa : Own} {ds : List SD} {σ : L2.St} {Q : SD → Own → Prop} {Q' : VK} {x y : SD} {A : AE} {D : Ends} {t u : TS} {te : TE} {ta : TA} {W : WX}
  {Qs : Addr → Option (Str × PyData) → Own → List SD → Prop} {Qx : Addr → Option (Str × PyData) → Own → Prop} {preX : List SD → Own → (SD → Own → Prop) → (Addr → Option (Str × PyData) → Own → Prop) → Prop}
theorem KonX.ext {E : XK} (k : KonX K Hk Qx E) (e : Same Hk Hk') : KonX K Hk' Qx E := fun cls d C fs O2 Hk2 H2 e2 => k cls d C fs O2 Hk2 H2 (e.trans e2)
theorem KonW.ext (k : KonW K Hk Qs W) (e : Same Hk Hk') : KonW K Hk' Qs W := fun cls d C fs σ O2 ds2 Hk2 H2 e2 => k cls d C fs σ O2 ds2 Hk2 H2 (e.trans e2)
theorem x_of (h : EvW K te O ds Q) : EvX K W Qs te O ds Q := fun Hk σ H p _ Q' k => h Hk σ H p Q' k
theorem x_call (h : AvW K ta O ds fun rs O1 => preX rs O1 Q fun C fs O2 => Qs C fs O2 ds) : EvX K W Qs (tCallS (spX K preX) (WE W) ta) O ds Q := fun Hk σ H p kw Q' k =>
  h Hk σ H p _ fun vs rs O1 Hk1 H1 e1 h1 s1 q1 => ⟨Hk1, O1, rs, Q, _, h1, s1, q1, k.ext e1, fun cls d C fs O2 Hk2 H2 e2 h2 ok q => kw cls d C fs σ O2 ds Hk2 H2 (e1.trans e2) (p.ext (e1.trans e2) h2) ok q⟩
theorem sx_ret (hW : ∀ Hk, A.xt Hk → KonW K Hk Qs W) (h : EvX K W Qs te O ds A.rt) : StW K (tRet te) O ds A := fun Hk σ H D p l => h Hk σ H p (hW Hk (l.xt Hk (Same.refl _))) _ l.rt
theorem sx_asg {i : Nat} (hW : ∀ Hk, A.xt Hk → KonW K Hk Qs W) (h : EvX K W Qs te O ds fun r O1 => A.nx O1 (ds.set i r)) : StW K (tAsg te (gName i)) O ds A := fun Hk σ H D p l =>
  h Hk σ H p (hW Hk (l.xt Hk (Same.refl _))) _ fun v r O1 Hk1 H1 e1 h1 s1 q1 => l.nx O1 _ Hk1 _ H1 e1 ((p.ext e1 h1).set s1) q1
/-- a, b = e: a pair of data -/
def unp2 (te : TE) (K : PySem.W.Frag) (i j : Nat) : TS := tAsg te (gTup K 2 (gCons (gName i) (gCons (gName j) gNil)))
theorem unp2_go {i j : Nat} {d e : PyData} {v : V} {Hk1 H1 : Hp} {O1 : Own} (p1 : Pt K Hk1 O1 ds σ H1) (s1 : Da Hk1 v (.tuple [d, e])) (e1 : Same Hk Hk1) (l : Post K Hk A.nx D.nx) (q : A.nx O1 ((ds.set i (.dat d)).set j (.dat e))) :
    gTup K 2 (gCons (gName i) (gCons (gName j) gNil)) v σ H1 D.nx := by
  cases s1 with
  | @tup a xs _ h1 h2 =>
    cases h2 with
    | @cons v1 _ _ _ g1 r =>
      cases r with
      | @cons v2 _ _ _ g2 r =>
        cases r
        refine ⟨a, [v1, v2], rfl, .inl (.inl (p1.hold.kn _ _ h1)), rfl, v1, [v2], rfl, v2, [], rfl, rfl, ?_⟩
        exact l O1 _ Hk1 _ H1 e1 ((p1.set (j := i) (r := .dat d) g1).set (j := j) (r := .dat e) g2) q
theorem s_unp2 {i j : Nat} (h : EvW K te O ds fun r O1 => ∃ d e, r = .dat (.tuple [d, e]) ∧ A.nx O1 ((ds.set i (.dat d)).set j (.dat e))) : StW K (tAsg te (gTup K 2 (gCons (gName i) (gCons (gName j) gNil)))) O ds A := fun Hk σ H D p l =>
  h Hk σ H p _ fun v r O1 Hk1 H1 e1 h1 s1 q1 => by
    obtain ⟨d, e, rfl, q⟩ := q1
    exact unp2_go (p.ext e1 h1) s1 e1 l.nx q
theorem sx_unp2 {i j : Nat} (hW : ∀ Hk, A.xt Hk → KonW K Hk Qs W) (h : EvX K W Qs te O ds fun r O1 => ∃ d e, r = .dat (.tuple [d, e]) ∧ A.nx O1 ((ds.set i (.dat d)).set j (.dat e))) : StW K (tAsg te (gTup K 2 (gCons (gName i) (gCons (gName j) gNil)))) O ds A := fun Hk σ H D p l =>
  h Hk σ H p (hW Hk (l.xt Hk (Same.refl _))) _ fun v r O1 Hk1 H1 e1 h1 s1 q1 => by
    obtain ⟨d, e, rfl, q⟩ := q1
    exact unp2_go (p.ext e1 h1) s1 e1 l.nx q
/-! ### raise -/
/-- raise X('..'), X without an __init__ -/
def tRz (C : Addr) (W : WX) : TS := fun _ σ H => W (.ref C) none σ H
theorem s_rz {C : Addr} (hW : ∀ Hk, A.xt Hk → KonW K Hk Qs W) (q : Qs C none O ds) : StW K (tRz C W) O ds A := fun Hk σ H D p l =>
  hW Hk (l.xt Hk (Same.refl _)) (.ref C) none C none σ O ds Hk H (Same.refl _) p ⟨rfl, rfl⟩ q
/-- self.f = v of an exception that is being made: its __init__ -/
def spIni (C : Addr) (f : Str) : Sp := fun vs H Q _ => ∃ (a : Addr) (v : V), vs = [.ref a, v] ∧ H a = some (exo a C none) ∧ ∀ dx, H dx = none → dx ≠ a → Q .non (upd (upd H dx (exd dx [(f, v)])) a (exo a C (some dx)))
/-- raise X(e), X's __init__ keeps e as its field f -/
def tRzI (C : Addr) (f : Str) (W : WX) (ta : TA) : TS := fun _ σ H => tMkO C (spIni C f) [] ta σ H fun cls d H' => W cls d σ H'
theorem s_rzI {C : Addr} {f : Str} (hW : ∀ Hk, A.xt Hk → KonW K Hk Qs W) (h : AvW K ta O ds fun rs O1 => ∃ d, rs = [.dat d] ∧ Qs C (some (f, d)) O1 ds) : StW K (tRzI C f W ta) O ds A := fun Hk σ H D p l =>
  h Hk σ H p _ fun vs rs O1 Hk1 H1 e1 h1 s1 q1 => by
    obtain ⟨x, rfl, q⟩ := q1
    obtain ⟨v, rfl, hv⟩ := all1 s1
    refine ⟨Nat.le_of_ble_eq_true rfl, fun a ha => ⟨a, v, rfl, upd_same, fun dx hdx hne => ⟨rfl, dx, [(f, v)], upd_same, by rw [upd_ne hne]; exact upd_same, ?_, ?_⟩⟩⟩
    · rw [upd_ne hne] at hdx
      exact hdx
    · rw [upd_ne hne] at hdx
      have eH : upd (del (upd (upd (upd H1 a (exo a C none)) dx (exd dx [(f, v)])) a (exo a C (some dx))) a) dx (.xd [(f, v)]) = upd H1 dx (.xd [(f, v)]) := by
        funext b
        by_cases hb : b = dx
        · rw [hb, upd_same, upd_same]
        · rw [upd_ne hb, upd_ne hb]
          by_cases hba : b = a
          · rw [hba, del_same, ha]
          · rw [del_ne hba, upd_ne hba, upd_ne hb, upd_ne hba]
      rw [eH]
      have sm : Same Hk1 (upd Hk1 dx (.xd [(f, v)])) := same_new (h1.kn.free hdx)
      exact hW Hk (l.xt Hk (Same.refl _)) (.ref C) (some dx) C (some (f, x)) σ O1 ds _ _ (e1.trans sm) (p.ext (e1.trans sm) (h1.know hdx)) ⟨rfl, dx, v, rfl, upd_same, Da.mono sm hv⟩ q
/-! ### try .. except X as n -/
/-- try .. except X as n -/
def tTry (K : PySem.W.Frag) (c : Value) (i : Nat) (tb : WX → TS) (ts : Addr → Value → Option Addr → TS) (Wout : WX) : TS := fun D σ H => tb (wAs K c i ts Wout D) D σ H
theorem s_try {c : Value} {i : Nat} {tb : WX → TS} {ts : Addr → Value → Option Addr → TS} {Wout : WX} (Qs : Addr → Option (Str × PyData) → Own → List SD → Prop)
    (hb : ∀ W : WX, StW K (tb W) O ds { A with xt := fun Hk => KonW K Hk Qs W })
    (hs : ∀ C fs O2 ds2, Qs C fs O2 ds2 → PySem.W.exmOne K (.ref C) c = some true ∧ ∀ (a : Addr) (cls : Value) (d : Option Addr), ∀ B : AE,
      (∀ O3 ds3, A.nx O3 (ds3.set i .non) → B.nx O3 ds3) → (∀ r O3, A.rt r O3 → B.rt r O3) → (∀ O3 ds3, A.bk O3 (ds3.set i .non) → B.bk O3 ds3) → (∀ O3 ds3, A.ct O3 (ds3.set i .non) → B.ct O3 ds3) →
      StW K (ts a cls d) O2 (ds2.set i (.exc a cls d C fs)) B) : StW K (tTry K c i tb ts Wout) O ds A := fun Hk σ H D p l => by
  have setN : ∀ {Hk2 H2 : Hp} {σ2 : L2.St} {O2 : Own} {ds2 : List SD}, Pt K Hk2 O2 ds2 σ2 H2 → Pt K Hk2 O2 (ds2.set i .non) (σ2.set i none) H2 := fun {Hk2 H2 σ2 O2 ds2} p2 =>
    ⟨p2.hold, by rw [List.length_set, List.length_set, p2.len], fun j r hr => by
      by_cases hj : j = i
      · subst hj
        have hl : j < (ds2.set j SD.non).length := (List.getElem?_eq_some_iff.mp hr).1
        rw [List.length_set] at hl
        rw [List.getElem?_set_self hl] at hr
        cases hr
        exact .inl rfl
      · rw [List.getElem?_set_ne (Ne.symm hj)] at hr
        rw [List.getElem?_set_ne (Ne.symm hj)]
        exact p2.env j r hr⟩
  refine hb (wAs K c i ts Wout D) Hk σ H D p ⟨l.nx, l.rt, l.bk, l.ct, fun Hk' e' cls d C fs σ2 O2 ds2 Hk2 H2 e2 p2 ok q => ?_⟩
  obtain ⟨ec, hsu⟩ := hs C fs O2 ds2 q
  have ec2 := ok.1
  subst ec2
  refine ⟨true, ec, fun _ a ha => ?_, fun z => Bool.noConfusion z⟩
  have e := e'.trans e2
  refine hsu a (.ref C) d ⟨fun O3 ds3 => A.nx O3 (ds3.set i .non), A.rt, fun O3 ds3 => A.bk O3 (ds3.set i .non), fun O3 ds3 => A.ct O3 (ds3.set i .non), fun _ => True⟩ (fun _ _ z => z) (fun _ _ z => z) (fun _ _ z => z) (fun _ _ z => z)
    Hk2 _ H2 _ (p2.set (j := i) (r := .exc a (.ref C) d C fs) (v := .ref a) ⟨rfl, ok⟩) ⟨fun O3 ds3 Hk3 σ3 H3 e3 p3 q3 => l.nx O3 _ Hk3 _ H3 (e.trans e3) (setN p3) q3, l.rt.ext e, fun O3 ds3 Hk3 σ3 H3 e3 p3 q3 => l.bk O3 _ Hk3 _ H3 (e.trans e3) (setN p3) q3,
      fun O3 ds3 Hk3 σ3 H3 e3 p3 q3 => l.ct O3 _ Hk3 _ H3 (e.trans e3) (setN p3) q3, fun _ _ => True.intro⟩
/-- e.f of a caught error -/
theorem w_exc {i : Nat} {a C : Addr} {cls : Value} {d : Option Addr} {fs : Option (Str × PyData)} (h : ds[i]? = some (.exc a cls d C fs)) (q : Q (.exc a cls d C fs) O) : EvW K (tVar i) O ds Q := w_var h (fun z => nomatch z) q
theorem w_xf {a C : Addr} {cls : Value} {d : Option Addr} {f : Str} (h : EvW K te O ds fun r O1 => ∃ x, r = .exc a cls d C (some (f, x)) ∧ Q (.dat x) O1) : EvW K (tXf a cls d C f te) O ds Q := fun Hk σ H p Q' k =>
  h Hk σ H p _ fun v r O1 Hk1 H1 e1 h1 s1 q1 => by
    obtain ⟨x, rfl, q⟩ := q1
    obtain ⟨rfl, rfl, dd, v, rfl, g1, g2⟩ := s1
    exact ⟨rfl, rfl, dd, _, v, rfl, h1.kn _ _ g1, by simp [List.lookup], k _ (.dat x) O1 Hk1 H1 e1 h1 g2 q⟩
end
/-- isinstance(e, c), e a caught error (its own dict or none) -/
def rIsX (K : PySem.W.Frag) (a : Addr) (cls : Value) (d : Option Addr) : List V → Hp → VK → Prop := fun xs H Q => ∃ (C : Addr) (c : V) (cv : Value) (b : Bool), cls = .ref C ∧ ExcC K C ∧ (d = none ∨ ∃ dd fs, d = some dd ∧ H dd = some (.xd fs)) ∧ xs = [.ref a, c] ∧ (∀ u, RelV c u → u = cv) ∧ PySem.W.kitOne K (.ref C) cv = some b ∧ Q (.bl b) H
theorem any_isSome {K : PySem.W.Frag} {C : Addr} (h : PySem.W.hasDictIn K C = true) : (PySem.W.clsIn K C).isSome = true := by
  unfold PySem.W.hasDictIn at h
  cases e : PySem.W.clsIn K C with
  | none => rw [e] at h; cases h
  | some _ => rfl
theorem call_isX {X : Cx} {a : Addr} {cls : Value} {d : Option Addr} {oe : Obj} {pn : List (Addr × Obj)} (hz : Zc cls d oe) (hf : ∃ vs, oe.data = .fields vs) : CallR (X.suite a ((a, oe) :: pn)) (.builtin "isinstance") (rIsX X.K a cls d) := by
  intro pins s σ H xs us Q I r h
  obtain ⟨C, c, cv, b, rfl, T, hd, rfl, hcv, e, q⟩ := h
  cases r with
  | cons rx rr =>
    cases rr with
    | cons rt rr =>
      cases rr
      cases rx
      have ec := hcv _ rt
      subst ec
      obtain ⟨hget, _⟩ := I.pin (a, oe) (List.mem_append.mpr (.inl List.mem_cons_self))
      obtain ⟨vs, hv⟩ := hf
      have J : ∃ od, PySem.W.InstAt s.heap a oe C od := by
        rcases hd with hd | ⟨dd, fs, hd, hx⟩
        · refine ⟨none, hget, hz.1, by unfold PySem.W.notCls; rw [hv] <;> rfl, ?_⟩
          rw [hz.2, hd]
          trivial
        · have hx' : ObjOk X.prog X.w H s.heap dd (.xd fs) := I.hok dd _ hx
          obtain ⟨mA, hns, hr⟩ := hx'
          obtain ⟨od, ho, hl⟩ := lookIn_ns hns
          exact ⟨some od, hget, hz.1, by unfold PySem.W.notCls; rw [hv] <;> rfl, by rw [hz.2, hd]; exact ho⟩
      obtain ⟨od, J⟩ := J
      exact PySem.W.kia_one (PySem.W.kitx_exc (any_isSome T.hd) T.hg T.hk T.hs T.ha T.hn T.ht T.hm) I.kIn J e (fun z => nomatch z) fun tk => ⟨.bl b, H, I.kept (t' := tk) fun _ _ z => z, rfl, q⟩
section
variable {K : PySem.W.Frag} {O : Own} {Q : SD → Own → Prop} {ds : List SD} {A : AE}
theorem g_isX {a C C' : Addr} {cls : Value} {d : Option Addr} {fs : Option (Str × PyData)} {b : Bool} (T : ExcC K C) (e : PySem.W.kitOne K (.ref C) (.ref C') = some b) (q : Q (bV b) O) : CbW K (rIsX K a cls d) [.exc a cls d C fs, .ad C'] O Q := fun Hk H h us hus Q' k => by
  obtain ⟨u, v, rfl, hu, hv⟩ := all2 hus
  cases (show v = .ref C' from hv)
  obtain ⟨rfl, rfl, hx⟩ := hu
  refine ⟨C, .ref C', .ref C', b, rfl, T, ?_, rfl, fun u r => r, e, k.now h (r := bV _) (.bl _) q⟩
  cases fs with
  | none => exact .inl hx
  | some p =>
    obtain ⟨dd, v, h1, h2, h3⟩ := hx
    exact .inr ⟨dd, _, h1, h.kn _ _ h2⟩
theorem g_isXT {a C : Addr} {n : String} {cls : Value} {d : Option Addr} {fs : Option (Str × PyData)} {b : Bool} (T : ExcC K C) (e : PySem.W.kitOne K (.ref C) (.type n) = some b) (q : Q (bV b) O) : CbW K (rIsX K a cls d) [.exc a cls d C fs, .ty n] O Q := fun Hk H h us hus Q' k => by
  obtain ⟨u, v, rfl, hu, hv⟩ := all2 hus
  cases (show v = .ty n from hv)
  obtain ⟨rfl, rfl, hx⟩ := hu
  refine ⟨C, .ty n, .type n, b, rfl, T, ?_, rfl, fun u r => r, e, k.now h (r := bV _) (.bl _) q⟩
  cases fs with
  | none => exact .inl hx
  | some p =>
    obtain ⟨dd, v, h1, h2, h3⟩ := hx
    exact .inr ⟨dd, _, h1, h.kn _ _ h2⟩
/-! ### dicts that are known -/
/-- {'k': e} as data -/
theorem w_dic1 {f : Str} {tv : TE} (h : ∀ pn, EvW K tv ((pn, .dK []) :: O) ds fun r O1 => ∃ d Oa, r = .dat d ∧ O1 = (pn, .dK []) :: Oa ∧ Q (.dic [(.inr f, d)]) Oa) : EvW K (tDisp [(tC (.str f), tv)]) O ds Q := fun Hk σ H p Q' k pn hf => by
  have h0 := p.hold.ownG (p := pn) (o := .dK []) (x := .dK []) hf ⟨[], upd_same, rfl, .nil⟩
  show tv σ (upd H pn (.dK [])) _
  refine h pn Hk σ _ ⟨h0, p.len, p.env⟩ _ fun v r O1 Hk1 H1 e1 h1 s1 q1 => ?_
  obtain ⟨d, Oa, rfl, rfl, q⟩ := q1
  obtain ⟨⟨vs, g1, g2, g3⟩, g4⟩ := h1.ow (pn, .dK []) List.mem_cons_self
  have e0 : vs = [] := by
    cases vs with
    | nil => rfl
    | cons a b => cases g2
  subst e0
  refine ⟨g1, [(.inr f, v)], rfl, Nat.le_of_ble_eq_true rfl, ?_⟩
  show Q' (.ref pn) (upd H1 pn (.dK [(.inr f, v)]))
  have nd := h1.nd
  rw [List.map_cons, List.nodup_cons] at nd
  have sm : Same Hk1 (upd Hk1 pn (.dK [(.inr f, v)])) := same_new g4
  refine k _ (.dic [(.inr f, d)]) Oa (upd Hk1 pn (.dK [(.inr f, v)])) _ (e1.trans sm) ⟨fun b y e => ?_, fun q hq => ?_, nd.2⟩ ⟨pn, [(.inr f, v)], rfl, upd_same, rfl, .cons (Da.mono sm s1) .nil⟩ q
  · by_cases hb : b = pn
    · subst hb
      rw [upd_same] at e ⊢
      exact e
    · rw [upd_ne hb] at e ⊢
      exact h1.kn b y e
  · have ne : q.1 ≠ pn := fun z => nd.1 (z ▸ List.mem_map.mpr ⟨q, hq, rfl⟩)
    obtain ⟨h5, h6⟩ := h1.ow q (List.mem_cons_of_mem _ hq)
    exact ⟨h5.mono sm (upd_ne ne), by rw [upd_ne ne]; exact h6⟩
end
/-- one of two readings -/
def rOr (r r' : R2) : R2 := fun x y H Q => r x y H Q ∨ r' x y H Q
theorem op_or {X : Cx} {f : Value → Value → Sem Value} {r r' : R2} (h : OpR X f r) (h' : OpR X f r') : OpR X f (rOr r r') := by
  intro pins s σ H x y v u Q I rx ry z
  rcases z with z | z
  · exact h pins s σ H x y v u Q I rx ry z
  · exact h' pins s σ H x y v u Q I rx ry z
section
variable {K : PySem.W.Frag} {O : Own} {Q : SD → Own → Prop} {ds : List SD} {A : AE} {x y : SD} {r r' : R2}
theorem o_orL (h : OpW K r x y O Q) : OpW K (rOr r r') x y O Q := fun Hk H hh u v hu hv Q' k => .inl (h Hk H hh u v hu hv Q' k)
theorem o_orR (h : OpW K r' x y O Q) : OpW K (rOr r r') x y O Q := fun Hk H hh u v hu hv Q' k => .inr (h Hk H hh u v hu hv Q' k)
def flatD : PyData → Bool
  | .none => true | .bool _ => true | .int _ => true | .str _ => true | _ => false
theorem flat_of {H : Hp} {v : V} {d : PyData} (h : Da H v d) (hd : flatD d = true) : flatB v = true := by
  cases h <;> first | rfl | cases hd
/-- flat data is one thing -/
theorem flat_one {H : Hp} {v w : V} {d : PyData} (h : Da H v d) (h' : Da H w d) (hd : flatD d = true) : v = w := by
  cases h <;> first | (cases h'; rfl) | cases hd
/-- {'k': d} != {'k': d} -/
theorem o_neDic1 {f : Key} {d : PyData} (hd : flatD d = true) (q : Q (bV false) O) : OpW K rNeDA (.dic [(f, d)]) (.dic [(f, d)]) O Q := fun Hk H h u v hu hv Q' k => by
  obtain ⟨a, vs, rfl, g1, g2, g3⟩ := hu
  obtain ⟨b, ws, rfl, j1, j2, j3⟩ := hv
  match vs, ws, g2, j2, g3, j3 with
  | [(k1, v1)], [(k2, w1)], g2, j2, .cons g3 _, .cons j3 _ =>
    have e1 : k1 = f := by injection g2
    have e2 : k2 = f := by injection j2
    subst e1
    subst e2
    have e3 := flat_one g3 j3 hd
    have e3' : v1 = w1 := e3
    subst e3'
    refine ⟨a, b, _, _, rfl, rfl, h.kn _ _ g1, h.kn _ _ j1, rfl, fun p hp => ?_, k.now h (r := bV false) (.bl _) q⟩
    obtain rfl := List.mem_singleton.mp hp
    exact ⟨by simp [valV], flat_of g3 hd⟩
theorem i_Dic {kvs : List (Key × PyData)} {n : String} {b : Bool} (hb : kitB "dict" n = some b) (q : Q (bV b) O) : CbW K (rIsi K) [.dic kvs, .ty n] O Q := fun Hk H h us hus Q' k => by
  obtain ⟨u, v, rfl, hu, hv⟩ := all2 hus
  cases (show v = .ty n from hv)
  obtain ⟨a, vs, rfl, g1, g2, g3⟩ := hu
  exact ⟨_, .ty n, _, _, b, rfl, .ty n, .base (.dK (h.kn _ _ g1)), kit_ty hb, k.now h (r := bV _) (.bl _) q⟩
theorem w_vDic {i : Nat} {kvs : List (Key × PyData)} (h : ds[i]? = some (.dic kvs)) (q : Q (.dic kvs) O) : EvW K (tVar i) O ds Q := w_var h (fun z => nomatch z) q
end
end Wk
namespace Wk
open PySem PySem.Spec PyProof.Rows L2
/-! ### a def that may raise; the classes of errors -/
section
variable {P : Program} {w : World} {K : PySem.W.Frag} {mg : Str → Option Value} {base : Heap}
/-- the wish of a def's own errors -/
def wE (E : XK) : WX := fun cls d _ H => E cls d H
theorem KonX.toW {Hk : Hp} {Qx : Addr → Option (Str × PyData) → Own → Prop} {E : XK} (k : KonX K Hk Qx E) : KonW K Hk (fun C fs O _ => Qx C fs O) (wE E) := fun cls d C fs σ O2 ds2 Hk2 H2 e p ok q => k cls d C fs O2 Hk2 H2 e p.hold ok q
theorem fnx_ok {x qual : Str} {st : Stmt} {f : Addr} {fd : FuncData} {N ps : List Str} {k : Nat} {pre : List SD → Own → (SD → Own → Prop) → (Addr → Option (Str × PyData) → Own → Prop) → Prop} (F : Fun K x qual st f fd) (S : FnScope N ps (defScope st)) (len : ∀ rs O Q Qx, pre rs O Q Qx → rs.length = ps.length)
    (hbody : ∀ (cdv : Value) (A : Around) (outer : List Env) (s : Shared) (H : Hp) (E : XK), Room k (A.deeper (envOfC qual (defScope st) s.heap.objs.size f cdv)) →
      ∃ t, PSs (cxOf (L2.CX P w) P w K mg base N qual (defScope st) f cdv A outer s H E) (defBody st) t ∧ ∀ rs O Q Qx, pre rs O Q Qx →
        StW K t O (rs ++ List.replicate (N.length - rs.length) .non) ⟨fun O _ => Q (.dat .none) O, Q, fun _ _ => False, fun _ _ => False, fun Hk => KonW K Hk (fun C fs O _ => Qx C fs O) (wE E)⟩) :
    FnOk P w K mg base (L2.CX P w) (k + 1) f fd ps (spX K pre) :=
  F.okX S (fun vs H Q E ⟨Hk, O, rs, Q0, Qx, h, hv, hp, kk, kx⟩ => by rw [hv.length]; exact len rs O Q0 Qx hp) fun cdv A outer s H vs Q E hr ⟨Hk, O, rs, Q0, Qx, h, hv, hp, kk, kx⟩ => by
    obtain ⟨t, ht, hs⟩ := hbody cdv A outer s H E hr
    exact ⟨t, ht, hs rs O Q0 Qx hp Hk _ H _ (start_pt h hv) ⟨fun O2 ds2 Hk2 σ2 H2 e p2 q => kk _ (.dat .none) O2 Hk2 H2 e p2.hold .non q, kk, fun O2 ds2 Hk2 σ2 H2 e p2 q => q.elim, fun O2 ds2 Hk2 σ2 H2 e p2 q => q.elim, fun Hk2 e2 => (kx.ext e2).toW⟩⟩
def CalleeX (P : Program) (w : World) (K : PySem.W.Frag) (mg : Str → Option Value) (base : Heap) (x : Str) (ps : List Str) (k : Nat) (pre : List SD → Own → (SD → Own → Prop) → (Addr → Option (Str × PyData) → Own → Prop) → Prop) : Prop :=
  ∃ f fd, FnOk P w K mg base (L2.CX P w) k f fd ps (spX K pre) ∧ mg x = some (.ref f) ∧ PySem.W.keepIn K (.ref f) = true ∧ Binds K fd ps [] ∧ ∃ oc od sl, K.lookup f = some ⟨oc, od, .func fd, sl⟩
end
/-- a class of errors of the program -/
structure ExS (K : PySem.W.Frag) (mg : Str → Option Value) (x : Str) (C : Addr) : Prop where
  g : mg x = some (.ref C)
  k : PySem.W.keepIn K (.ref C) = true
  is : ExcC K C
  ty : PySem.W.typeIn K (.ref C) = some (.type "type")
theorem ExS.names {K : PySem.W.Frag} {mg : Str → Option Value} {x : Str} {C : Addr} (E : ExS K mg x C) {X : Cx} (hm : X.mg = mg) (hg : Gl X x) (hd : (x == ("__debug__" : Str)) = false) : Names X x (.ref C) := ⟨hg, hd, .inl (by rw [hm]; exact E.g)⟩
theorem ExS.xf {K : PySem.W.Frag} {mg : Str → Option Value} {x : Str} {C : Addr} (E : ExS K mg x C) : XfC K C := ⟨E.is.hg, E.is.hk, E.is.hs, E.is.hd⟩
theorem ExS.exm {K : PySem.W.Frag} {mg : Str → Option Value} {x : Str} {C : Addr} (E : ExS K mg x C) {cls : Value} {b : Bool} (h : PySem.W.subIn K cls (.ref C) = some b) : PySem.W.exmOne K cls (.ref C) = some b := PySem.W.exm_ref E.is.hs E.is.hd E.ty h
abbrev veAll : List Value := [.type "ValueError", .type "Exception", .type "BaseException", .type "object"]
structure ExN (K : PySem.W.Frag) (mg : Str → Option Value) (x : Str) (C : Addr) : Prop where
  s : ExS K mg x C
  ex : PySem.W.excIn K C veAll "ValueError.__new__" = true
/-- .. with an __init__ that keeps its argument as the field f -/
structure ExI (P : Program) (w : World) (K : PySem.W.Frag) (mg : Str → Option Value) (base : Heap) (x f : Str) (C : Addr) : Prop where
  s : ExS K mg x C
  o : OexC K C
  no : PySem.W.findIn K (.ref C) f = some none
  ic : ∃ fI fd, PySem.W.findIn K (.ref C) "__init__" = some (some (.ref fI)) ∧ PySem.W.typeIn K (.ref fI) = some (.type "function") ∧ FnOk P w K mg base CX0 1 fI fd ["self", f] (spIni C f) ∧ Binds K fd ["self", f] []
theorem ini_ok {P : Program} {w : World} {K : PySem.W.Frag} {mg : Str → Option Value} {base : Heap} {x qual f : Str} {st : Stmt} {fI C : Addr} {fd : FuncData} (T : OexC K C) (no : PySem.W.findIn K (.ref C) f = some none) (F : Fun K x qual st fI fd) (S : FnScope ["self", f] ["self", f] (defScope st))
    (hb : ∀ (cdv : Value) (A : Around) (outer : List Env) (s : Shared) (H : Hp) (E : XK), PSs (cxOf CX0 P w K mg base ["self", f] qual (defScope st) fI cdv A outer s H E).nox (defBody st) (tOst K f (tVar 0) (tVar 1))) : FnOk P w K mg base CX0 1 fI fd ["self", f] (spIni C f) :=
  F.ok (k := 0) S (fun vs H Q E ⟨a, v, e, _⟩ => by rw [e]; rfl) fun cdv A outer s H vs Q E hr ⟨a, v, e, ha, k⟩ => by
    subst e
    exact ⟨_, hb cdv A outer s H E, v, rfl, .ref a, rfl, a, C, rfl, T, no, .inl ⟨ha, fun dx h1 h2 => k dx h1 h2⟩⟩
section
variable {X : Cx} {K : PySem.W.Frag} {W : WX}
theorem psRz {x m : Str} {j : Nat} {p p2 pos pos2 : Pos} {C : Addr} (T : ExN K X.mg x C) (hc : X.calm = true) (tk : Takes X W) (hg : Gl X x) (hK : X.K = K := by rfl) (hdb : (x == ("__debug__" : Str)) = false := by decide) :
    PS X (.Raise (some (.Call (.Name x p) [.Constant (.str m) j p2] [] pos)) none pos2) (tRz C W) := by
  subst hK
  exact ps_raise hc tk (pmk_own PySem.F.excBase_ValueError T.ex T.s.g T.s.k (raises_own T.s.is.hs T.s.ty) hg hdb)
theorem psRzI {x f : Str} {e : Expr} {p pos pos2 : Pos} {C : Addr} {ta : TA} (T : ExI X.prog X.w K X.mg X.base x f C) (hc : X.calm = true) (tk : Takes X W) (hr : Room 2 X.A) (hg : Gl X x) (ha : PA X [e] ta) (hK : X.K = K := by rfl) (hdb : (x == ("__debug__" : Str)) = false := by decide)
    (he : starEach [e] X.env = (false, eval e X.env) :: starEach [] X.env := by rfl) (hpl : (backTo pos (starEach [] X.env)).any (·.1) = false := by rfl) :
    PS X (.Raise (some (.Call (.Name x p) [e] [] pos)) none pos2) (tRzI C f W ta) := by
  subst hK
  obtain ⟨fI, fd, h1, h2, h3, h4⟩ := T.ic
  exact ps_raise hc tk (pmk_oex T.o h1 h2 h3 hr h4 .nil pass0 hg T.s.g ha hdb he hpl)
theorem psTry {x n : Str} {C : Addr} {i : Nat} {body suite : List Stmt} {b₀ : Stmt} {np pos pos' : Pos} {tb : WX → TS} {ts : Addr → Value → Option Addr → TS} {Wout : WX}
    (hb : ∀ (W : WX) (pn : List (Addr × Obj)) (xe : Value → Shared → Prop), Takes (X.tr pn xe) W → PSs (X.tr pn xe) body (tb W))
    (hsu : ∀ (a : Addr) (oe : Obj) (cls : Value) (d : Option Addr) (pn : List (Addr × Obj)), Zc cls d oe → (∃ vs, oe.data = .fields vs) → PSs (X.suite a ((a, oe) :: pn)) (b₀ :: suite) (ts a cls d))
    (hs : X.stack = X.env :: X.outer) (hf : X.env.frame = some X.env.locals) (hN : X.N.Nodup) (hi : X.N[i]? = some n) (hln : X.env.kindOf n = some .local) (hc : Names X x (.ref C)) (tk : Takes X Wout) (hK : X.K = K := by rfl) :
    PS X (.Try body [.ExceptHandler (some (.Name x np)) (some n) (b₀ :: suite) pos'] [] [] pos) (tTry K (.ref C) i tb ts Wout) := by
  subst hK
  exact ps_try_as hs hf hN hi hln hc tk (fun W pn xe t _ => hb W pn xe t) hsu
theorem kIsX {a : Addr} {cls : Value} {d : Option Addr} {oe : Obj} {pn : List (Addr × Obj)} (hz : Zc cls d oe) (hf : ∃ vs, oe.data = .fields vs) (hK : X.K = K := by rfl) : CallR (X.suite a ((a, oe) :: pn)) (.builtin "isinstance") (rIsX K a cls d) := by
  subst hK
  exact call_isX hz hf
theorem psXf {a C : Addr} {oe : Obj} {cls : Value} {d : Option Addr} {pn : List (Addr × Obj)} {e : Expr} {te : TE} {pos : Pos} {n x : Str} {mg : Str → Option Value} (T : ExS K mg x C) (hno : PySem.W.findIn K (.ref C) n = some none)
    (hz : Zc cls d oe) (hf : ∃ vs, oe.data = .fields vs) (he : PE (X.suite a ((a, oe) :: pn)) e te) (hK : X.K = K := by rfl) (hb : attributeBase e n X.env (eval e X.env) = eval e X.env := by rfl) :
    PE (X.suite a ((a, oe) :: pn)) (.Attribute e n pos) (tXf a cls d C n te) := by
  subst hK
  exact pe_xf T.xf hno hz hf he hb
end
end Wk
namespace Wk
open PySem PySem.Spec PyProof.Rows L2
/-! ### what is owned, said otherwise; tuples that hold what is owned; a loop over an owned list -/
def Cv (K : PySem.W.Frag) (O O' : Own) : Prop := ∀ Hk H, Hold K Hk O H → ∃ Hk', Same Hk Hk' ∧ Hold K Hk' O' H
section
variable {K : PySem.W.Frag} {Hk Hk' H H' : Hp} {O O' Oa : Own} {ds : List SD} {σ : L2.St} {Q : SD → Own → Prop} {Q' : VK} {x y : SD} {A : AE} {D : Ends} {t u : TS} {te : TE} {ta : TA} {d e : PyData}
theorem Cv.refl : Cv K O O := fun Hk H h => ⟨Hk, Same.refl _, h⟩
theorem Cv.trans {O2 : Own} (a : Cv K O O') (b : Cv K O' O2) : Cv K O O2 := fun Hk H h => by
  obtain ⟨Hk1, e1, h1⟩ := a Hk H h
  obtain ⟨Hk2, e2, h2⟩ := b Hk1 H h1
  exact ⟨Hk2, e1.trans e2, h2⟩
theorem Cv.perm (s : O.Perm O') : Cv K O O' := fun Hk H h => ⟨Hk, Same.refl _, h.perm s⟩
theorem Cv.sub (s : List.Sublist O' O) : Cv K O O' := fun Hk H h => ⟨Hk, Same.refl _, h.sub s⟩
theorem w_cv (h : EvW K te O ds fun r O1 => ∃ O2, Cv K O1 O2 ∧ Q r O2) : EvW K te O ds Q := fun Hk σ H p Q' k =>
  h Hk σ H p _ fun v r O1 Hk1 H1 e1 h1 s1 q1 => by
    obtain ⟨O2, c, q⟩ := q1
    obtain ⟨Hk2, e2, h2⟩ := c Hk1 H1 h1
    exact k v r O2 Hk2 H1 (e1.trans e2) h2 (s1.mono e2) q
theorem s_cv (c : Cv K O O') (h : StW K t O' ds A) : StW K t O ds A := fun Hk σ H D p l => by
  obtain ⟨Hk2, e2, h2⟩ := c Hk H p.hold
  exact h Hk2 σ H D (p.ext e2 h2) (l.ext e2)
theorem SDall.split : ∀ {us : List SD} {vs : List V} {ws : List SD}, SDall K Hk vs (us ++ ws) → ∃ v1 v2, vs = v1 ++ v2 ∧ SDall K Hk v1 us ∧ SDall K Hk v2 ws
  | [], vs, ws, h => ⟨[], vs, rfl, .nil, h⟩
  | u :: us, _, ws, h => by
    rw [List.cons_append] at h
    cases h with
    | cons a r =>
      obtain ⟨v1, v2, rfl, h1, h2⟩ := SDall.split r
      exact ⟨_ :: v1, v2, rfl, .cons a h1, h2⟩
/-- an owned list of data within an owned list becomes data -/
theorem Cv.frzIn {c a : Addr} {us ws rs : List SD} {es : List PyData} (hd : Dats rs es) : Cv K ((c, .lst (us ++ .ad a :: ws)) :: (a, .lst rs) :: O) ((c, .lst (us ++ .dat (.list es) :: ws)) :: O) := fun Hk H h => by
  obtain rfl := hd.eq
  obtain ⟨Hk2, e2, h2, d2⟩ := (h.perm (.swap ..)).freeze
  obtain ⟨⟨vs, g1, g2⟩, _⟩ := h2.ow _ List.mem_cons_self
  obtain ⟨v1, v2, rfl, s1, s2⟩ := g2.split
  cases s2 with
  | cons s3 s4 =>
    cases (show _ = V.ref a from s3)
    exact ⟨Hk2, e2, h2.tell ⟨_, g1, s1.append (.cons d2 s4)⟩⟩
/-- a tuple that holds what is owned -/
theorem w_tupO (h : AvW K ta O ds fun rs O1 => rs.length ≤ sizeLine ∧ ∀ l, Q (.ad l) ((l, .tup rs) :: O1)) : EvW K (tTup ta) O ds Q := fun Hk σ H p Q' k =>
  h Hk σ H p _ fun vs rs O1 Hk1 H1 e1 h1 s1 q1 => by
    obtain ⟨hl, q⟩ := q1
    exact ⟨by rw [s1.length]; exact hl, fun l hp => k _ (.ad l) _ Hk1 _ e1 (h1.ownG (x := .tup rs) hp ⟨vs, upd_same, s1⟩) rfl (q l)⟩
theorem o_ixTO {a : Addr} {rs : List SD} {i : Int} {d : SD} (hm : (a, OD.tup rs) ∈ O) (ha : atI rs i = some d) (q : Q d O) : OpW K (rIxT K) (.ad a) (iV i) O Q := fun Hk H h u v hu hv Q' k => by
  cases (show Da Hk v (.int i) from hv)
  cases (show u = .ref a from hu)
  obtain ⟨⟨vs, h1, h2⟩, _⟩ := h.ow _ hm
  obtain ⟨j, e1, e2⟩ := atI_get ha
  obtain ⟨w, g1, g2⟩ := h2.get e2
  exact ⟨a, vs, i, w, rfl, rfl, .inl (.inl h1), atI_of (by rw [h2.length]; exact e1) g1, k.now h g2 q⟩
theorem i_TO {a : Addr} {rs : List SD} {n : String} {b : Bool} (hm : (a, OD.tup rs) ∈ O) (hb : kitB "tuple" n = some b) (q : Q (bV b) O) : CbW K (rIsi K) [.ad a, .ty n] O Q := fun Hk H h us hus Q' k => by
  obtain ⟨u, v, rfl, hu, hv⟩ := all2 hus
  cases (show v = .ty n from hv)
  cases (show u = .ref a from hu)
  obtain ⟨⟨vs, h1, h2⟩, _⟩ := h.ow _ hm
  exact ⟨_, .ty n, _, _, b, rfl, .ty n, .base (.tup h1), kit_ty hb, k.now h (r := bV _) (.bl _) q⟩
theorem VD.ot {a : Addr} {rs : List SD} {es : List PyData} (hm : (a, OD.tup rs) ∈ O) (hv : VDs K O rs es) : VD K O (.ad a) (.tuple es) := fun Hk H h u hu => by
  obtain ⟨⟨vs, h1, h2⟩, _⟩ := h.ow _ hm
  cases (show u = .ref a from hu)
  exact .tup h1 (hv.all h h2)
/-- [e for x in xs if t] over an owned list -/
theorem w_lcX {tl : TE} {j : Nat} {tt : TT} {te : TE} (h : EvW K tl O ds fun r O1 => ∃ a rs Oa, r = .ad a ∧ O1.Perm ((a, OD.lst rs) :: Oa) ∧ rs.length ≤ 1000000 ∧ ∀ vs : List V, ∃ I : Nat → List SD → Own → Prop, I 0 [] ((a, .lstX vs rs) :: Oa) ∧
    (∀ i acc O2, I i acc O2 → (a, OD.lstX vs rs) ∈ O2) ∧
    (∀ (i : Nat) r acc O2, rs[i]? = some r → acc.length ≤ i → I i acc O2 → LcTurn K tt te O2 (ds.set j r) acc (I (i + 1))) ∧ ∀ acc O2 Dl, I rs.length acc O2 → ∃ Ob, O2.Perm ((a, OD.lstX vs rs) :: Ob) ∧ Q (.ad Dl) ((Dl, .lst acc) :: (a, .lst rs) :: Ob)) : EvW K (tLc (iList K tl) (gName j) tt te [j]) O ds Q := fun Hk σ H p Q' k =>
  h Hk σ H p _ fun v rs O1 Hk1 H1 e1 h1' s1 q1 => by
    obtain ⟨a, rs, Oa, rfl, hp, hn, q1⟩ := q1
    cases (show v = .ref a from s1)
    have h1 := h1'.perm hp
    obtain ⟨⟨xs, g1, g2⟩, _⟩ := h1.ow _ List.mem_cons_self
    obtain ⟨I, h0, hin, hs, hd⟩ := q1 xs
    have h2 : Hold K Hk1 ((a, .lstX xs rs) :: Oa) H1 := h1.tell ⟨g1, g2⟩
    have seq : ∀ {acc : List SD} {O2 : Own} {Hk2 H2 : Hp} {i : Nat} {Dl : Addr}, Hold K Hk2 ((Dl, OD.lst acc) :: O2) H2 → I i acc O2 → H2 a = some (.lst xs) ∧ SDall K Hk2 xs rs := fun {acc O2 Hk2 H2 i Dl} hh q => (hh.ow _ (List.mem_cons_of_mem _ (hin _ _ _ q))).1
    refine ⟨a, rfl, ⟨xs, .inl (.inl g1)⟩, fun Dl hf => lc_list (xs := xs) (fun i H => ∃ acc O2 Hk2, Same Hk1 Hk2 ∧ acc.length ≤ i ∧ Hold K Hk2 ((Dl, OD.lst acc) :: O2) H ∧ I i acc O2)
      ⟨[], _, Hk1, Same.refl _, Nat.le_refl _, h2.own hf .nil, h0⟩ (fun i H2 _ ⟨acc, O2, Hk2, e2, hl, hh, q⟩ => .inl (.inl (seq hh q).1)) (fun i x H2 hi hP => ?_) (fun H2 hP => ?_)⟩
    · obtain ⟨acc, O2, Hk2, e2, hl, hh, q⟩ := hP
      have sa := (seq hh q).2
      obtain ⟨r, hr1⟩ : ∃ r, rs[i]? = some r := by
        have hlt := (List.getElem?_eq_some_iff.mp hi).1
        exact ⟨_, List.getElem?_eq_getElem (by rw [← sa.length]; exact hlt)⟩
      obtain ⟨w, hw1, hw2⟩ := sa.get hr1
      rw [hi] at hw1
      cases hw1
      have hlt := (List.getElem?_eq_some_iff.mp hr1).1
      have hz : acc.length < sizeLine := Nat.lt_of_lt_of_le (show acc.length < 1000001 by omega) (by decide)
      have ht := hs i r acc O2 hr1 hl q
      refine lc_turn (d := r) (P' := fun H => ∃ acc2 O3 Hk2, Same Hk1 Hk2 ∧ acc2.length ≤ i + 1 ∧ Hold K Hk2 ((Dl, OD.lst acc2) :: O3) H ∧ I (i + 1) acc2 O3) (I' := fun acc2 O3 => acc2.length ≤ i + 1 ∧ I (i + 1) acc2 O3) ?_ hz ((p.ext e1 h1').ext e2 (hh.sub (List.sublist_cons_self ..))) hh hw2 fun acc2 O3 Hk3 H3 e3 h3 q3 => ⟨acc2, O3, Hk3, e2.trans e3, q3.1, h3, q3.2⟩
      intro Dl2 Hk3 σ3 H3 p3 Q3 k3
      refine ht Dl2 Hk3 σ3 H3 p3 Q3 fun b O3 Hk4 H4 e4 h4 q4 => k3 b O3 Hk4 H4 e4 h4 ⟨fun hb => w_mono (q4.1 hb) fun r O4 ⟨O5, hp, q5⟩ => ⟨O5, hp, by rw [List.length_append]; simp; omega, q5⟩, fun hb => ?_⟩
      obtain ⟨O5, hp, q5⟩ := q4.2 hb
      exact ⟨O5, hp, by omega, q5⟩
    · obtain ⟨acc, O2, Hk2, e2, hl, hh, q⟩ := hP
      have sa := (seq hh q)
      rw [sa.2.length] at q
      obtain ⟨Ob, hp2, q2⟩ := hd acc O2 Dl q
      have h3 := (hh.perm (hp2.cons (Dl, OD.lst acc))).perm (.swap ..)
      exact k _ (.ad Dl) _ Hk2 H2 (e1.trans e2) ((h3.tell (y := .lst rs) ⟨xs, sa.1, sa.2⟩).perm (.swap ..)) rfl q2
end
end Wk
namespace Wk
open PySem PySem.Spec PyProof.Rows L2
section
variable {K : PySem.W.Frag} {Hk Hk' H H' : Hp} {O O' Oa : Own} {ds : List SD} {σ : L2.St} {Q : SD → Own → Prop} {Q' : VK} {x y : SD} {A : AE} {D : Ends} {t u : TS} {te : TE} {ta : TA} {W : WX}
  {Qs : Addr → Option (Str × PyData) → Own → List SD → Prop}
/-- for x in range(lo, hi, -1) -/
theorem s_for3N {ta : TA} {j : Nat} {tb : TS} (h : AvW K ta O ds fun rs O1 => ∃ lo hi : Int, rs = [iV lo, iV hi, iV (-1)] ∧ (-(2 ^ 62) ≤ lo ∧ lo < 2 ^ 62 ∧ -(2 ^ 62) ≤ hi ∧ hi < 2 ^ 62) ∧ ∃ I : Nat → Own → List SD → Prop, I 0 O1 ds ∧
    (∀ (i : Nat) O2 ds2, hi + (i : Int) < lo → I i O2 ds2 → ∀ B : AE, Bdy I i A B → StW K tb O2 (ds2.set j (iV (lo - (i : Int)))) B) ∧ ∀ O2 ds2, I (lo - hi).toNat O2 ds2 → A.nx O2 ds2) : StW K (tFor (iRng3 ta) (gName j) tb) O ds A := fun Hk σ H D p l =>
  h Hk σ H p _ fun vs rs O1 Hk1 H1 e1 h1 s1 q1 => by
    obtain ⟨lo, hi, rfl, ⟨b1, b2, b3, b4⟩, I, h0, hs, hd⟩ := q1
    cases s1 with
    | @cons v1 _ _ _ g1 r =>
      cases r with
      | @cons v2 _ _ _ g2 r =>
        cases r with
        | @cons v3 _ _ _ g3 r =>
          cases r
          cases (show Da Hk1 v1 (.int lo) from g1)
          cases (show Da Hk1 v2 (.int hi) from g2)
          cases (show Da Hk1 v3 (.int (-1)) from g3)
          have p1 := p.ext e1 h1
          have l1 := l.ext e1
          refine ⟨lo, hi, -1, (lo - hi).toNat, rfl, RgC.neg b1 b2 b3 b4, for_rangeC (fun i σ H => ∃ O2 ds2 Hk2, Same Hk1 Hk2 ∧ Pt K Hk2 O2 ds2 σ H ∧ I i O2 ds2) ⟨O1, ds, Hk1, Same.refl _, p1, h0⟩
            (fun i σ' H' hi' ⟨O2, ds2, Hk2, e, p2, q⟩ => ?_) (fun σ' H' ⟨O2, ds2, Hk2, e, p2, q⟩ => l1.nx O2 ds2 Hk2 σ' H' e p2 (hd O2 ds2 q))⟩
          have ev : lo + ((i : Nat) : Int) * -1 = lo - (i : Int) := by omega
          rw [ev]
          exact hs i O2 ds2 (by omega) q _ .mk' Hk2 _ H' _ (p2.set (r := iV (lo - (i : Int))) (.int _))
            ⟨fun O3 ds3 Hk3 σ3 H3 e3 p3 q3 => ⟨O3, ds3, Hk3, e.trans e3, p3, q3⟩, l1.rt.ext e, l1.nx.ext e, fun O3 ds3 Hk3 σ3 H3 e3 p3 q3 => ⟨O3, ds3, Hk3, e.trans e3, p3, q3⟩, l1.xt.ext e⟩
/-- f'..{e}', e an int -/
def tFs (m : Str) (te : TE) : TE := fun σ H Q => tJs [tC (.str m), tFmt te] Str.empty σ H fun out H1 => Q (.str out) H1
theorem w_fs {m : Str} (hm : m.length ≤ 1000) (h : EvW K te O ds fun r O1 => ∃ i : Int, r = iV i ∧ i.natAbs.log2 < 1920 ∧ ∀ s, Q (.dat (.str s)) O1) : EvW K (tFs m te) O ds Q := fun Hk σ H p Q' k => by
  have e0 : (Str.empty ++ m).length ≤ 1000 := by
    rw [Str.length_append]
    show 0 + m.length ≤ 1000
    omega
  refine ⟨m, rfl, Nat.le_trans e0 (by decide), ?_⟩
  refine h Hk σ H p _ fun v r O1 Hk1 H1 e1 h1 s1 q1 => ?_
  obtain ⟨i, rfl, hi, q⟩ := q1
  cases (show Da Hk1 v (.int i) from s1)
  refine .inr ⟨i, rfl, hi, _, rfl, ?_, ?_⟩
  · have e := int_text_length_le (k := 1920) (by decide) hi
    rw [Str.length_append, PySem.ofString_length]
    refine Nat.le_trans (Nat.add_le_add e0 e) (by decide)
  · exact k _ (.dat (.str _)) O1 Hk1 H1 e1 h1 (.str _) (q _)
/-- raise X(e), X without an __init__ -/
def tRz1 (C : Addr) (W : WX) (te : TE) : TS := fun _ σ H => te σ H fun _ H1 => W (.ref C) none σ H1
theorem s_rz1 {C : Addr} (hW : ∀ Hk, A.xt Hk → KonW K Hk Qs W) (h : EvW K te O ds fun _ O1 => Qs C none O1 ds) : StW K (tRz1 C W te) O ds A := fun Hk σ H D p l =>
  h Hk σ H p _ fun v r O1 Hk1 H1 e1 h1 s1 q1 => hW Hk (l.xt Hk (Same.refl _)) (.ref C) none C none σ O1 ds Hk1 H1 e1 (p.ext e1 h1) ⟨rfl, rfl⟩ q1
end
section
variable {X : Cx} {K : PySem.W.Frag} {W : WX}
theorem psRz1 {x : Str} {e : Expr} {te : TE} {p pos pos2 : Pos} {C : Addr} (T : ExN K X.mg x C) (hc : X.calm = true) (tk : Takes X W) (hg : Gl X x) (he : PE X e te) (hK : X.K = K := by rfl) (hs : starEach [e] X.env = (false, eval e X.env) :: starEach [] X.env := by rfl) (hdb : (x == ("__debug__" : Str)) = false := by decide) :
    PS X (.Raise (some (.Call (.Name x p) [e] [] pos)) none pos2) (tRz1 C W te) := by
  subst hK
  exact ps_raise hc tk (SkE.pmk_own1 PySem.F.excBase_ValueError T.ex T.s.g T.s.k (raises_own T.s.is.hs T.s.ty) hg he hs hdb)
theorem psFs {te : TE} {pos p2 : Pos} {m : Str} {j : Nat} {v2 : Expr} (h1 : PE X (.Constant (.str m) j p2) (tC (.str m))) (h2 : PE X v2 (tFmt te)) : PE X (.JoinedStr [.Constant (.str m) j p2, v2] pos) (tFs m te) := pe_joined (.cons h1 (.cons h2 .nil))
end
section
variable {K : PySem.W.Frag} {Hk Hk' H H' : Hp} {O O' Oa : Own} {ds : List SD} {Q : SD → Own → Prop} {A : AE} {ta : TA} {W : WX} {preX : List SD → Own → (SD → Own → Prop) → (Addr → Option (Str × PyData) → Own → Prop) → Prop}
  {Qs : Addr → Option (Str × PyData) → Own → List SD → Prop}
/-- what is owned besides may be let go -/
theorem KonW.sub (k : KonW K Hk Qs W) : KonW K Hk (fun C fs O2 ds2 => ∃ O3, List.Sublist O3 O2 ∧ Qs C fs O3 ds2) W := fun cls d C fs σ O2 ds2 Hk2 H2 e p ok ⟨O3, s, q⟩ =>
  k cls d C fs σ O3 ds2 Hk2 H2 e ⟨p.hold.sub s, p.len, p.env⟩ ok q
/-- a def that may raise, called where it does not -/
theorem w_callN (h : AvW K ta O ds fun rs O1 => preX rs O1 Q fun _ _ _ => False) : EvW K (tCallS (spX K preX) (WE fun _ _ _ _ => False) ta) O ds Q := fun Hk σ H p Q' k =>
  h Hk σ H p _ fun vs rs O1 Hk1 H1 e1 h1 s1 q1 => ⟨Hk1, O1, rs, Q, _, h1, s1, q1, k.ext e1, fun cls d C fs O2 Hk2 H2 e2 h2 ok q => q.elim⟩
/-- {'k': e, 'l': f} as data -/
theorem w_dic2 {f g : Str} {tv tw : TE} (hfg : ∀ v w : V, mergeK [] [((Sum.inr f : Key), v), (Sum.inr g, w)] = [(Sum.inr f, v), (Sum.inr g, w)]) (h : ∀ pn, EvW K tv ((pn, .dK []) :: O) ds fun r O1 => ∃ d, r = .dat d ∧ EvW K tw O1 ds fun r2 O2 => ∃ e Oa, r2 = .dat e ∧ O2 = (pn, .dK []) :: Oa ∧ Q (.dic [(.inr f, d), (.inr g, e)]) Oa) : EvW K (tDisp [(tC (.str f), tv), (tC (.str g), tw)]) O ds Q := fun Hk σ H p Q' k pn hf => by
  have h0 := p.hold.ownG (p := pn) (o := .dK []) (x := .dK []) hf ⟨[], upd_same, rfl, .nil⟩
  have p0 : Pt K Hk ((pn, .dK []) :: O) ds σ (upd H pn (.dK [])) := ⟨h0, p.len, p.env⟩
  show tv σ (upd H pn (.dK [])) fun y H2 => tw σ H2 _
  refine h pn Hk σ _ p0 _ fun v r O1 Hk1 H1 e1 h1 s1 q1 => ?_
  obtain ⟨d, rfl, q1⟩ := q1
  refine q1 Hk1 σ H1 (p0.ext e1 h1) _ fun w r2 O2 Hk2 H2 e2 h2 s2 q2 => ?_
  obtain ⟨e, Oa, rfl, rfl, q⟩ := q2
  obtain ⟨⟨vs, g1, g2, g3⟩, g4⟩ := h2.ow (pn, .dK []) List.mem_cons_self
  have e0 : vs = [] := by
    cases vs with
    | nil => rfl
    | cons a b => cases g2
  subst e0
  refine ⟨g1, [(.inr f, v), (.inr g, w)], rfl, Nat.le_of_ble_eq_true rfl, ?_⟩
  rw [hfg]
  have nd := h2.nd
  rw [List.map_cons, List.nodup_cons] at nd
  have sm : Same Hk2 (upd Hk2 pn (.dK [(.inr f, v), (.inr g, w)])) := same_new g4
  refine k _ (.dic [(.inr f, d), (.inr g, e)]) Oa (upd Hk2 pn (.dK [(.inr f, v), (.inr g, w)])) _ (e1.trans (e2.trans sm)) ⟨fun b y e => ?_, fun q hq => ?_, nd.2⟩ ⟨pn, [(.inr f, v), (.inr g, w)], rfl, upd_same, rfl, .cons (Da.mono (e2.trans sm) s1) (.cons (Da.mono sm s2) .nil)⟩ q
  · by_cases hb : b = pn
    · subst hb
      rw [upd_same] at e ⊢
      exact e
    · rw [upd_ne hb] at e ⊢
      exact h2.kn b y e
  · have ne : q.1 ≠ pn := fun z => nd.1 (z ▸ List.mem_map.mpr ⟨q, hq, rfl⟩)
    obtain ⟨h5, h6⟩ := h2.ow q (List.mem_cons_of_mem _ hq)
    exact ⟨h5.mono sm (upd_ne ne), by rw [upd_ne ne]; exact h6⟩
theorem flat_all : ∀ {kvs : List (Key × PyData)} {ks ls : List (Key × V)} {H : Hp}, (∀ p ∈ kvs, flatD p.2 = true) → ks.map (·.1) = kvs.map (·.1) → ls.map (·.1) = kvs.map (·.1) → DaAll H (ks.map (·.2)) (kvs.map (·.2)) → DaAll H (ls.map (·.2)) (kvs.map (·.2)) → ks = ls ∧ ∀ p ∈ ks, flatB p.2 = true
  | [], [], [], _, _, _, _, _, _ => ⟨rfl, fun _ h => absurd h List.not_mem_nil⟩
  | [], _ :: _, _, _, _, h, _, _, _ => by cases h
  | [], [], _ :: _, _, _, _, h, _, _ => by cases h
  | _ :: _, [], _, _, _, h, _, _, _ => by cases h
  | _ :: _, _ :: _, [], _, _, _, h, _, _ => by cases h
  | (k, d) :: kvs, (k1, v1) :: ks, (k2, v2) :: ls, H, hf, h1, h2, .cons a1 r1, .cons a2 r2 => by
    injection h1 with e1 h1
    injection h2 with e2 h2
    obtain ⟨e, hr⟩ := flat_all (fun p hp => hf p (List.mem_cons_of_mem _ hp)) h1 h2 r1 r2
    have hd := hf _ List.mem_cons_self
    have ev : v1 = v2 := flat_one a1 a2 hd
    have e1' : k1 = k := e1
    have e2' : k2 = k := e2
    refine ⟨by rw [e1', e2', ev, e], fun p hp => ?_⟩
    rcases List.mem_cons.mp hp with rfl | hp
    · exact flat_of a1 hd
    · exact hr p hp
theorem val_of : ∀ {ks : List (Key × V)}, (ks.map (·.1)).Nodup → ∀ p ∈ ks, valV ks p.1 = some p.2
  | [], _, _, h => absurd h List.not_mem_nil
  | q :: ks, hn, p, hp => by
    rw [List.map_cons, List.nodup_cons] at hn
    rcases List.mem_cons.mp hp with rfl | hp
    · exact valV_pos rfl
    · have ne : q.1 ≠ p.1 := fun z => hn.1 (z ▸ List.mem_map.mpr ⟨p, hp, rfl⟩)
      rw [valV_neg ne]
      exact val_of hn.2 p hp
theorem o_neDic {kvs : List (Key × PyData)} (hf : ∀ p ∈ kvs, flatD p.2 = true) (hn : (kvs.map (·.1)).Nodup) (q : Q (bV false) O) : OpW K rNeDA (.dic kvs) (.dic kvs) O Q := fun Hk H h u v hu hv Q' k => by
  obtain ⟨a, vs, rfl, g1, g2, g3⟩ := hu
  obtain ⟨b, ws, rfl, j1, j2, j3⟩ := hv
  obtain ⟨e, hfl⟩ := flat_all hf g2 j2 g3 j3
  subst e
  exact ⟨a, b, vs, vs, rfl, rfl, h.kn _ _ g1, h.kn _ _ j1, rfl, fun p hp => ⟨val_of (by rw [g2]; exact hn) p hp, hfl p hp⟩, k.now h (r := bV false) (.bl _) q⟩
end
end Wk
namespace Wk
open PySem PySem.Spec PyProof.Rows L2
/-! ### dicts that are owned -/
def valS (kvs : List (Key × SD)) (k : Key) : Option SD := (kvs.find? fun p => decide (p.1 = k)).map (·.2)
def putS (kvs : List (Key × SD)) (k : Key) (r : SD) : List (Key × SD) := kvs.map fun p => if p.1 = k then (p.1, r) else p
section
variable {K : PySem.W.Frag} {Hk Hk' H H' : Hp} {O O' Oa : Own} {ds : List SD} {σ : L2.St} {Q : SD → Own → Prop} {Q' : VK} {x y : SD} {A : AE} {D : Ends} {t u : TS} {te td to : TE} {ta : TA}
theorem val_at {k : Key} {d : SD} : ∀ {vs : List (Key × V)} {kvs : List (Key × SD)}, vs.map (·.1) = kvs.map (·.1) → SDall K Hk (vs.map (·.2)) (kvs.map (·.2)) → valS kvs k = some d → ∃ v, valV vs k = some v ∧ SDok K Hk v d
  | _, [], _, _, h => by cases h
  | [], _ :: _, e, _, _ => by cases e
  | v :: vs, p :: kvs, e, .cons a r, h => by
    injection e with e1 e2
    have e1' : v.1 = p.1 := e1
    by_cases z : p.1 = k
    · have : valS (p :: kvs) k = some p.2 := by simp [valS, List.find?_cons, z]
      rw [this] at h
      cases h
      exact ⟨v.2, valV_pos (e1'.trans z), a⟩
    · have : valS (p :: kvs) k = valS kvs k := by simp [valS, List.find?_cons, z]
      rw [this] at h
      obtain ⟨w, h1, h2⟩ := val_at e2 r h
      exact ⟨w, by rw [valV_neg (by rw [e1']; exact z)]; exact h1, h2⟩
theorem put_at {k : Key} {d r : SD} {v : V} (hv : SDok K Hk v r) {vs : List (Key × V)} {kvs : List (Key × SD)} (e : vs.map (·.1) = kvs.map (·.1)) (h : SDall K Hk (vs.map (·.2)) (kvs.map (·.2))) (hk : valS kvs k = some d) :
    (putK vs k v).map (·.1) = (putS kvs k r).map (·.1) ∧ SDall K Hk ((putK vs k v).map (·.2)) ((putS kvs k r).map (·.2)) := by
  have hany : (vs.any fun kv => decide (kv.1 = k)) = true := by
    obtain ⟨w, h1, _⟩ := val_at e h hk
    rw [valV_any, h1]
    rfl
  have key : ∀ {vs : List (Key × V)} {kvs : List (Key × SD)}, vs.map (·.1) = kvs.map (·.1) → SDall K Hk (vs.map (·.2)) (kvs.map (·.2)) → (vs.map fun kv => if kv.1 = k then (kv.1, v) else kv).map (·.1) = (putS kvs k r).map (·.1) ∧ SDall K Hk ((vs.map fun kv => if kv.1 = k then (kv.1, v) else kv).map (·.2)) ((putS kvs k r).map (·.2)) := by
    intro vs
    induction vs with
    | nil =>
      intro kvs e h
      cases kvs with
      | nil => exact ⟨rfl, .nil⟩
      | cons p kvs => cases e
    | cons w vs ih =>
      intro kvs e h
      cases kvs with
      | nil => cases e
      | cons p kvs =>
        injection e with e1 e2
        have e1' : w.1 = p.1 := e1
        cases h with
        | cons a b =>
          obtain ⟨i1, i2⟩ := ih e2 b
          by_cases z : p.1 = k
          · have z' : w.1 = k := e1'.trans z
            refine ⟨?_, ?_⟩
            · show (if w.1 = k then (w.1, v) else w).1 :: _ = (if p.1 = k then (p.1, r) else p).1 :: _
              rw [if_pos z, if_pos z']
              exact congr (congrArg _ e1') i1
            · show SDall K Hk ((if w.1 = k then (w.1, v) else w).2 :: _) ((if p.1 = k then (p.1, r) else p).2 :: _)
              rw [if_pos z, if_pos z']
              exact .cons hv i2
          · have z' : ¬ w.1 = k := fun q => z (e1'.symm.trans q)
            refine ⟨?_, ?_⟩
            · show (if w.1 = k then (w.1, v) else w).1 :: _ = (if p.1 = k then (p.1, r) else p).1 :: _
              rw [if_neg z, if_neg z']
              exact congr (congrArg _ e1') i1
            · show SDall K Hk ((if w.1 = k then (w.1, v) else w).2 :: _) ((if p.1 = k then (p.1, r) else p).2 :: _)
              rw [if_neg z, if_neg z']
              exact .cons a i2
  have := key e h
  unfold putK
  rw [if_pos hany]
  exact this
/-- d['k'], d owned -/
theorem w_dget {f : Str} (h : EvW K td O ds fun r O1 => ∃ a kvs d, r = .ad a ∧ (a, OD.dK kvs) ∈ O1 ∧ valS kvs (.inr f) = some d ∧ Q d O1) : EvW K (tDGet td (tC (.str f))) O ds Q := fun Hk σ H p Q' k =>
  h Hk σ H p _ fun v r O1 Hk1 H1 e1 h1 s1 q1 => by
    obtain ⟨a, kvs, d, rfl, hm, hv, q⟩ := q1
    cases (show v = .ref a from s1)
    obtain ⟨⟨vs, g1, g2, g3⟩, _⟩ := h1.ow _ hm
    obtain ⟨w, h2, h3⟩ := val_at g2 g3 hv
    refine ⟨a, w, rfl, ?_, k w d O1 Hk1 H1 e1 h1 h3 q⟩
    have := DGet.k (k := .inr f) g1
    rw [h2] at this
    exact this
/-- d['k'] = e, d owned, k there -/
theorem s_setD {f : Str} (h : EvW K te O ds fun r O1 => EvW K to O1 ds fun ro O2 => ∃ a kvs d Oa O4, ro = .ad a ∧ O2.Perm ((a, .dK kvs) :: Oa) ∧ kvs.length ≤ 1000 ∧ valS kvs (.inr f) = some d ∧ Own.P ((a, .dK (putS kvs (.inr f) r)) :: Oa) O4 ∧ A.nx O4 ds) : StW K (tAsg te (gSub to (tC (.str f)) rSetD)) O ds A := fun Hk σ H D p l =>
  h Hk σ H p _ fun v r O1 Hk1 H1 e1 h1 s1 q1 => q1 Hk1 σ H1 (p.ext e1 h1) _ fun vo ro O2 Hk2 H2 e2 h2 s2 q2 => by
    obtain ⟨a, kvs, d, Oa, O4, rfl, hp, hl, hv, hp2, q⟩ := q2
    cases (show vo = .ref a from s2)
    have h' := h2.perm hp
    obtain ⟨⟨vs, g1, g2, g3⟩, _⟩ := h'.ow _ List.mem_cons_self
    obtain ⟨p1, p2⟩ := put_at (s1.mono e2) g2 g3 hv
    have hlen : vs.length < sizeLine := by
      have := congrArg List.length g2
      rw [List.length_map, List.length_map] at this
      rw [this]
      exact Nat.lt_of_le_of_lt hl (by decide)
    refine ⟨a, _, rfl, DPut.k (k := .inr f) g1 hlen, ?_⟩
    exact l.nx _ ds Hk2 σ _ (e1.trans e2) (p.ext (e1.trans e2) ((h'.writeG (y := .dK (putS kvs (.inr f) r)) ⟨_, upd_same, p1, p2⟩).perm hp2)) q
/-- {'k': e, 'l': f} as a dict that is owned -/
theorem w_dic2O {f g : Str} {tv tw : TE} (hfg : ∀ v w : V, mergeK [] [((Sum.inr f : Key), v), (Sum.inr g, w)] = [(Sum.inr f, v), (Sum.inr g, w)]) (h : ∀ pn, EvW K tv ((pn, .dK []) :: O) ds fun r O1 => EvW K tw O1 ds fun r2 O2 => ∃ Oa, O2 = (pn, .dK []) :: Oa ∧ Q (.ad pn) ((pn, .dK [(.inr f, r), (.inr g, r2)]) :: Oa)) : EvW K (tDisp [(tC (.str f), tv), (tC (.str g), tw)]) O ds Q := fun Hk σ H p Q' k pn hf => by
  have h0 := p.hold.ownG (p := pn) (o := .dK []) (x := .dK []) hf ⟨[], upd_same, rfl, .nil⟩
  have p0 : Pt K Hk ((pn, .dK []) :: O) ds σ (upd H pn (.dK [])) := ⟨h0, p.len, p.env⟩
  show tv σ (upd H pn (.dK [])) fun y H2 => tw σ H2 _
  refine h pn Hk σ _ p0 _ fun v r O1 Hk1 H1 e1 h1 s1 q1 => ?_
  refine q1 Hk1 σ H1 (p0.ext e1 h1) _ fun w r2 O2 Hk2 H2 e2 h2 s2 q2 => ?_
  obtain ⟨Oa, rfl, q⟩ := q2
  obtain ⟨⟨vs, g1, g2, g3⟩, g4⟩ := h2.ow (pn, .dK []) List.mem_cons_self
  have e0 : vs = [] := by
    cases vs with
    | nil => rfl
    | cons a b => cases g2
  subst e0
  refine ⟨g1, [(.inr f, v), (.inr g, w)], rfl, Nat.le_of_ble_eq_true rfl, ?_⟩
  rw [hfg]
  exact k _ (.ad pn) _ Hk2 _ (e1.trans e2) (h2.writeG (y := .dK [(.inr f, r), (.inr g, r2)]) ⟨[(.inr f, v), (.inr g, w)], upd_same, rfl, .cons (s1.mono e2) (.cons s2 .nil)⟩) rfl q
/-- two owned lists, one behind the other -/
theorem g_catS {a b : Addr} {rs qs : List SD} (hm : (a, OD.lst rs) ∈ O) (hn : (b, OD.lst qs) ∈ O) (hz : rs.length + qs.length ≤ 1000000) (q : ∀ l, Q (.ad l) ((l, .lst (rs ++ qs)) :: O)) : OpW K rCat (.ad a) (.ad b) O Q := fun Hk H h u v hu hv Q' k => by
  cases (show u = .ref a from hu)
  cases (show v = .ref b from hv)
  obtain ⟨⟨vs, h1, h2⟩, _⟩ := h.ow _ hm
  obtain ⟨⟨ws, g1, g2⟩, _⟩ := h.ow _ hn
  exact ⟨a, b, vs, ws, rfl, rfl, h1, g1, by rw [h2.length, g2.length]; exact Nat.le_trans hz (by decide), fun l hf => k _ (.ad l) _ Hk _ (Same.refl _) (h.own hf (h2.append g2)) rfl (q l)⟩
theorem o_eqT {i j : Str} (q : Q (bV (decide (i = j))) O) : OpW K rEq (.dat (.str i)) (.dat (.str j)) O Q := fun Hk H h u v hu hv Q' k => by
  cases (show Da Hk u (.str i) from hu)
  cases (show Da Hk v (.str j) from hv)
  refine ⟨rfl, ?_⟩
  have e : decide (V.str i = V.str j) = decide (i = j) := by
    by_cases z : i = j
    · rw [decide_eq_true z, decide_eq_true (congrArg V.str z)]
    · rw [decide_eq_false z, decide_eq_false fun q => z (V.str.inj q)]
  rw [e]
  exact k.now h (r := bV _) (.bl _) q
/-! ### exceptions as values -/
/-- X(e), X without an __init__ -/
def tXv0 (C : Addr) (te : TE) : TE := fun σ H Q => te σ H fun _ H1 => ∀ a, H1 a = none → Q (.ref a) (upd H1 a (ExO (.ref C) a))
theorem w_xv0 {C : Addr} (h : EvW K te O ds fun _ O1 => Q (.xob C none) O1) : EvW K (tXv0 C te) O ds Q := fun Hk σ H p Q' k =>
  h Hk σ H p _ fun v r O1 Hk1 H1 e1 h1 s1 q1 a ha => by
    have sm : Same Hk1 (upd Hk1 a (ExO (.ref C) a)) := same_new (h1.kn.free ha)
    exact k _ (.xob C none) O1 _ _ (e1.trans sm) (h1.know ha) ⟨a, rfl, upd_same⟩ q1
/-- X(e), X's __init__ keeps e as its field f -/
def tXvI (C : Addr) (f : Str) (ta : TA) : TE := fun σ H Q => ta σ H fun vs H1 => vs.length ≤ 1000 ∧ ∀ a, H1 a = none → spIni C f (.ref a :: vs) (upd H1 a (exo a C none)) (fun v H2 => v = .non ∧ Q (.ref a) H2) (fun _ _ _ => False)
theorem w_xvI {C : Addr} {f : Str} (h : AvW K ta O ds fun rs O1 => ∃ d, rs = [.dat d] ∧ Q (.xob C (some (f, d))) O1) : EvW K (tXvI C f ta) O ds Q := fun Hk σ H p Q' k =>
  h Hk σ H p _ fun vs rs O1 Hk1 H1 e1 h1 s1 q1 => by
    obtain ⟨x, rfl, q⟩ := q1
    obtain ⟨v, rfl, hv⟩ := all1 s1
    refine ⟨Nat.le_of_ble_eq_true rfl, fun a ha => ⟨a, v, rfl, upd_same, fun dx hdx hne => ⟨rfl, ?_⟩⟩⟩
    rw [upd_ne hne] at hdx
    have eH : upd (upd (upd H1 a (exo a C none)) dx (exd dx [(f, v)])) a (exo a C (some dx)) = upd (upd H1 dx (exd dx [(f, v)])) a (exo a C (some dx)) := by
      funext b
      by_cases hb : b = a
      · rw [hb, upd_same, upd_same]
      · rw [upd_ne hb, upd_ne hb]
        by_cases hd : b = dx
        · rw [hd, upd_same, upd_same]
        · rw [upd_ne hd, upd_ne hd, upd_ne hb]
    rw [eH]
    have ha2 : upd H1 dx (exd dx [(f, v)]) a = none := by rw [upd_ne (Ne.symm hne)]; exact ha
    have h2 := h1.know (o := exd dx [(f, v)]) hdx
    have h3 := h2.know (o := exo a C (some dx)) ha2
    have s2 : Same Hk1 (upd Hk1 dx (exd dx [(f, v)])) := same_new (h1.kn.free hdx)
    have s3 : Same (upd Hk1 dx (exd dx [(f, v)])) (upd (upd Hk1 dx (exd dx [(f, v)])) a (exo a C (some dx))) := same_new (h2.kn.free ha2)
    exact k _ (.xob C (some (f, x))) O1 _ _ (e1.trans (s2.trans s3)) h3 ⟨a, rfl, dx, v, upd_same, by rw [upd_ne hne]; exact upd_same, Da.mono (s2.trans s3) hv⟩ q
/-- e.f of such a value -/
def tXvf (C : Addr) (f : Str) (te : TE) : TE := fun σ H Q => te σ H fun x H1 => ∃ a d fs v, x = .ref a ∧ H1 a = some (exo a C (some d)) ∧ H1 d = some (exd d fs) ∧ fs.lookup f = some v ∧ Q v H1
theorem w_xvf {C : Addr} {f : Str} (h : EvW K te O ds fun r O1 => ∃ x, r = .xob C (some (f, x)) ∧ Q (.dat x) O1) : EvW K (tXvf C f te) O ds Q := fun Hk σ H p Q' k =>
  h Hk σ H p _ fun v r O1 Hk1 H1 e1 h1 s1 q1 => by
    obtain ⟨x, rfl, q⟩ := q1
    obtain ⟨a, rfl, d, w, g1, g2, g3⟩ := s1
    exact ⟨a, d, _, w, rfl, h1.kn _ _ g1, h1.kn _ _ g2, by simp [List.lookup], k _ (.dat x) O1 Hk1 H1 e1 h1 g3 q⟩
/-- isinstance(e, c) of such a value -/
def rIsV (K : PySem.W.Frag) : List V → Hp → VK → Prop := fun xs H Q => ∃ (a C : Addr) (c : V) (cv : Value) (b : Bool), ExcC K C ∧ (H a = some (ExO (.ref C) a) ∨ ∃ d fs, H a = some (exo a C (some d)) ∧ H d = some (exd d fs)) ∧ xs = [.ref a, c] ∧ (∀ u, RelV c u → u = cv) ∧ PySem.W.kitOne K (.ref C) cv = some b ∧ Q (.bl b) H
theorem g_isV {C C' : Addr} {fs : Option (Str × PyData)} {b : Bool} (T : ExcC K C) (e : PySem.W.kitOne K (.ref C) (.ref C') = some b) (q : Q (bV b) O) : CbW K (rIsV K) [.xob C fs, .ad C'] O Q := fun Hk H h us hus Q' k => by
  obtain ⟨u, v, rfl, hu, hv⟩ := all2 hus
  cases (show v = .ref C' from hv)
  obtain ⟨a, rfl, hx⟩ := hu
  refine ⟨a, C, .ref C', .ref C', b, T, ?_, rfl, fun u r => r, e, k.now h (r := bV _) (.bl _) q⟩
  cases fs with
  | none => exact .inl (h.kn _ _ hx)
  | some p =>
    obtain ⟨d, w, h1, h2, _⟩ := hx
    exact .inr ⟨d, _, h.kn _ _ h1, h.kn _ _ h2⟩
theorem g_isVT {C : Addr} {n : String} {fs : Option (Str × PyData)} {b : Bool} (T : ExcC K C) (e : PySem.W.kitOne K (.ref C) (.type n) = some b) (q : Q (bV b) O) : CbW K (rIsV K) [.xob C fs, .ty n] O Q := fun Hk H h us hus Q' k => by
  obtain ⟨u, v, rfl, hu, hv⟩ := all2 hus
  cases (show v = .ty n from hv)
  obtain ⟨a, rfl, hx⟩ := hu
  refine ⟨a, C, .ty n, .type n, b, T, ?_, rfl, fun u r => r, e, k.now h (r := bV _) (.bl _) q⟩
  cases fs with
  | none => exact .inl (h.kn _ _ hx)
  | some p =>
    obtain ⟨d, w, h1, h2, _⟩ := hx
    exact .inr ⟨d, _, h.kn _ _ h1, h.kn _ _ h2⟩
theorem w_xob {i : Nat} {C : Addr} {fs : Option (Str × PyData)} (h : ds[i]? = some (.xob C fs)) (q : Q (.xob C fs) O) : EvW K (tVar i) O ds Q := w_var h (fun z => nomatch z) q
end
section
variable {X : Cx} {K : PySem.W.Frag}
theorem peXv0 {x : Str} {e : Expr} {te : TE} {p pos : Pos} {C : Addr} (T : ExN K X.mg x C) (hg : Gl X x) (he : PE X e te) (hK : X.K = K := by rfl) (hs : starEach [e] X.env = (false, eval e X.env) :: starEach [] X.env := by rfl) (hdb : (x == ("__debug__" : Str)) = false := by decide) :
    PE X (.Call (.Name x p) [e] [] pos) (tXv0 C te) := by
  subst hK
  exact pe_exc1 PySem.F.excBase_ValueError T.ex T.s.g T.s.k hg he hs hdb
theorem peXvI {x f : Str} {e : Expr} {p pos : Pos} {C : Addr} {ta : TA} (T : ExI X.prog X.w K X.mg X.base x f C) (hr : Room 2 X.A) (hg : Gl X x) (ha : PA X [e] ta) (hK : X.K = K := by rfl) (hdb : (x == ("__debug__" : Str)) = false := by decide)
    (he : starEach [e] X.env = (false, eval e X.env) :: starEach [] X.env := by rfl) (hpl : (backTo pos (starEach [] X.env)).any (·.1) = false := by rfl) :
    PE X (.Call (.Name x p) [e] [] pos) (tXvI C f ta) := by
  subst hK
  obtain ⟨fI, fd, iC, tI, F1, hb⟩ := T.ic
  refine ⟨fun pins s σ H Q I h => ?_⟩
  obtain ⟨nm, q, N, bs, bm, sn, sub, ab, col, dd, k0, k1, k2, k3, k5, hC, hbm⟩ := T.o.cls
  refine wpAny_Call_Name_kw (ld_glob I hg T.s.g ?_ hdb)
  refine PySem.W.callWith_K (h₀ := X.base) I.ok.mod.kin T.o.kC (thn (ha.run pos pins s σ H _ I h) fun us s1 ⟨vs, H1, I1, r1, hz, q1⟩ => ⟨I1.kIn, ?_⟩) he hpl
  show wpAny _ _ (call (.ref C) us) _ _ _
  obtain ⟨hp, g, dr, tk, os⟩ := s1
  have hsz : hp.objs.size ≤ hp.objs.size + 1 := Nat.le_succ _
  have hn : H1 (hp.objs.size + 1) = none := I1.hok.fresh hsz
  have hq := q1 (hp.objs.size + 1) hn
  have kk : ∀ b o, hp.get? b = some o → ((hp.push (PySem.W.kdv_tup us)).push (PySem.HandSPX.excO C hp.objs.size)).get? b = some o := fun b o e => Heap.get?_push_of_some _ (Heap.get?_push_of_some _ e)
  have hget : ((hp.push (PySem.W.kdv_tup us)).push (PySem.HandSPX.excO C hp.objs.size)).get? (hp.objs.size + 1) = some (PySem.HandSPX.excO C hp.objs.size) := by heap_get
  have I2 : Inv X pins σ (upd H1 (hp.objs.size + 1) (exo (hp.objs.size + 1) C none)) ⟨(hp.push (PySem.W.kdv_tup us)).push (PySem.HandSPX.excO C hp.objs.size), g, dr, tk, os⟩ :=
    I1.laid (t' := tk) (a := hp.objs.size + 1) (o := exo (hp.objs.size + 1) C none) (h' := (hp.push (PySem.W.kdv_tup us)).push (PySem.HandSPX.excO C hp.objs.size)) kk hsz (exo_ok hget)
  have r2 : Vals (V.ref (hp.objs.size + 1) :: vs) (Value.ref (hp.objs.size + 1) :: us) := .cons rfl r1
  have hl : (Value.ref (hp.objs.size + 1) :: us).length = ([("self" : Str), f] : List Str).length := by
    have e := r2.length
    rw [F1.len _ _ _ _ hq] at e
    exact e.symm
  have hus : us.length ≤ sizeLine := by
    rw [← Paired.length r1, sizeLine_eq]
    omega
  have hb2 := hb ⟨(hp.push (PySem.W.kdv_tup us)).push (PySem.HandSPX.excO C hp.objs.size), g, dr, tk, os⟩ (Value.ref (hp.objs.size + 1) :: us) I2.kIn (by rw [List.append_nil]; exact hl)
  rw [List.append_nil] at hb2
  refine wpAny_call (PySem.HandSPX.call_own F.excBase_ValueError (fun Y => PySem.HandSPX.refsVE_contains Y bm hbm) (I1.kIn _ _ hC) (PySem.W.looks_findIn I1.kIn iC) (fun self => PySem.W.bind_fn I1.kIn self tI) hus
    (codeAny_mono (F1.run _ X.stack _ _ ⟨Value.ref (hp.objs.size + 1) :: us, []⟩ (Value.ref (hp.objs.size + 1) :: us) _ _ (fun _ _ _ => False) (hr.make C us []) (I2.env0.make C us []) hb2 r2 hq) fun r s' hq' => ?_))
  cases r with
  | error er => exact hq'.elim
  | ok fl =>
    cases fl with
    | ret u =>
      obtain ⟨v, H2, I3, r3, ev, q2⟩ := I2.after hq'
      subst ev
      exact ⟨r3, .ref (hp.objs.size + 1), H2, I3, rfl, q2⟩
    | next => exact False.elim hq'
    | brk => exact False.elim hq'
    | cont => exact False.elim hq'
theorem peXvf {C : Addr} {e : Expr} {te : TE} {pos : Pos} {n x : Str} {mg : Str → Option Value} (T : ExS K mg x C) (hno : PySem.W.findIn K (.ref C) n = some none) (he : PE X e te) (hK : X.K = K := by rfl) (hb : attributeBase e n X.env (eval e X.env) = eval e X.env := by rfl) :
    PE X (.Attribute e n pos) (tXvf C n te) := by
  subst hK
  refine ⟨fun pins s σ H Q I h => ?_⟩
  refine attr_of hb (thn (he.run pins s σ H _ I h) fun u s1 hh => ?_)
  obtain ⟨x, H1, I1, rx, a, d, fs, v, ex, ea, ed, l, q⟩ := hh
  subst ex
  obtain rfl : u = Value.ref a := rx
  obtain ⟨t1, ho⟩ := exo_at I1.hok ea
  obtain ⟨mA, hns, hr⟩ := exd_at I1.hok ed
  obtain ⟨od, ho2, hl⟩ := lookIn_ns hns
  obtain ⟨u, hu, ru⟩ := RelO.some_of (v := v) (o := mA n) (by rw [← l]; exact hr n)
  have J : PySem.W.InstAt s1.heap a { cls := .ref C, dict := some d, data := .fields #[.ref t1, .none, .none, .none, .bool false, .none] } C (some od) := ⟨ho, rfl, rfl, ho2⟩
  exact PySem.HandSPX.exc_get I1.kIn J T.xf.ga T.xf.gg T.xf.exC (PySem.W.findObj_own T.xf.hdC hno rfl (by rw [hl, hu])) (handed_of ru) ⟨v, H1, I1.tok _, ru, q⟩
theorem kIsV (hK : X.K = K := by rfl) : CallR X (.builtin "isinstance") (rIsV K) := by
  subst hK
  intro pins s σ H xs us Q I r h
  obtain ⟨a, C, c, cv, b, T, hx, rfl, hcv, e, q⟩ := h
  cases r with
  | cons rx rr =>
    cases rr with
    | cons rt rr =>
      cases rr
      cases rx
      have ec := hcv _ rt
      subst ec
      have J : ∃ oe od, PySem.W.InstAt s.heap a oe C od := by
        rcases hx with ha | ⟨d, fs, ha, hd⟩
        · obtain ⟨⟨oe, vs, g1, g2, g3, _⟩, _⟩ := I.hok a _ ha
          refine ⟨oe, none, g1, g2.1, by unfold PySem.W.notCls; rw [g3] <;> rfl, ?_⟩
          rw [g2.2]
          trivial
        · obtain ⟨t1, ho⟩ := exo_at I.hok ha
          obtain ⟨mA, hns, hr⟩ := exd_at I.hok hd
          obtain ⟨od, ho2, hl⟩ := lookIn_ns hns
          exact ⟨_, some od, ho, rfl, rfl, ho2⟩
      obtain ⟨oe, od, J⟩ := J
      exact PySem.W.kia_one (PySem.W.kitx_exc (any_isSome T.hd) T.hg T.hk T.hs T.ha T.hn T.ht T.hm) I.kIn J e (fun z => nomatch z) fun tk => ⟨.bl b, H, I.kept (t' := tk) fun _ _ z => z, rfl, q⟩
end
end Wk
namespace Wk
open PySem PySem.Spec PyProof.Rows L2
section
variable {K : PySem.W.Frag} {Hk Hk' H H' : Hp} {O O' Oa : Own} {ds : List SD} {σ : L2.St} {Q : SD → Own → Prop} {Q' : VK} {x y : SD} {A : AE} {D : Ends} {t u : TS} {te : TE} {ta : TA} {W : WX}
  {Qs : Addr → Option (Str × PyData) → Own → List SD → Prop}
/-! ### while -/
structure BdyW (I : Nat → Own → List SD → Prop) (m : Nat) (A B : AE) : Prop where
  nx : ∀ m' O ds, m' < m → I m' O ds → B.nx O ds
  ct : ∀ m' O ds, m' < m → I m' O ds → B.ct O ds
  rt : ∀ r O, A.rt r O → B.rt r O
  bk : ∀ O ds, A.nx O ds → B.bk O ds
  xt : ∀ Hk, B.xt Hk → A.xt Hk
theorem s_while {tc : TT} {tb : TS} (I : Nat → Own → List SD → Prop) (h0 : ∃ m, I m O ds)
    (hs : ∀ m O1 ds1, I m O1 ds1 → TvW K tc O1 ds1 fun b O2 => (b = true → ∀ B : AE, BdyW I m A B → StW K tb O2 ds1 B) ∧ (b = false → A.nx O2 ds1)) : StW K (tWhile tc tb) O ds A := fun Hk σ H D p l => by
  obtain ⟨m0, h0⟩ := h0
  refine ⟨fun m σ H => ∃ O2 ds2 Hk2, Same Hk Hk2 ∧ Pt K Hk2 O2 ds2 σ H ∧ I m O2 ds2, ⟨m0, O, ds, Hk, Same.refl _, p, h0⟩, ?_⟩
  rintro m σ' H' ⟨O2, ds2, Hk2, e, p2, q⟩
  refine hs m O2 ds2 q Hk2 σ' H' p2 _ fun b O3 Hk3 H3 e3 h3 q3 => ?_
  have e4 := e.trans e3
  cases b with
  | false => exact iteF (l.nx O3 ds2 Hk3 σ' H3 e4 (p2.ext e3 h3) (q3.2 rfl))
  | true =>
    refine iteT ⟨fun σ2 H2 => ∃ m', m' < m ∧ ∃ O4 ds4 Hk4, Same Hk Hk4 ∧ Pt K Hk4 O4 ds4 σ2 H2 ∧ I m' O4 ds4, fun σ2 H2 ⟨m', hm, hh⟩ => ⟨m', hm, hh⟩, ?_⟩
    exact q3.1 rfl ⟨fun O ds => ∃ m', m' < m ∧ I m' O ds, A.rt, A.nx, fun O ds => ∃ m', m' < m ∧ I m' O ds, A.xt⟩ ⟨fun m' _ _ h1 h2 => ⟨m', h1, h2⟩, fun m' _ _ h1 h2 => ⟨m', h1, h2⟩, fun _ _ h => h, fun _ _ h => h, fun _ h => h⟩
      Hk3 σ' H3 _ (p2.ext e3 h3) ⟨fun O5 ds5 Hk5 σ5 H5 e5 p5 ⟨m', h1, h2⟩ => ⟨m', h1, O5, ds5, Hk5, e4.trans e5, p5, h2⟩, l.rt.ext e4, l.nx.ext e4, fun O5 ds5 Hk5 σ5 H5 e5 p5 ⟨m', h1, h2⟩ => ⟨m', h1, O5, ds5, Hk5, e4.trans e5, p5, h2⟩, l.xt.ext e4⟩
/-! ### x += e -/
theorem s_aug {i : Nat} {f : Int → Int → Int} (h : ∃ x, ds[i]? = some (iV x) ∧ EvW K te O ds fun r O1 => ∃ y, r = iV y ∧ A.nx O1 (ds.set i (iV (f x y)))) : StW K (tAug i te (ipI f)) O ds A := fun Hk σ H D p l => by
  obtain ⟨x, hx, h⟩ := h
  obtain z | ⟨v, hv, sv⟩ := p.env i _ hx
  · cases z
  · cases (show Da Hk v (.int x) from sv)
    refine ⟨.int x, hv, h Hk σ H p _ fun v2 r O1 Hk1 H1 e1 h1 s1 q1 => ?_⟩
    obtain ⟨y, rfl, q⟩ := q1
    cases (show Da Hk1 v2 (.int y) from s1)
    exact ⟨x, y, rfl, rfl, l.nx _ _ Hk1 _ _ e1 ((p.ext e1 h1).set (r := iV (f x y)) (.int _)) q⟩
/-! ### for a, b in zip(t, u), tuples -/
theorem s_forZT {ta : TA} {j1 j2 : Nat} {tb : TS} (h : AvW K ta O ds fun rs O1 => ∃ es fs : List PyData, rs = [.dat (.tuple es), .dat (.tuple fs)] ∧ ∃ I : Nat → Own → List SD → Prop, I 0 O1 ds ∧
    (∀ (i : Nat) d e O2 ds2, es[i]? = some d → fs[i]? = some e → I i O2 ds2 → ∀ B : AE, Bdy I i A B → StW K tb O2 ((ds2.set j1 (.dat d)).set j2 (.dat e)) B) ∧ ∀ O2 ds2, I (min es.length fs.length) O2 ds2 → A.nx O2 ds2) :
    StW K (tFor (RZ.iZipA K ta) (gTup K 2 (gCons (gName j1) (gCons (gName j2) gNil))) tb) O ds A := fun Hk σ H D p l =>
  h Hk σ H p _ fun vs rs O1 Hk1 H1 e1 h1 s1 q1 => by
    obtain ⟨es, fs, rfl, I, h0, hs, hd⟩ := q1
    obtain ⟨v, u, rfl, hv, hu⟩ := all2 s1
    cases (show Da Hk1 v (.tuple es) from hv) with
    | @tup a xs _ g1 g2 =>
      cases (show Da Hk1 u (.tuple fs) from hu) with
      | @tup b ys _ k1 k2 =>
      refine ⟨a, b, xs, ys, rfl, .inr ⟨.inl (.inl (h1.kn _ _ g1)), .inl (.inl (h1.kn _ _ k1)), fun i m σ H => m = min xs.length ys.length - i ∧ i ≤ min xs.length ys.length ∧ ∃ O2 ds2 Hk2, Same Hk1 Hk2 ∧ Pt K Hk2 O2 ds2 σ H ∧ I i O2 ds2, ⟨min xs.length ys.length, by simp, Nat.zero_le _, O1, ds, Hk1, Same.refl _, p.ext e1 h1, h0⟩, ?_⟩⟩
      rintro i m σ' H' ⟨rfl, hi, O2, ds2, Hk2, e, p2, q⟩
      have sq : SqT K H' a xs := .inl (.inl (p2.hold.kn _ _ (e _ _ g1)))
      have sk : SqT K H' b ys := .inl (.inl (p2.hold.kn _ _ (e _ _ k1)))
      by_cases hlt : i < min xs.length ys.length
      · have hlx : i < xs.length := by omega
        have hly : i < ys.length := by omega
        have hx : xs[i]? = some xs[i] := List.getElem?_eq_getElem hlx
        have hy : ys[i]? = some ys[i] := List.getElem?_eq_getElem hly
        refine .inr ⟨⟨xs, ys, xs[i], ys[i], sq, sk, hx, hy⟩, fun σ2 H2 => ∃ O3 ds3 Hk3, Same Hk1 Hk3 ∧ Pt K Hk3 O3 ds3 σ2 H2 ∧ I (i + 1) O3 ds3, fun σ2 H2 hN => ⟨min xs.length ys.length - (i + 1), by omega, rfl, hlt, hN⟩, fun x H2 y => ?_⟩
        obtain ⟨T, x', y', rfl, nT, rfl, fx, fy⟩ := y
        have ex : x' = xs[i] := by
          have := fx xs sq
          rw [hx] at this
          exact (Option.some.inj this).symm
        have ey : y' = ys[i] := by
          have := fy ys sk
          rw [hy] at this
          exact (Option.some.inj this).symm
        obtain ⟨d, hd1, hd2⟩ := g2.getV hx
        obtain ⟨d', hd3, hd4⟩ := k2.getV hy
        have smT : Same Hk2 (upd Hk2 T (.tup [x', y'])) := same_new (p2.hold.kn.free nT)
        have p3 : Pt K (upd Hk2 T (.tup [x', y'])) O2 ds2 σ' (upd H' T (.tup [x', y'])) := p2.ext smT (p2.hold.know nT)
        refine ⟨T, [x', y'], rfl, .inl (.inl upd_same), rfl, x', [y'], rfl, y', [], rfl, rfl, ?_⟩
        have hdx : SDok K (upd Hk2 T (.tup [x', y'])) x' (.dat d) := by
          have := Da.mono (e.trans smT) hd2
          rw [← ex] at this
          exact this
        have hdy : SDok K (upd Hk2 T (.tup [x', y'])) y' (.dat d') := by
          have := Da.mono (e.trans smT) hd4
          rw [← ey] at this
          exact this
        have e4 := e.trans smT
        exact hs i d d' O2 ds2 hd1 hd3 q _ .mk' _ _ _ _ ((p3.set (j := j1) hdx).set (j := j2) hdy) ⟨fun O3 ds3 Hk3 σ3 H3 e3 p3 q3 => ⟨O3, ds3, Hk3, e4.trans e3, p3, q3⟩, l.rt.ext (e1.trans e4), l.nx.ext (e1.trans e4), fun O3 ds3 Hk3 σ3 H3 e3 p3 q3 => ⟨O3, ds3, Hk3, e4.trans e3, p3, q3⟩, l.xt.ext (e1.trans e4)⟩
      · have ei : i = min xs.length ys.length := by omega
        refine .inl ⟨⟨xs, ys, sq, sk, by omega⟩, ?_⟩
        rw [ei, g2.length, k2.length] at q
        exact l.nx O2 ds2 Hk2 σ' H' (e1.trans e) p2 (hd O2 ds2 q)
theorem pi_zipT {X : Cx} (K : PySem.W.Frag) {e e2 : Expr} {ta : TA} {p pos tpos : Pos} {elts : List Expr} {kk : Nat} (hg : Gl X "zip") (hm : X.mg "zip" = none) (ha : PA X [e, e2] ta) (hK : X.K = K := by rfl)
    (hs : starEach [e, e2] X.env = (false, eval e X.env) :: starEach [e2] X.env := by rfl) (hpl : (backTo pos (starEach [e2] X.env)).any (·.1) = false := by rfl) :
    PI X (.Tuple elts kk tpos) (.Call (.Name "zip" p) [e, e2] [] pos) (RZ.iZipA K ta) := hK ▸ RZ.pi_zipA hg hm ha hs hpl
/-! ### xs.extend(ys) -/
theorem m_ext {a : Addr} {rs : List SD} {es : List PyData} (l : Lst ((a, OD.lst rs) :: Oa) x es) (hx : x ≠ .ad a) (hz : rs.length + es.length ≤ 1000000) (q : Q (.dat .none) ((a, .lst (rs ++ es.map .dat)) :: Oa)) : MbW K rExtend (.ad a) [x] ((a, OD.lst rs) :: Oa) Q := fun Hk H h u us hu hus Q' k => by
  obtain ⟨v, rfl, hv⟩ := all1 hus
  obtain ⟨b, zs, rfl, hb, hd⟩ := l.get h hv
  have e : u = .ref a := hu
  subst e
  obtain ⟨⟨vs, ha, hvs⟩, _⟩ := h.ow (a, .lst rs) List.mem_cons_self
  refine ⟨a, b, vs, zs, rfl, rfl, ha, hb, ?_, ?_⟩
  · rw [hvs.length, hd.length]
    exact Nat.le_trans hz (by decide)
  · exact k _ (.dat .none) _ Hk _ (Same.refl _) (h.write (hvs.append (SDall.of_dats hd))) .non q
/-! ### texts with values -/
def tJf (ts : List TE) : TE := fun σ H Q => tJs ts Str.empty σ H fun out H1 => Q (.str out) H1
def JsW (K : PySem.W.Frag) (ts : List TE) (n : Nat) (O : Own) (ds : List SD) (Q : Own → Prop) : Prop :=
  ∀ Hk σ H, Pt K Hk O ds σ H → ∀ acc : Str, acc.length ≤ n → ∀ Q' : Str → Hp → Prop, (∀ out O2 Hk2 H2, Same Hk Hk2 → Hold K Hk2 O2 H2 → Q O2 → Q' out H2) → tJs ts acc σ H Q'
theorem j_nil {n : Nat} {Q : Own → Prop} (q : Q O) : JsW K [] n O ds Q := fun Hk σ H p acc _ Q' k => k acc O Hk H (Same.refl _) p.hold q
theorem j_str {n : Nat} {m : Str} {ts : List TE} {Q : Own → Prop} (h : JsW K ts (n + 1000) O ds Q) (hm : m.length ≤ 1000 := by decide) (hn : n ≤ 100000 := by decide) : JsW K (tC (.str m) :: ts) n O ds Q := fun Hk σ H p acc ha Q' k => by
  have e0 : (acc ++ m).length ≤ n + 1000 := by
    rw [Str.length_append]
    omega
  exact ⟨m, rfl, Nat.le_trans e0 (Nat.le_trans (Nat.add_le_add_right hn _) (by decide)), h Hk σ H p _ e0 Q' k⟩
theorem j_fmt {n : Nat} {ts : List TE} {Q : Own → Prop} (h : EvW K te O ds fun r O1 => ∃ i : Int, r = iV i ∧ i.natAbs.log2 < 1920 ∧ JsW K ts (n + 3000) O1 ds Q) (hn : n ≤ 100000 := by decide) : JsW K (tFmt te :: ts) n O ds Q := fun Hk σ H p acc ha Q' k => by
  refine h Hk σ H p _ fun v r O1 Hk1 H1 e1 h1 s1 q1 => ?_
  obtain ⟨i, rfl, hi, q⟩ := q1
  cases (show Da Hk1 v (.int i) from s1)
  have e := int_text_length_le (k := 1920) (by decide) hi
  have e0 : (acc ++ toString i).length ≤ n + 3000 := by
    rw [Str.length_append]
    show acc.length + (PySem.Str.ofString (toString i)).length ≤ _
    rw [PySem.ofString_length]
    omega
  exact .inr ⟨i, rfl, hi, _, rfl, Nat.le_trans e0 (Nat.le_trans (Nat.add_le_add_right hn _) (by decide)), q Hk1 σ H1 (p.ext e1 h1) _ e0 Q' fun out O2 Hk2 H2 e2 => k out O2 Hk2 H2 (e1.trans e2)⟩
theorem w_js {ts : List TE} (h : JsW K ts 0 O ds fun O1 => ∀ s, Q (.dat (.str s)) O1) : EvW K (tJf ts) O ds Q := fun Hk σ H p Q' k =>
  h Hk σ H p Str.empty (Nat.le_refl _) _ fun out O2 Hk2 H2 e2 h2 q => k _ (.dat (.str out)) O2 Hk2 H2 e2 h2 (.str out) (q out)
theorem psJf {X : Cx} {v1 v2 : Expr} {rest : List Expr} {ts : List TE} {pos : Pos} (h : PJ X (v1 :: v2 :: rest) ts) : PE X (.JoinedStr (v1 :: v2 :: rest) pos) (tJf ts) := pe_joined h
theorem psExt {X : Cx} (K : PySem.W.Frag) {st : Stmt} {to : TE} {ta : TA} (hs : PS X st (tDrop (tBM X.K "list" rExtend to ta))) (h : X.K = K := by rfl) : PS X st (tDrop (tBM K "list" rExtend to ta)) := h ▸ hs
theorem sx_drop (hW : ∀ Hk, A.xt Hk → KonW K Hk Qs W) (h : EvX K W Qs te O ds fun _ O1 => A.nx O1 ds) : StW K (tDrop te) O ds A := fun Hk σ H D p l =>
  h Hk σ H p (hW Hk (l.xt Hk (Same.refl _))) _ fun v r O1 Hk1 H1 e1 h1 s1 q1 => l.nx _ _ Hk1 _ _ e1 (p.ext e1 h1) q1
/-! ### is None -/
theorem o_notN {d : PyData} {b : Bool} (hb : b = match d with | .none => false | _ => true) (q : Q (bV b) O) : OpW K (fun x y H Q => y = .non ∧ Q (.bl (!decide (x = .non))) H) (.dat d) (.dat .none) O Q := fun Hk H h u v hu hv Q' k => by
  cases (show Da Hk v .none from hv)
  refine ⟨rfl, ?_⟩
  have e : (!decide (u = V.non)) = b := by
    rw [hb]
    cases (show Da Hk u d from hu) <;> simp
  rw [e]
  exact k.now h (r := bV b) (.bl b) q
theorem o_isN {d : PyData} {b : Bool} (hb : b = match d with | .none => true | _ => false) (q : Q (bV b) O) : OpW K (fun x y H Q => y = .non ∧ Q (.bl (decide (x = .non))) H) (.dat d) (.dat .none) O Q := fun Hk H h u v hu hv Q' k => by
  cases (show Da Hk v .none from hv)
  refine ⟨rfl, ?_⟩
  have e : (decide (u = V.non)) = b := by
    rw [hb]
    cases (show Da Hk u d from hu) <;> simp
  rw [e]
  exact k.now h (r := bV b) (.bl b) q
/-! ### try .. except X: -/
def tTryO (K : PySem.W.Frag) (c : Value) (tb : WX → TS) (ts : Addr → Value → Option Addr → TS) (Wout : WX) : TS := fun D σ H => tb (wOnly K c ts Wout D) D σ H
theorem s_tryO {c : Value} {tb : WX → TS} {ts : Addr → Value → Option Addr → TS} {Wout : WX} (Qs : Addr → Option (Str × PyData) → Own → List SD → Prop)
    (hb : ∀ W : WX, StW K (tb W) O ds { A with xt := fun Hk => KonW K Hk Qs W })
    (hs : ∀ C fs O2 ds2, Qs C fs O2 ds2 → PySem.W.exmOne K (.ref C) c = some true ∧ ∀ (a : Addr) (cls : Value) (d : Option Addr), StW K (ts a cls d) O2 ds2 A) : StW K (tTryO K c tb ts Wout) O ds A := fun Hk σ H D p l => by
  refine hb (wOnly K c ts Wout D) Hk σ H D p ⟨l.nx, l.rt, l.bk, l.ct, fun Hk' e' cls d C fs σ2 O2 ds2 Hk2 H2 e2 p2 ok q => ?_⟩
  obtain ⟨ec, hsu⟩ := hs C fs O2 ds2 q
  have ec2 := ok.1
  subst ec2
  exact ⟨true, ec, fun _ a ha => hsu a (.ref C) d Hk2 σ2 H2 D p2 (l.ext (e'.trans e2)), fun z => Bool.noConfusion z⟩
theorem psTryO {X : Cx} {x : Str} {C : Addr} {body suite : List Stmt} {b₀ : Stmt} {np pos pos' : Pos} {tb : WX → TS} {ts : Addr → Value → Option Addr → TS} {Wout : WX}
    (hb : ∀ (W : WX) (pn : List (Addr × Obj)) (xe : Value → Shared → Prop), Takes (X.tr pn xe) W → PSs (X.tr pn xe) body (tb W))
    (hsu : ∀ (a : Addr) (oe : Obj) (cls : Value) (d : Option Addr) (pn : List (Addr × Obj)), Zc cls d oe → (∃ vs, oe.data = .fields vs) → PSs (X.suite a ((a, oe) :: pn)) (b₀ :: suite) (ts a cls d))
    (hs : X.stack = X.env :: X.outer) (hf : X.env.frame = some X.env.locals) (hc : Names X x (.ref C)) (tk : Takes X Wout) (hK : X.K = K := by rfl) :
    PS X (.Try body [.ExceptHandler (some (.Name x np)) none (b₀ :: suite) pos'] [] [] pos) (tTryO K (.ref C) tb ts Wout) := by
  subst hK
  exact ps_try_only hs hf hc tk (fun W pn xe t _ => hb W pn xe t) hsu
theorem log_ok {n : Int} (h1 : -(2 ^ 62) ≤ n) (h2 : n ≤ 2 ^ 62) : n.natAbs.log2 < 1920 := by
  by_cases h : n.natAbs = 0
  · rw [h]; decide
  · have : n.natAbs.log2 < 63 := (Nat.log2_lt h).mpr (by omega)
    omega
end
end Wk
namespace Wk
open PySem PySem.Spec PyProof.Rows L2
/-! ### t[::-1], a tuple -/
section
variable {prog : Program} {w : World} {A : Around} {E : Value → Shared → Prop} {s : Shared}
theorem rev_adjust (n : Nat) : Builtin.Slice.sliceAdjust none none (-1) (n : Int) = ((n : Int) - 1, -1) := by
  unfold Builtin.Slice.sliceAdjust
  rfl
theorem rev_places (n : Nat) : Builtin.Slice.slicePlaces ((n : Int) - 1) (-1) (-1) = n := by
  unfold Builtin.Slice.slicePlaces
  have h1 : ¬ ((-1 : Int) > 0) := by omega
  simp only [h1, if_false]
  by_cases h : (n : Int) - 1 > -1
  · simp only [h, if_true]
    rw [show (- -1 : Int) = 1 by decide, Int.ediv_one]
    omega
  · simp only [h, if_false]
    omega
theorem fm_range {α : Type} {f : Nat → Option α} {g : Nat → α} : ∀ (n : Nat), (∀ m, m < n → f m = some (g m)) → (List.range n).filterMap f = (List.range n).map g
  | 0, _ => rfl
  | n + 1, h => by
    rw [List.range_succ, List.filterMap_append, List.map_append, fm_range n fun m hm => h m (by omega)]
    congr 1
    simp [h n (by omega)]
theorem rev_pick1 (ys : List Value) : (List.range ys.length).filterMap (fun (m : Nat) => ys[(((ys.length : Int) - 1) + (m : Int) * (-1)).toNat]?) = ys.reverse := by
  rw [fm_range (g := fun m => ys.reverse.getD m .none) ys.length fun m hm => ?_]
  · apply List.ext_getElem?
    intro i
    by_cases hi : i < ys.length
    · rw [List.getElem?_map, List.getElem?_range hi, List.getElem?_eq_getElem (by rw [List.length_reverse]; exact hi)]
      show some (ys.reverse.getD i .none) = _
      rw [List.getD_eq_getElem?_getD, List.getElem?_eq_getElem (by rw [List.length_reverse]; exact hi)]
      rfl
    · rw [List.getElem?_eq_none (by simp; omega), List.getElem?_eq_none (by rw [List.length_reverse]; omega)]
  · have e1 : (((ys.length : Int) - 1) + (m : Int) * (-1)).toNat = ys.length - 1 - m := by omega
    have hm2 : m < ys.reverse.length := by rw [List.length_reverse]; exact hm
    rw [e1, List.getElem?_eq_getElem (by omega), List.getD_eq_getElem?_getD, List.getElem?_eq_getElem hm2, List.getElem_reverse]
    rfl
theorem rev_pick (xs : Array Value) : ((List.range xs.size).filterMap fun (m : Nat) => xs[(((xs.size : Int) - 1) + (m : Int) * (-1)).toNat]?).toArray = xs.toList.reverse.toArray := by
  have h2 := rev_pick1 xs.toList
  rw [Array.length_toList] at h2
  rw [← h2]
  congr 1
  congr 1
  funext m
  rw [Array.getElem?_toList]
theorem sliceApplied_rev {sl : Addr} {vs : Value} {n : Nat} {Q : Int × Int × Nat → Shared → Prop} (hs : s.heap.IsSliceOf sl .none .none vs) (ps : IsPart vs (some (-1)))
    (h : Q ((n : Int) - 1, -1, n) s) : wpAny (model prog w) A (Builtin.Slice.sliceApplied (.ref sl) (pure (n : Int))) Q E s := by
  obtain ⟨os, hos, hcs, hds⟩ := id hs
  unfold Builtin.Slice.sliceApplied Builtin.Slice.sliceFields
  refine wpAny_bind (wpAny_bind (wpAny_field hos hds (x := .none) rfl (wpAny_bind (wpAny_field hos hds (x := .none) rfl (wpAny_bind (wpAny_field hos hds (x := vs) rfl (wpAny_pure ?_)))))))
  refine wpAny_bind (HT.slicePart_ ps ?_)
  show wpAny _ _ (if ((-1 : Int) == 0) = true then _ else _) _ _ s
  rw [if_neg (by decide)]
  refine wpAny_bind (HT.slicePart_ .none (wpAny_bind (HT.slicePart_ .none (wpAny_bind (wpAny_pure ?_)))))
  show wpAny _ _ (match Builtin.Slice.sliceAdjust none none (-1) (n : Int) with | (lo, hi) => pure (lo, (-1 : Int), Builtin.Slice.slicePlaces lo hi (-1))) _ _ s
  rw [rev_adjust n]
  show wpAny _ _ (pure ((n : Int) - 1, (-1 : Int), Builtin.Slice.slicePlaces ((n : Int) - 1) (-1) (-1))) _ _ s
  rw [rev_places]
  exact wpAny_pure h
theorem getItem_tuple_rev {t sl : Addr} {items : Array Value} {vs : Value} {Q : Value → Shared → Prop} (ht : IsTup s.heap t items) (hs : s.heap.IsSliceOf sl .none .none vs) (ps : IsPart vs (some (-1)))
    (h : Q (.ref s.heap.objs.size) { s with heap := s.heap.push { cls := .type "tuple", data := .seq items.toList.reverse.toArray } })
    (hsz : items.size ≤ sizeLine) : wpAny (model prog w) A (getItem (.ref t) (.ref sl)) Q E s := by
  have htake : sizeOk (.seq items.toList.reverse.toArray) := by
    show items.toList.reverse.toArray.size ≤ sizeLine
    rw [List.size_toArray, List.length_reverse, Array.length_toList]
    exact hsz
  obtain ⟨os, hos, hcs, hds⟩ := id hs
  have hTs : s.TypeIs (.ref sl) "slice" := ⟨os, hos, hcs⟩
  unfold getItem
  try with_reducible refine wpAny_holding ?_
  first | refine wpAny_bind (wpAny_pure ?_) | skip
  refine wpAny_bind (wpAny_sequenceKey ht.typeIs (by decide) ?_)
  refine wpAny_bind (wpAny_callSpecial?_slot (name := Str.ofString "__getitem__") ht.typeIs PyProof.Rows.slot_tuple_getitem
    (wpAny_call_entry PyProof.Rows.slot_tuple_getitem ht.typeIs entry_tuple_getitem ?_ (args_tuple_getitem _ _)))
  show wpAny _ _ (Builtin.Tuple.tupleItemsOf (.ref t) >>= _) _ _ s
  refine wpAny_bind (tupleItemsOf_ ht ?_)
  refine wpAny_bind (wpAny_typeOf hTs ?_)
  rw [if_pos (by decide)]
  refine wpAny_bind (sliceApplied_rev hs ps ?_)
  have hno : ¬ ((((items.size : Int) - 1) == 0 && (-1 : Int) == 1 && items.size == items.size) = true) := by
    intro q
    rw [Bool.and_eq_true, Bool.and_eq_true] at q
    have q2 : (-1 : Int) = 1 := eq_of_beq q.1.2
    omega
  show wpAny _ _ (if (((items.size : Int) - 1) == 0 && (-1 : Int) == 1 && items.size == items.size) = true then _ else _) _ _ s
  rw [if_neg hno, rev_pick]
  first
    | exact wpAny_bind (m := Builtin.Tuple.tupleExact _) (wpAny_newObj_type (wpAny_pure ⟨_, rfl, wpAny_pure h⟩) htake)
    | exact wpAny_bind (m := Builtin.Tuple.tupleExact _) (wpAny_newObj_type (wpAny_bind (wpAny_pure (wpAny_pure ⟨_, rfl, wpAny_pure h⟩))) htake)
    | exact wpAny_bind (wpAny_bind (m := Builtin.Tuple.tupleExact _) (wpAny_newObj_type (wpAny_pure (wpAny_pure ⟨_, rfl, wpAny_pure h⟩)) htake))
    | exact wpAny_bind (wpAny_bind (m := Builtin.Tuple.tupleExact _) (wpAny_newObj_type (wpAny_pure ⟨_, rfl, wpAny_pure h⟩) htake))
end
section
variable {X : Cx}
def tRevT (K : PySem.W.Frag) (te : TE) : TE := fun σ H Q => te σ H fun x H1 => ∃ a xs, x = .ref a ∧ SqT K H1 a xs ∧ ∀ p, H1 p = none → Q (.ref p) (upd H1 p (.tup xs.reverse))
theorem pe_revT {e : Expr} {te : TE} {k : Nat} {p1 p2 p3 pos : Pos} (he : PE X e te) : PE X (.Subscript e (.Slice none none (some (.UnaryOp .USub (.Constant (.int 1) k p1) p2)) p3) pos) (tRevT X.K te) := by
  refine ⟨fun pins s σ H Q I h => ?_⟩
  refine Subscript_ (thn (he.run pins s σ H _ I h) fun v s1 ⟨x, H1, I1, r1, q1⟩ => ?_)
  obtain ⟨a, xs, ex, hx, q⟩ := q1
  subst ex
  cases r1
  have hst : PO X (some (.UnaryOp .USub (.Constant (.int 1) k p1) p2)) (tPart (tUn (rU fun i => .int (-i)) (tC (.int 1)))) := po_some (pe_un un_neg pe_int)
  refine wpAny_Slice (thn (po_none.run pins s1 σ H1 (fun o H2 => o = none ∧ H2 = H1) I1 ⟨rfl, rfl⟩) fun vl s2 ⟨l, H2, I2, pl, el, e2⟩ => ?_)
  subst el e2
  refine thn (po_none.run pins s2 σ H2 (fun o H3 => o = none ∧ H3 = H2) I2 ⟨rfl, rfl⟩) fun vu s3 ⟨u, H3, I3, pu, eu, e3⟩ => ?_
  subst eu e3
  refine thn (hst.run pins s3 σ H3 (fun o H4 => o = some (-1) ∧ H4 = H3) I3 ⟨1, rfl, -1, rfl, rfl, rfl⟩) fun vs s4 ⟨o, H4, I4, ps, eo, e4⟩ => ?_
  subst eo e4
  have I5 : Inv X pins σ H4 { s4 with heap := s4.heap.push { cls := .type "slice", data := .fields #[vl, vu, vs] } } := I4.kept (t' := s4.toks) fun b ob q => Heap.get?_push_of_some _ q
  obtain ⟨its, r, ht, hz⟩ := I5.tuple hx
  have hlen := r.length
  cases pl
  cases pu
  show wpAny (model X.prog X.w) X.A (subscriptTail e (.Slice none none (some (.UnaryOp .USub (.Constant (.int 1) k p1) p2)) p3) (.ref a) (.ref s4.heap.objs.size)) (EP X pins σ Q) X.xe { s4 with heap := s4.heap.push { cls := .type "slice", data := .fields #[.none, .none, vs] } }
  refine tail_any (ops := [.ref a, .ref s4.heap.objs.size]) ht.typeIs (PyProof.Rows.slot_tuple_getitem.lookup) ?_ (by with_unfolding_all rfl)
  refine getItem_tuple_rev ht (Heap.IsSliceOf.new _ .none .none vs) ps ?_ (by rw [List.size_toArray]; omega)
  refine ⟨.ref _, _, I5.laid (t' := s4.toks) (o := .tup xs.reverse) (fun b ob q => Heap.get?_push_of_some _ q) (Nat.le_refl _) ?_, rfl, q _ (I5.hok.fresh (Nat.le_refl _))⟩
  exact ⟨by rw [List.length_reverse]; exact hz, _, r.reverse, ⟨_, Heap.get?_push_size _ rfl, rfl, _, rfl⟩⟩
theorem peRevT (K : PySem.W.Frag) {e : Expr} {te : TE} {k : Nat} {p1 p2 p3 pos : Pos} (he : PE X e te) (h : X.K = K := by rfl) : PE X (.Subscript e (.Slice none none (some (.UnaryOp .USub (.Constant (.int 1) k p1) p2)) p3) pos) (tRevT K te) := h ▸ pe_revT he
end
section
variable {K : PySem.W.Frag} {O : Own} {ds : List SD} {Q : SD → Own → Prop} {te : TE}
theorem w_revT (h : EvW K te O ds fun r O1 => ∃ es : List PyData, r = .dat (.tuple es) ∧ Q (.dat (.tuple es.reverse)) O1) : EvW K (tRevT K te) O ds Q := fun Hk σ H p Q' k =>
  h Hk σ H p _ fun v r O1 Hk1 H1 e1 h1 s1 q1 => by
    obtain ⟨es, rfl, q⟩ := q1
    cases (show Da Hk1 v (.tuple es) from s1) with
    | @tup a xs _ g1 g2 =>
      refine ⟨a, xs, rfl, .inl (.inl (h1.kn _ _ g1)), fun pn hf => ?_⟩
      have sm : Same Hk1 (upd Hk1 pn (.tup xs.reverse)) := same_new (h1.kn.free hf)
      exact k _ (.dat (.tuple es.reverse)) O1 _ _ (e1.trans sm) (h1.know hf) (.tup upd_same (DaAll.mono sm g2.reverse)) q
end
end Wk
namespace Wk
open PySem PySem.Spec PyProof.Rows L2
section
variable {K : PySem.W.Frag} {Hk Hk' H H' : Hp} {O O' Oa : Own} {ds : List SD} {σ : L2.St} {Q : SD → Own → Prop} {Q' : VK} {x y : SD} {A : AE} {D : Ends} {t u : TS} {te : TE} {ta : TA}
/-! ### for i, x in enumerate(xs), a list -/
theorem s_forEL {ta : TA} {j1 j2 : Nat} {tb : TS} (h : AvW K ta O ds fun rs O1 => ∃ es : List PyData, rs = [.dat (.list es)] ∧ ∃ I : Nat → Own → List SD → Prop, I 0 O1 ds ∧
    (∀ (i : Nat) d O2 ds2, es[i]? = some d → I i O2 ds2 → ∀ B : AE, Bdy I i A B → StW K tb O2 ((ds2.set j1 (iV (i : Int))).set j2 (.dat d)) B) ∧ ∀ O2 ds2, I es.length O2 ds2 → A.nx O2 ds2) :
    StW K (tFor (iEnum K ta) (gTup K 2 (gCons (gName j1) (gCons (gName j2) gNil))) tb) O ds A := fun Hk σ H D p l =>
  h Hk σ H p _ fun vs rs O1 Hk1 H1 e1 h1 s1 q1 => by
    obtain ⟨es, rfl, I, h0, hs, hd⟩ := q1
    obtain ⟨v, rfl, hv⟩ := all1 s1
    cases (show Da Hk1 v (.list es) from hv) with
    | @lst a xs _ g1 g2 =>
      refine ⟨a, xs, rfl, .inl (.inl (h1.kn _ _ g1)), fun i m σ H => m = xs.length - i ∧ i ≤ xs.length ∧ ∃ O2 ds2 Hk2, Same Hk1 Hk2 ∧ Pt K Hk2 O2 ds2 σ H ∧ I i O2 ds2, ⟨xs.length, by simp, Nat.zero_le _, O1, ds, Hk1, Same.refl _, p.ext e1 h1, h0⟩, ?_⟩
      rintro i m σ' H' ⟨rfl, hi, O2, ds2, Hk2, e, p2, q⟩
      have sq : SqL K H' a xs := .inl (.inl (p2.hold.kn _ _ (e _ _ g1)))
      by_cases hlt : i < xs.length
      · have hx : xs[i]? = some xs[i] := List.getElem?_eq_getElem hlt
        refine .inr ⟨⟨xs, xs[i], sq, hx⟩, fun σ2 H2 => ∃ O3 ds3 Hk3, Same Hk1 Hk3 ∧ Pt K Hk3 O3 ds3 σ2 H2 ∧ I (i + 1) O3 ds3, fun σ2 H2 hN => ⟨xs.length - (i + 1), by omega, rfl, hlt, hN⟩, fun x H2 y => ?_⟩
        obtain ⟨T, x', rfl, nT, rfl, fx⟩ := y
        have ex : x' = xs[i] := by
          have := fx xs sq
          rw [hx] at this
          exact (Option.some.inj this).symm
        obtain ⟨d, hd1, hd2⟩ := g2.getV hx
        have smT : Same Hk2 (upd Hk2 T (.tup [.int (i : Nat), x'])) := same_new (p2.hold.kn.free nT)
        have p3 : Pt K (upd Hk2 T (.tup [.int (i : Nat), x'])) O2 ds2 σ' (upd H' T (.tup [.int (i : Nat), x'])) := p2.ext smT (p2.hold.know nT)
        refine ⟨T, [.int (i : Nat), x'], rfl, .inl (.inl upd_same), rfl, .int (i : Nat), [x'], rfl, x', [], rfl, rfl, ?_⟩
        have hdx : SDok K (upd Hk2 T (.tup [.int (i : Nat), x'])) x' (.dat d) := by
          have := Da.mono (e.trans smT) hd2
          rw [← ex] at this
          exact this
        have e4 := e.trans smT
        exact hs i d O2 ds2 hd1 q _ .mk' _ _ _ _ ((p3.set (j := j1) (r := iV (i : Int)) (.int _)).set (j := j2) hdx) ⟨fun O3 ds3 Hk3 σ3 H3 e3 p3 q3 => ⟨O3, ds3, Hk3, e4.trans e3, p3, q3⟩, l.rt.ext (e1.trans e4), l.nx.ext (e1.trans e4), fun O3 ds3 Hk3 σ3 H3 e3 p3 q3 => ⟨O3, ds3, Hk3, e4.trans e3, p3, q3⟩, l.xt.ext (e1.trans e4)⟩
      · have ei : i = xs.length := by omega
        refine .inl ⟨⟨xs, sq, by omega⟩, ?_⟩
        rw [ei, g2.length] at q
        exact l.nx O2 ds2 Hk2 σ' H' (e1.trans e) p2 (hd O2 ds2 q)
theorem pi_enumL {X : Cx} (K : PySem.W.Frag) {e : Expr} {ta : TA} {p pos tpos : Pos} {elts : List Expr} {kk : Nat} (hg : Gl X "enumerate") (hm : X.mg "enumerate" = none) (ha : PA X [e] ta) (hK : X.K = K := by rfl) (hs : starEach [e] X.env = [(false, eval e X.env)] := by rfl) :
    PI X (.Tuple elts kk tpos) (.Call (.Name "enumerate" p) [e] [] pos) (iEnum K ta) := hK ▸ pi_enum hg hm ha hs
/-! ### list(range(a, b)) -/
def rgI (a b : Int) : List Int := (List.range (b - a).toNat).map fun i => a + (i : Nat)
theorem w_lstRg2 {ta tb : TE} (h : EvW K ta O ds fun r1 O1 => EvW K tb O1 ds fun r2 O2 => ∃ a b : Int, r1 = iV a ∧ r2 = iV b ∧ RgOk a b ∧ Q (.dat (lI (rgI a b))) O2) : EvW K (tLstRg (tRg2 ta tb)) O ds Q := fun Hk σ H p Q' k =>
  h Hk σ H p _ fun v r1 O1 Hk1 H1 e1 h1 s1 q1 => q1 Hk1 σ H1 (p.ext e1 h1) _ fun u r2 O2 Hk2 H2 e2 h2 s2 q2 => by
    obtain ⟨a, b, rfl, rfl, hr, q⟩ := q2
    cases (show Da Hk1 v (.int a) from s1)
    cases (show Da Hk2 u (.int b) from s2)
    refine ⟨a, b, rfl, rfl, hr, fun pn hf => ?_⟩
    have sm : Same Hk2 (upd Hk2 pn (.lst (rgV a b))) := same_new (h2.kn.free hf)
    have hd : ∀ H : Hp, DaAll H (rgV a b) ((rgI a b).map PyData.int) := fun H => by
      have := DaAll.of_ints (H := H) (rgI a b)
      unfold rgI at this ⊢
      rw [List.map_map] at this
      exact this
    exact k _ (.dat (lI (rgI a b))) O2 _ _ ((e1.trans e2).trans sm) (h2.know hf) (.lst upd_same (hd _)) q
end
end Wk
namespace Wk
open PySem PySem.Spec PyProof.Rows L2
section
variable {K : PySem.W.Frag} {Hk Hk' H H' : Hp} {O O' : Own} {ds : List SD} {σ : L2.St} {Q : SD → Own → Prop} {Q' : VK} {r : R2} {x y : SD} {A : AE} {D : Ends} {t u : TS} {te : TE} {tc : TT}
/-! ### a comprehension over range(a, b) -/
theorem w_lc2 {ta : TA} {j : Nat} {tt : TT} (h : AvW K ta O ds fun rs O1 => ∃ lo n : Int, rs = [iV lo, iV n] ∧ (-(2 ^ 62) ≤ lo ∧ lo < 2 ^ 62 ∧ -(2 ^ 62) ≤ n ∧ n < 2 ^ 62) ∧ n - lo ≤ 1000000 ∧ ∃ I : Nat → List SD → Own → Prop, I 0 [] O1 ∧
    (∀ (i : Nat) acc O2, lo + (i : Int) < n → acc.length ≤ i → I i acc O2 → LcTurn K tt te O2 (ds.set j (iV (lo + (i : Int)))) acc (I (i + 1))) ∧ ∀ acc O2 Dl, I (n - lo).toNat acc O2 → Q (.ad Dl) ((Dl, .lst acc) :: O2)) : EvW K (tLc (iRng2 ta) (gName j) tt te [j]) O ds Q := fun Hk σ H p Q' k =>
  h Hk σ H p _ fun vs rs O1 Hk1 H1 e1 h1 s1 q1 => by
    obtain ⟨lo, n, rfl, hn, hz0, I, h0, hs, hd⟩ := q1
    obtain ⟨v, v2, rfl, hv, hv2⟩ := all2 s1
    cases (show Da Hk1 v (.int lo) from hv)
    cases (show Da Hk1 v2 (.int n) from hv2)
    refine ⟨lo, n, rfl, hn, fun Dl hf => lc_range (lo := lo) (n := (n - lo).toNat) (fun i H => ∃ acc O2 Hk2, Same Hk1 Hk2 ∧ acc.length ≤ i ∧ Hold K Hk2 ((Dl, OD.lst acc) :: O2) H ∧ I i acc O2)
      ⟨[], O1, Hk1, Same.refl _, Nat.le_refl _, h1.own hf .nil, h0⟩ (fun i H2 hi hP => ?_) (fun H2 hP => ?_)⟩
    · obtain ⟨acc, O2, Hk2, e2, hl, hh, q⟩ := hP
      have hz : acc.length < sizeLine := Nat.lt_of_lt_of_le (show acc.length < 1000001 by omega) (by decide)
      have ht := hs i acc O2 (by omega) hl q
      refine lc_turn (d := iV (lo + (i : Int))) (P' := fun H => ∃ acc2 O3 Hk2, Same Hk1 Hk2 ∧ acc2.length ≤ i + 1 ∧ Hold K Hk2 ((Dl, OD.lst acc2) :: O3) H ∧ I (i + 1) acc2 O3) (I' := fun acc2 O3 => acc2.length ≤ i + 1 ∧ I (i + 1) acc2 O3) ?_ hz ((p.ext e1 h1).ext e2 (hh.sub (List.sublist_cons_self ..))) hh (.int _) fun acc2 O3 Hk3 H3 e3 h3 q3 => ⟨acc2, O3, Hk3, e2.trans e3, q3.1, h3, q3.2⟩
      intro Dl2 Hk3 σ3 H3 p3 Q3 k3
      refine ht Dl2 Hk3 σ3 H3 p3 Q3 fun b O3 Hk4 H4 e4 h4 q4 => k3 b O3 Hk4 H4 e4 h4 ⟨fun hb => w_mono (q4.1 hb) fun r O4 ⟨O5, hp, q5⟩ => ⟨O5, hp, by rw [List.length_append]; simp; omega, q5⟩, fun hb => ?_⟩
      obtain ⟨O5, hp, q5⟩ := q4.2 hb
      exact ⟨O5, hp, by omega, q5⟩
    · obtain ⟨acc, O2, Hk2, e2, hl, hh, q⟩ := hP
      exact k _ (.ad Dl) _ Hk2 H2 (e1.trans e2) hh rfl (hd acc O2 Dl q)
end
/-! ### a tuple, no times -/
theorem tuple_mul0 (l : Addr) (items : Array Value) (n : Nat) (dd : Option Addr) (sl : Array (Option Value)) (x : Int) (u : Tok) (c0 : (decide (x < -(2 ^ 63)) || decide (x ≥ 2 ^ 63)) = false) (c1 : (items.isEmpty || x == 1) = false) (c2 : (decide (x ≤ 0) || items.isEmpty) = true) :
    Meets (Builtin.«tuple.__mul__» ⟨[.ref l, .int x u], []⟩) (fun _ R s => s.heap.get? l = some { cls := .type "tuple", dict := dd, data := .seq items n, slots := sl } ∧
      R (.ok (.ret (Value.ref s.heap.objs.size))) { s with heap := s.heap.push { cls := Value.type "tuple", data := Data.seq #[] }, toks := s.toks }) :=
  .of_wp fun prog w A R s h => by
    obtain ⟨hp, g, d, tk, os⟩ := s
    obtain ⟨hl, h⟩ := h
    have f1 := AutoSeq1.idx_int
    wp_walk using wpAny_loadPart' hl
    repeat (first
      | (refine wpAny_ite_false (decide_eq_false (by rw [c0]; exact Bool.false_ne_true)) ?_; wp_walk using wpAny_loadPart' hl)
      | (refine wpAny_ite_false (decide_eq_false (by rw [c1]; exact Bool.false_ne_true)) ?_; wp_walk using wpAny_loadPart' hl)
      | (refine wpAny_ite_true (decide_eq_true (by rw [c2])) ?_; wp_walk using wpAny_loadPart' hl))
    exact ⟨_, rfl, h⟩
def rRep2 (K : PySem.W.Frag) : R2 := fun x y H Q => rRep1 K x y H Q ∨ ∃ l k xs, x = .ref l ∧ y = .int k ∧ SqT K H l xs ∧ xs ≠ [] ∧ k ≤ 0 ∧ -(2 ^ 62) ≤ k ∧ ∀ p, H p = none → Q (.ref p) (upd H p (.tup []))
theorem op_rep2 {X : Cx} : OpR X (binaryOp .Mult) (rRep2 X.K) := by
  intro pins s σ H x y v u Q I rx ry h
  rcases h with h | h
  · exact op_rep1 pins s σ H x y v u Q I rx ry h
  obtain ⟨l, k, xs, rfl, rfl, hT, hne, h1, h2, q⟩ := h
  cases rx
  obtain ⟨t, rfl⟩ := ry
  obtain ⟨its, r, ⟨⟨cls, dd, data, sl⟩, ho, hc, n, hd⟩, hs⟩ := I.tuple hT
  simp only at hc hd
  subst hc hd
  have hle : its.length = xs.length := r.length.symm
  have hn : its ≠ [] := fun e => hne (by
    rw [e] at hle
    exact List.eq_nil_of_length_eq_zero hle.symm)
  have hi : its.toArray.isEmpty = false := by
    cases its with
    | nil => exact absurd rfl hn
    | cons a b => rfl
  have c0 : (decide (k < -(2 ^ 63)) || decide (k ≥ 2 ^ 63)) = false := by
    rw [decide_eq_false (by omega), decide_eq_false (by omega)] <;> rfl
  have c1 : (its.toArray.isEmpty || k == 1) = false := by
    rw [hi, Bool.false_or]
    exact beq_eq_false_iff_ne.mpr (by omega)
  have c2 : (decide (k ≤ 0) || its.toArray.isEmpty) = true := by
    rw [decide_eq_true h1]
    rfl
  refine wpAny_binaryOp_repeat_ref (T := "tuple") (U := "int") (by decide) ⟨_, ho, rfl⟩ (fun s' => typeIs_int s' k t) noFill_tuple_mul F.fills_int_mul F.slot_int_rmul repeat_tuple F.slot_int_index.lookup
    (call_meets F.slot_int_rmul (typeIs_int s k t) F.entry_int_rmul (F.args_int_rmul_2 _ _) (int_rmul_tuple k t l its.toArray n dd sl)
      ⟨ho, rfl, ⟨_, ho, rfl⟩, call_meets F.slot_tuple_mul ⟨_, ho, rfl⟩ F.entry_tuple_mul (F.args_tuple_mul_2 _ _) (tuple_mul0 l its.toArray n dd sl k t c0 c1 c2) ⟨ho, ?_⟩⟩)
  refine ⟨.ref s.heap.objs.size, _, I.laid (t' := s.toks) (o := .tup []) (fun b ob q => Heap.get?_push_of_some _ q) (Nat.le_refl _) ?_, rfl, q _ (I.hok.fresh (Nat.le_refl _))⟩
  exact ⟨Nat.zero_le _, _, .nil, IsTup.new _ _⟩
section
variable {X : Cx} (K : PySem.W.Frag)
theorem kRep2 (h : X.K = K := by rfl) : OpR X (binaryOp .Mult) (rRep2 K) := h ▸ op_rep2
end
section
variable {K : PySem.W.Frag} {O : Own} {Q : SD → Own → Prop}
theorem g_rep2 {d : PyData} {k : Int} (h0 : -(2 ^ 62) ≤ k) (h1 : k ≤ 1000) (q : Q (.dat (.tuple (List.replicate k.toNat d))) O) : OpW K (rRep2 K) (.dat (.tuple [d])) (iV k) O Q := fun Hk H h u v hu hv Q' kk => by
  by_cases h2 : 1 ≤ k
  · exact .inl (g_rep1 h2 h1 q Hk H h u v hu hv Q' kk)
  · cases (show Da Hk v (.int k) from hv)
    cases (show Da Hk u (.tuple [d]) from hu) with
    | @tup a xs _ g1 g2 =>
      have hl : xs.length = 1 := g2.length
      refine .inr ⟨a, k, xs, rfl, rfl, .inl (.inl (h.kn _ _ g1)), (fun z => by rw [z] at hl; cases hl), by omega, h0, fun l hf => ?_⟩
      rw [show k.toNat = 0 by omega] at q
      have sm := same_new (o := .tup []) (h.kn.free hf)
      exact kk _ (.dat (.tuple [])) O _ _ sm (h.know hf) (.tup upd_same .nil) q
end
end Wk
namespace Wk
open PySem PySem.Spec PyProof.Rows L2
/-! ### dicts whose keys are tuples of ints, whose values are ints; owned -/
abbrev kvF (p : List Int × Int) : List Key × V := (p.1.map Sum.inl, V.int p.2)
abbrev dtO (kvs : List (List Int × Int)) : OD := .obj (.dT (kvs.map kvF)) [] []
def putI (kvs : List (List Int × Int)) (k : List Int) (v : Int) : List (List Int × Int) :=
  if kvs.any (fun p => decide (p.1 = k)) then kvs.map fun p => if p.1 = k then (p.1, v) else p else kvs ++ [(k, v)]
theorem inl_inj : ∀ {a b : List Int}, a.map (Sum.inl : Int → Key) = b.map Sum.inl → a = b
  | [], [], _ => rfl
  | [], _ :: _, h => by cases h
  | _ :: _, [], h => by cases h
  | x :: a, y :: b, h => by
    rw [List.map_cons, List.map_cons] at h
    injection h with h1 h2
    injection h1 with h1
    rw [h1, inl_inj h2]
theorem kvF_key {p : List Int × Int} {k : List Int} : (kvF p).1 = k.map Sum.inl ↔ p.1 = k := ⟨fun h => inl_inj h, fun h => by rw [← h]⟩
theorem putI_len (kvs : List (List Int × Int)) (k : List Int) (v : Int) : (putI kvs k v).length ≤ kvs.length + 1 := by
  unfold putI
  split
  · rw [List.length_map]; omega
  · rw [List.length_append]; exact Nat.le_refl _
theorem put_map (kvs : List (List Int × Int)) (k : List Int) (v : Int) : putK (kvs.map kvF) (k.map Sum.inl) (V.int v) = (putI kvs k v).map kvF := by
  unfold putK putI
  have e : ((kvs.map kvF).any fun kv => decide (kv.1 = k.map Sum.inl)) = kvs.any fun p => decide (p.1 = k) := by
    rw [List.any_map]
    congr 1
    funext p
    show decide ((kvF p).1 = k.map Sum.inl) = decide (p.1 = k)
    by_cases h : p.1 = k
    · rw [decide_eq_true h, decide_eq_true (kvF_key.mpr h)]
    · rw [decide_eq_false h, decide_eq_false fun z => h (kvF_key.mp z)]
  rw [e]
  by_cases h : (kvs.any fun p => decide (p.1 = k)) = true
  · rw [if_pos h, if_pos h, List.map_map, List.map_map]
    congr 1
    funext p
    show (if (kvF p).1 = k.map Sum.inl then ((kvF p).1, V.int v) else kvF p) = kvF (if p.1 = k then (p.1, v) else p)
    by_cases z : p.1 = k
    · rw [if_pos z, if_pos (kvF_key.mpr z)]
    · rw [if_neg z, if_neg fun q => z (kvF_key.mp q)]
  · rw [if_neg h, if_neg h, List.map_append]
    rfl
theorem valV_at : ∀ {kvs : List (List Int × Int)} {i : Nat} {p : List Int × Int}, (kvs.map (·.1)).Nodup → kvs[i]? = some p → valV (kvs.map kvF) (p.1.map Sum.inl) = some (V.int p.2)
  | [], i, p, _, h => by simp at h
  | x :: r, 0, p, _, h => by
    simp at h
    subst h
    exact valV_pos rfl
  | x :: r, i + 1, p, hn, h => by
    rw [List.map_cons, List.nodup_cons] at hn
    have h' : r[i]? = some p := by simpa using h
    have hne : ¬ (kvF x).1 = p.1.map Sum.inl := fun z => by
      have e := inl_inj z
      exact hn.1 (List.mem_map.mpr ⟨p, List.mem_of_getElem? h', e.symm⟩)
    show valV (kvF x :: r.map kvF) _ = _
    rw [valV_neg hne]
    exact valV_at hn.2 h'
theorem DaAll.keys {H : Hp} {vs : List V} {ks : List Int} (h : DaAll H vs (ks.map PyData.int)) : vs = (ks.map (Sum.inl : Int → Key)).map kV := by
  rw [h.ints, List.map_map]
  rfl
section
variable {K : PySem.W.Frag} {Hk Hk' H H' : Hp} {O O' Oa : Own} {ds : List SD} {σ : L2.St} {Q : SD → Own → Prop} {Q' : VK} {x y : SD} {A : AE} {D : Ends} {t u : TS} {te td to ti : TE}
/-- {} -/
theorem w_dnewT (q : ∀ l, Q (.ad l) ((l, dtO []) :: O)) : EvW K tDNewT O ds Q := fun Hk σ H p Q' k l hf =>
  k _ (.ad l) _ Hk _ (Same.refl _) (p.hold.ownG (x := dtO []) hf ⟨upd_same, .nil⟩) rfl (q l)
/-- d[k] = e, k a tuple of ints, e an int -/
theorem s_setT (h : EvW K te O ds fun r O1 => EvW K to O1 ds fun ro O2 => EvW K ti O2 ds fun ri O3 =>
    ∃ a kvs ks v Oa O4, r = iV v ∧ ro = .ad a ∧ ri = .dat (tI ks) ∧ O3.Perm ((a, dtO kvs) :: Oa) ∧ kvs.length ≤ 1000000 ∧ Own.P ((a, dtO (putI kvs ks v)) :: Oa) O4 ∧ A.nx O4 ds) : StW K (tAsg te (gSub to ti rSetD)) O ds A := fun Hk σ H D p l =>
  h Hk σ H p _ fun v r O1 Hk1 H1 e1 h1 s1 q1 => q1 Hk1 σ H1 (p.ext e1 h1) _ fun vo ro O2 Hk2 H2 e2 h2 s2 q2 => q2 Hk2 σ H2 ((p.ext e1 h1).ext e2 h2) _ fun vi ri O3 Hk3 H3 e3 h3 s3 q3 => by
    obtain ⟨a, kvs, ks, z, Oa, O4, rfl, rfl, rfl, hp, hl, hp2, q⟩ := q3
    cases (show Da Hk1 v (.int z) from s1)
    cases (show vo = .ref a from s2)
    have h' := h3.perm hp
    obtain ⟨⟨g1, _⟩, ka⟩ := h'.ow _ List.mem_cons_self
    cases (show Da Hk3 vi (tI ks) from s3) with
    | @tup b xs _ b1 b2 =>
      have eb : H3 b = some (.tup ((ks.map (Sum.inl : Int → Key)).map kV)) := by
        rw [← b2.keys]
        exact h3.kn _ _ b1
      refine ⟨a, _, rfl, DPut.t (v := V.int z) g1 eb (by rw [List.length_map]; exact Nat.lt_of_le_of_lt hl (by decide)), ?_⟩
      rw [put_map]
      exact l.nx _ ds Hk3 σ _ (e1.trans (e2.trans e3)) (p.ext (e1.trans (e2.trans e3)) ((h'.writeG (y := dtO (putI kvs ks z)) ⟨upd_same, .nil⟩).perm hp2)) q
/-- [d[k] for k in d] -/
theorem w_lcDT {i j : Nat} {a : Addr} {kvs : List (List Int × Int)} (hi : ds[i]? = some (.ad a)) (hij : i ≠ j) (hj : j < ds.length) (hp : O.Perm ((a, dtO kvs) :: Oa)) (hn : (kvs.map (·.1)).Nodup) (hl : kvs.length ≤ 1000000)
    (q : ∀ Dl, Q (.ad Dl) ((Dl, .lst (kvs.map fun p => iV p.2)) :: O)) : EvW K (tLockE (tLc (iKeys (tVar i)) (gName j) tYes (tDGet (tVar i) (tVar j)) [j])) O ds Q := fun Hk σ H p Q' k => by
  rcases p.env i (.ad a) hi with z | ⟨v, hv, hs⟩
  · cases z
  cases (show v = .ref a from hs)
  obtain ⟨⟨g1, _⟩, ka⟩ := (p.hold.perm hp).ow _ List.mem_cons_self
  refine ⟨a, _, g1, trivial, fun od => ?_⟩
  have g2 : (upd H a (.frz od (.dT (kvs.map kvF)))) a = some (.frz od (.dT (kvs.map kvF))) := upd_same
  generalize hH1 : upd H a (.frz od (.dT (kvs.map kvF))) = H1 at g2
  refine ⟨.ref a, hv, a, od, rfl, .inr ⟨kvs.map kvF, g2, fun Dl hf => ?_⟩⟩
  have hne : a ≠ Dl := fun z => by rw [z, hf] at g2; cases g2
  have hHf : H Dl = none := by rw [← hH1, upd_ne (Ne.symm hne)] at hf; exact hf
  have hlen : (kvs.map kvF).length = kvs.length := List.length_map ..
  refine lc_it walk_keysT (fun n H2 => H2 = upd H1 Dl (.lst ((kvs.take n).map fun p => V.int p.2))) rfl (fun n H2 _ e => ?_) (fun n x H2 H3 hlt e y => ?_) (fun H2 e => ?_)
  · rw [e, upd_ne hne]
    exact g2
  · obtain ⟨e3, kk, v, b, hk, rfl, hb⟩ := y
    subst e3
    refine ⟨wipe_wipe _, ?_⟩
    rw [wipe_set]
    unfold tYes
    show (if true = true then _ else _)
    rw [if_pos rfl]
    rw [List.getElem?_map] at hk
    cases hkn : kvs[n]? with
    | none => rw [hkn] at hk; cases hk
    | some pr =>
      rw [hkn] at hk
      injection hk with hk
      injection hk with hk1 hk2
      refine ⟨.ref a, by rw [List.getElem?_set_ne (Ne.symm hij)]; exact hv, ?_⟩
      have hjs : j < σ.length := by rw [p.len]; exact hj
      · refine ⟨.ref b, List.getElem?_set_self hjs, a, V.int pr.2, rfl, ?_, ?_⟩
        · refine .inr ⟨kvs.map kvF, kk, b, .inr ⟨od, by rw [e, upd_ne hne]; exact g2⟩, rfl, hb, ?_⟩
          rw [← hk1]
          exact (valV_at hn hkn).symm
        · refine ⟨(kvs.take n).map fun p => V.int p.2, by rw [e, upd_same], by rw [List.length_map, List.length_take]; exact Nat.lt_of_le_of_lt (Nat.le_trans (Nat.min_le_right _ _) hl) (by decide), ?_⟩
          rw [e]
          funext c
          by_cases hc : c = Dl
          · rw [hc, upd_same, upd_same, List.take_add_one, hkn, List.map_append]
            rfl
          · rw [upd_ne hc, upd_ne hc, upd_ne hc]
  · rw [hlen, List.take_length] at e
    refine ⟨by rw [e, upd_ne hne]; exact g2, ?_⟩
    have eH : upd H2 a (.dT (kvs.map kvF)) = upd H Dl (.lst (kvs.map fun p => V.int p.2)) := by
      rw [e, ← hH1]
      funext c
      by_cases hc : c = a
      · rw [hc, upd_same, upd_ne hne]
        exact g1.symm
      · rw [upd_ne hc]
        by_cases hd : c = Dl
        · rw [hd, upd_same, upd_same]
        · rw [upd_ne hd, upd_ne hd, upd_ne hc]
    rw [eH]
    refine k _ (.ad Dl) _ Hk _ (Same.refl _) (p.hold.own hHf ?_) rfl (q Dl)
    have : ∀ kvs : List (List Int × Int), SDall K Hk (kvs.map fun p => V.int p.2) (kvs.map fun p => iV p.2) := fun kvs => by
      induction kvs with
      | nil => exact .nil
      | cons a r ih => exact .cons (.int _) ih
    exact this kvs
end
/-! ### a def that calls itself -/
def preM (p : Nat → List SD → Own → (SD → Own → Prop) → Prop) : Nat → List SD → Own → (SD → Own → Prop) → Prop
  | 0 => fun _ _ _ => False
  | n + 1 => p n
theorem FnOk.never {P : Program} {w : World} {K : PySem.W.Frag} {mg : Str → Option Value} {base : Heap} {k : Nat} {f : Addr} {fd : FuncData} {ps : List Str} {p : Nat → List SD → Own → (SD → Own → Prop) → Prop} : FnOk P w K mg base CX0 k f fd ps (spW K (preM p 0)) :=
  ⟨fun _ _ _ _ ⟨_, _, _, _, _, _, h, _⟩ => h.elim, fun _ _ _ _ _ _ _ _ _ _ _ _ _ ⟨_, _, _, _, _, _, h, _⟩ => h.elim⟩
end Wk
namespace Wk
open PySem PySem.Spec PyProof.Rows L2
/-! ### texts: lists of signs -/
abbrev sT (l : List Nat) : Str := ⟨l.toArray⟩
theorem sT_len (a : List Nat) : (sT a).length = a.length := by simp [sT, Str.length]
theorem sT_cat (a b : List Nat) : sT a ++ sT b = sT (a ++ b) := TL.ext_tl (TL.tl_append (sT a) (sT b))
theorem sT_inj {a b : List Nat} (h : sT a = sT b) : a = b := congrArg (fun x : Str => x.cps.toList) h
theorem sT_lit (s : String) : Str.ofString s = sT (s.toList.map Char.toNat) := TL.ext_tl (by rw [TL.tl_ofString])
theorem at_sT {a y : List Nat} {i : Nat} : StrLaws.At (sT a) (sT y) (sT a).length i ↔ i + y.length ≤ a.length ∧ (a.drop i).take y.length = y := by
  unfold StrLaws.At
  rw [StrLaws.subAt_eq, sT_len, sT_len]
  show _ ∧ ((a.drop i).take y.length == y) = true ↔ _
  rw [beq_iff_eq]
theorem findT (a y : List Nat) : (Txt.find (sT a) (sT y) = -1 ∧ ∀ q s, a ≠ q ++ y ++ s) ∨ ∃ q s, a = q ++ y ++ s ∧ Txt.find (sT a) (sT y) = (q.length : Int) := by
  unfold Txt.find
  have hf := StrLaws.found_iff (sT a) (sT y)
  have hs := StrLaws.occ_spec (sT a) (sT y) 0 (sT a).length 1
  cases h : Builtin.Str.occurrences (sT a) (sT y) 0 (sT a).length 1 with
  | nil =>
    rw [h] at hf
    refine .inl ⟨rfl, fun q s e => ?_⟩
    have : (!([] : List Nat).isEmpty) = true := hf.mpr ⟨q.length, (at_sT (a := a) (y := y) (i := q.length)).mpr (by
      rw [e]
      refine ⟨by simp, ?_⟩
      rw [List.append_assoc, List.drop_left, List.take_left])⟩
    cases this
  | cons i r =>
    rw [h] at hs
    have h1 := (at_sT (a := a) (y := y) (i := i)).mp (hs i List.mem_cons_self)
    refine .inr ⟨a.take i, a.drop (i + y.length), ?_, ?_⟩
    · have e1 := (List.take_append_drop i a).symm
      have e2 := (List.take_append_drop y.length (a.drop i)).symm
      rw [h1.2, List.drop_drop] at e2
      rw [List.append_assoc, ← e2]
      exact e1
    · rw [List.length_take, show min i a.length = i by omega]
theorem countT_go {a : List Nat} {c : Nat} : ∀ {cuts : List Nat} {k f : Nat}, StrLaws.ChainG (sT a) (sT [c]) (sT a).length k cuts f → (∀ j, f ≤ j → ¬ StrLaws.At (sT a) (sT [c]) (sT a).length j) → (a.drop k).count c = cuts.length := by
  have noat : ∀ j, ¬ StrLaws.At (sT a) (sT [c]) (sT a).length j → (a.drop j).count c = (a.drop (j + 1)).count c := fun j h => by
    by_cases hj : j < a.length
    · rw [List.drop_eq_getElem_cons hj, List.count_cons]
      have : ¬ (a[j] = c) := fun e => h (at_sT.mpr ⟨by show j + 1 ≤ _; omega, by rw [List.drop_eq_getElem_cons hj, e]; rfl⟩)
      rw [if_neg (by rw [beq_iff_eq]; exact this), Nat.add_zero]
    · rw [List.drop_eq_nil_of_le (by omega), List.drop_eq_nil_of_le (by omega)]
  have skip : ∀ (n k : Nat), (∀ j, k ≤ j → j < k + n → ¬ StrLaws.At (sT a) (sT [c]) (sT a).length j) → (a.drop k).count c = (a.drop (k + n)).count c := by
    intro n
    induction n with
    | zero => exact fun _ _ => rfl
    | succ n ih =>
      intro k h
      rw [ih k fun j h1 h2 => h j h1 (by omega), noat (k + n) (h _ (by omega) (by omega)), Nat.add_assoc]
  intro cuts
  induction cuts with
  | nil =>
    intro k f h hn
    have e : f = k := h
    subst e
    rw [skip a.length f fun j h1 _ => hn j h1, List.drop_eq_nil_of_le (by omega)]
    rfl
  | cons d r ih =>
    intro k f h hn
    obtain ⟨h1, h2, h3, h4⟩ := h
    have e := ih h4 hn
    have e1 := skip (d - k) k fun j h5 h6 => h3 j h5 (by omega)
    rw [show k + (d - k) = d by omega] at e1
    obtain ⟨h5, h6⟩ := at_sT.mp h2
    have hd : d < a.length := by
      have : d + 1 ≤ a.length := h5
      omega
    rw [List.drop_eq_getElem_cons hd] at h6
    have h6 : a[d] = c := by
      have : [a[d]] = [c] := h6
      injection this
    rw [e1, List.drop_eq_getElem_cons hd, List.count_cons, h6, if_pos (by rw [beq_self_eq_true]), List.length_cons, ← e]
    rfl
theorem countT (a : List Nat) (c : Nat) : Txt.count (sT a) (sT [c]) = ((a.count c : Nat) : Int) := by
  unfold Txt.count
  obtain ⟨f, h1, h2⟩ := StrLaws.occ_tight (sT a) (sT [c]) (by rw [sT_len]; exact Nat.le_refl 1)
  have := countT_go h1 h2
  rw [List.drop_zero] at this
  rw [this]
theorem cutT (a : List Nat) (lo hi : Option Int) : cutS (sT a) lo hi = sT (cut a lo hi) := by
  unfold cutS cut
  rw [sT_len]
section
variable {K : PySem.W.Frag} {Hk Hk' H H' : Hp} {O O' Oa : Own} {ds : List SD} {σ : L2.St} {Q : SD → Own → Prop} {Q' : VK} {x y : SD} {A : AE} {D : Ends} {t u : TS} {te td to ti : TE}
theorem o_addS {a b : List Nat} (hz : a.length + b.length ≤ 1000000) (q : Q (.dat (.str (sT (a ++ b)))) O) : OpW K (fun x y H Q => ∃ i j, x = .str i ∧ y = .str j ∧ i.length + j.length ≤ sizeLine ∧ Q (.str (i ++ j)) H) (.dat (.str (sT a))) (.dat (.str (sT b))) O Q := fun Hk H h u v hu hv Q' k => by
  cases (show Da Hk u (.str (sT a)) from hu)
  cases (show Da Hk v (.str (sT b)) from hv)
  refine ⟨_, _, rfl, rfl, by rw [sT_len, sT_len]; exact Nat.le_trans hz (by decide), ?_⟩
  rw [sT_cat]
  exact k.now h (r := .dat (.str _)) (.str _) q
theorem sl_S {a : List Nat} {lo hi : Option Int} (hz : a.length ≤ 1000000) (q : Q (.dat (.str (sT (cut a lo hi)))) O) : SlW K rSlS (.dat (.str (sT a))) lo hi O Q := fun Hk H h u hu Q' k => by
  cases (show Da Hk u (.str (sT a)) from hu)
  refine ⟨_, rfl, by rw [sT_len]; exact Nat.le_trans hz (by decide), ?_⟩
  rw [cutT]
  exact k.now h (r := .dat (.str _)) (.str _) q
theorem o_ixS {a : List Nat} {i : Int} {c : Nat} (hz : a.length ≤ 1000000) (ha : atI a i = some c) (q : Q (.dat (.str (sT [c]))) O) : OpW K rIxS (.dat (.str (sT a))) (iV i) O Q := fun Hk H h u v hu hv Q' k => by
  cases (show Da Hk u (.str (sT a)) from hu)
  cases (show Da Hk v (.int i) from hv)
  exact ⟨_, i, c, rfl, rfl, by rw [sT_len]; exact Nat.le_trans hz (by decide), ha, k.now h (r := .dat (.str _)) (.str _) q⟩
theorem w_m1 {g : Str → Str → Int} (h : EvW K to O ds fun r O1 => ∃ a, r = .dat (.str a) ∧ EvW K te O1 ds fun r2 O2 => ∃ b, r2 = .dat (.str b) ∧ Q (iV (g a b)) O2) :
    EvW K (tM1 (fun x xs H Q => ∃ a b, x = .str a ∧ xs = [.str b] ∧ Q (.int (g a b)) H) to te) O ds Q := fun Hk σ H p Q' k =>
  h Hk σ H p _ fun v r O1 Hk1 H1 e1 h1 s1 q1 => by
    obtain ⟨a, rfl, q1⟩ := q1
    cases (show Da Hk1 v (.str a) from s1)
    refine ⟨⟨a, rfl⟩, q1 Hk1 σ H1 (p.ext e1 h1) _ fun v2 r2 O2 Hk2 H2 e2 h2 s2 q2 => ?_⟩
    obtain ⟨b, rfl, q2⟩ := q2
    cases (show Da Hk2 v2 (.str b) from s2)
    exact ⟨a, b, rfl, rfl, k _ (iV (g a b)) O2 Hk2 H2 (e1.trans e2) h2 (.int _) q2⟩
theorem o_neT {i j : Str} (q : Q (bV (!decide (i = j))) O) : OpW K rNe (.dat (.str i)) (.dat (.str j)) O Q := fun Hk H h u v hu hv Q' k => by
  cases (show Da Hk u (.str i) from hu)
  cases (show Da Hk v (.str j) from hv)
  refine ⟨rfl, ?_⟩
  have e : decide (V.str i = V.str j) = decide (i = j) := by
    by_cases z : i = j
    · rw [decide_eq_true z, decide_eq_true (congrArg V.str z)]
    · rw [decide_eq_false z, decide_eq_false fun q => z (V.str.inj q)]
  rw [e]
  exact k.now h (r := bV _) (.bl _) q
/-- for x in text -/
theorem s_forStr {j : Nat} {tb : TS} (h : EvW K te O ds fun r O1 => ∃ z : List Nat, r = .dat (.str (sT z)) ∧ ∃ I : Nat → Own → List SD → Prop, I 0 O1 ds ∧
    (∀ (i : Nat) c O2 ds2, z[i]? = some c → I i O2 ds2 → ∀ B : AE, Bdy I i A B → StW K tb O2 (ds2.set j (.dat (.str (sT [c])))) B) ∧ ∀ O2 ds2, I z.length O2 ds2 → A.nx O2 ds2) : StW K (tFor (iStr te) (gName j) tb) O ds A := fun Hk σ H D p l =>
  h Hk σ H p _ fun v r O1 Hk1 H1 e1 h1 s1 q1 => by
    obtain ⟨z, rfl, I, h0, hs, hd⟩ := q1
    cases (show Da Hk1 v (.str (sT z)) from s1)
    have hz : (sT z).cps.size = z.length := by simp [sT]
    refine ⟨sT z, rfl, for_it (walk_str (z := sT z)) (fun i σ H => ∃ O2 ds2 Hk2, Same Hk1 Hk2 ∧ Pt K Hk2 O2 ds2 σ H ∧ I i O2 ds2) ⟨O1, ds, Hk1, Same.refl _, p.ext e1 h1, h0⟩ (fun _ _ _ _ _ => trivial) (fun i x σ' H' H'' hi ⟨O2, ds2, Hk2, e, p2, q⟩ y => ?_) (fun σ' H' ⟨O2, ds2, Hk2, e, p2, q⟩ => ?_)⟩
    · obtain ⟨eh, c, hc, rfl⟩ := y
      subst eh
      have hc' : z[i]? = some c := by simpa [sT] using hc
      exact hs i c O2 ds2 hc' q _ .mk' Hk2 _ H'' _ (p2.set (r := .dat (.str (sT [c]))) (.str _)) ⟨fun O3 ds3 Hk3 σ3 H3 e3 p3 q3 => ⟨O3, ds3, Hk3, e.trans e3, p3, q3⟩, l.rt.ext (e1.trans e), l.nx.ext (e1.trans e), fun O3 ds3 Hk3 σ3 H3 e3 p3 q3 => ⟨O3, ds3, Hk3, e.trans e3, p3, q3⟩, l.xt.ext (e1.trans e)⟩
    · rw [hz] at q
      exact l.nx O2 ds2 Hk2 σ' H' (e1.trans e) p2 (hd O2 ds2 q)
/-- [e for x in text if t] -/
theorem w_lcStr {tl : TE} {j : Nat} {tt : TT} (h : EvW K tl O ds fun r O1 => ∃ z : List Nat, r = .dat (.str (sT z)) ∧ z.length ≤ 1000000 ∧ ∃ I : Nat → List SD → Own → Prop, I 0 [] O1 ∧
    (∀ (i : Nat) c acc O2, z[i]? = some c → acc.length ≤ i → I i acc O2 → LcTurn K tt te O2 (ds.set j (.dat (.str (sT [c])))) acc (I (i + 1))) ∧ ∀ acc O2 Dl, I z.length acc O2 → Q (.ad Dl) ((Dl, .lst acc) :: O2)) : EvW K (tLc (iStr tl) (gName j) tt te [j]) O ds Q := fun Hk σ H p Q' k =>
  h Hk σ H p _ fun v rs O1 Hk1 H1 e1 h1 s1 q1 => by
    obtain ⟨z, rfl, hn, I, h0, hs, hd⟩ := q1
    cases (show Da Hk1 v (.str (sT z)) from s1)
    have hz : (sT z).cps.size = z.length := by simp [sT]
    refine ⟨sT z, rfl, fun Dl hf => lc_it (walk_str (z := sT z)) (fun i H => ∃ acc O2 Hk2, Same Hk1 Hk2 ∧ acc.length ≤ i ∧ Hold K Hk2 ((Dl, OD.lst acc) :: O2) H ∧ I i acc O2)
      ⟨[], O1, Hk1, Same.refl _, Nat.le_refl _, h1.own hf .nil, h0⟩ (fun _ _ _ _ => trivial) (fun i x H2 H3 hi hP y => ?_) (fun H2 hP => ?_)⟩
    · obtain ⟨acc, O2, Hk2, e2, hl, hh, q⟩ := hP
      obtain ⟨eh, c, hc, rfl⟩ := y
      subst eh
      have hc' : z[i]? = some c := by simpa [sT] using hc
      have hlt := (List.getElem?_eq_some_iff.mp hc').1
      have hsz : acc.length < sizeLine := Nat.lt_of_lt_of_le (show acc.length < 1000001 by omega) (by decide)
      have ht := hs i c acc O2 hc' hl q
      refine lc_turn (d := .dat (.str (sT [c]))) (P' := fun H => ∃ acc2 O3 Hk2, Same Hk1 Hk2 ∧ acc2.length ≤ i + 1 ∧ Hold K Hk2 ((Dl, OD.lst acc2) :: O3) H ∧ I (i + 1) acc2 O3) (I' := fun acc2 O3 => acc2.length ≤ i + 1 ∧ I (i + 1) acc2 O3) ?_ hsz ((p.ext e1 h1).ext e2 (hh.sub (List.sublist_cons_self ..))) hh (.str _) fun acc2 O3 Hk3 H3 e3 h3 q3 => ⟨acc2, O3, Hk3, e2.trans e3, q3.1, h3, q3.2⟩
      intro Dl2 Hk3 σ3 H3 p3 Q3 k3
      refine ht Dl2 Hk3 σ3 H3 p3 Q3 fun b O3 Hk4 H4 e4 h4 q4 => k3 b O3 Hk4 H4 e4 h4 ⟨fun hb => w_mono (q4.1 hb) fun r O4 ⟨O5, hp, q5⟩ => ⟨O5, hp, by rw [List.length_append]; simp; omega, q5⟩, fun hb => ?_⟩
      obtain ⟨O5, hp, q5⟩ := q4.2 hb
      exact ⟨O5, hp, by omega, q5⟩
    · obtain ⟨acc, O2, Hk2, e2, hl, hh, q⟩ := hP
      rw [hz] at q
      exact k _ (.ad Dl) _ Hk2 H2 (e1.trans e2) hh rfl (hd acc O2 Dl q)
end
/-! ### text × number -/
def rMulS : R2 := fun x y H Q => ∃ (a : Str) (i : Int), x = .str a ∧ y = .int i ∧ MulOk a i ∧ Q (.str (Txt.mul a i)) H
theorem op_mulS {X : Cx} : OpR X (binaryOp .Mult) rMulS := by
  intro pins s σ H x y v u Q I rx ry h
  obtain ⟨a, i, rfl, rfl, hok, q⟩ := h
  obtain ⟨t, rfl⟩ := rx
  obtain ⟨t', rfl⟩ := ry
  exact SB.mul hok fun t2 k => ⟨.str _, H, I.tok _, ⟨_, rfl⟩, q⟩
theorem fold_rep (c : Nat) : ∀ (n : Nat) (acc : Array Nat), ((List.replicate n (#[c] : Array Nat)).foldl (· ++ ·) acc).toList = acc.toList ++ List.replicate n c
  | 0, acc => by simp
  | n + 1, acc => by
    rw [List.replicate_succ, List.foldl_cons, fold_rep c n, List.replicate_succ]
    simp
theorem mulT (c : Nat) {n : Int} (h : 0 ≤ n) : Txt.mul (sT [c]) n = sT (List.replicate n.toNat c) := by
  unfold Txt.mul
  by_cases h1 : n < 1
  · rw [if_pos h1, show n.toNat = 0 by omega]
    rfl
  · rw [if_neg h1]
    by_cases h2 : n = 1
    · subst h2
      have e0 : ((1 : Int) == 1 || (sT [c]).length == 0) = true := rfl
      rw [if_pos e0]
      rfl
    · rw [if_neg (by rw [sT_len]; simp [h2])]
      refine TL.ext_tl ?_
      show ((List.replicate n.toNat (#[c] : Array Nat)).foldl (· ++ ·) #[]).toList = _
      rw [fold_rep]
      simp [TL.tl]
theorem mulOk (c : Nat) {n : Int} (h : 0 ≤ n) (h2 : n ≤ 1000) : MulOk (sT [c]) n := by
  refine ⟨by rw [decide_eq_false (by omega), decide_eq_false (by omega)]; rfl, fun h1 _ => ?_, fun _ _ => ?_⟩
  · rw [sT_len]
    have : (1 : Int) ≤ (2 ^ 63 - 1) / n := Int.le_ediv_of_mul_le (by omega) (by omega)
    show ¬ ((1 : Nat) : Int) > _
    omega
  · rw [sT_len]
    refine decide_eq_false ?_
    show ¬ (1 * n.toNat > sizeLine)
    have : (1000 : Nat) ≤ sizeLine := by decide
    omega
section
variable {K : PySem.W.Frag} {O : Own} {Q : SD → Own → Prop}
theorem o_mulS {c : Nat} {n : Int} (h : 0 ≤ n) (h2 : n ≤ 1000) (q : Q (.dat (.str (sT (List.replicate n.toNat c)))) O) : OpW K rMulS (.dat (.str (sT [c]))) (iV n) O Q := fun Hk H hh u v hu hv Q' k => by
  cases (show Da Hk u (.str (sT [c])) from hu)
  cases (show Da Hk v (.int n) from hv)
  refine ⟨_, n, rfl, rfl, mulOk c h h2, ?_⟩
  rw [mulT c h]
  exact k.now hh (r := .dat (.str _)) (.str _) q
end
section
variable {K : PySem.W.Frag} {O : Own} {ds : List SD} {te : TE}
theorem j_fmtS {n : Nat} {ts : List TE} {Q : Own → Prop} (h : EvW K te O ds fun r O1 => ∃ s : Str, r = .dat (.str s) ∧ s.length ≤ 1000 ∧ JsW K ts (n + 1000) O1 ds Q) (hn : n ≤ 100000 := by decide) : JsW K (tFmt te :: ts) n O ds Q := fun Hk σ H p acc ha Q' k => by
  refine h Hk σ H p _ fun v r O1 Hk1 H1 e1 h1 s1 q1 => ?_
  obtain ⟨s, rfl, hs, q⟩ := q1
  cases (show Da Hk1 v (.str s) from s1)
  have e0 : (acc ++ s).length ≤ n + 1000 := by
    rw [Str.length_append]
    omega
  have e2 : (101000 : Nat) ≤ sizeLine := by decide
  exact .inl ⟨s, rfl, by omega, s, rfl, by omega, q Hk1 σ H1 (p.ext e1 h1) (acc ++ s) e0 Q' fun out O2 Hk2 H2 e3 h3 q3 => k out O2 Hk2 H2 (e1.trans e3) h3 q3⟩
end
section
variable {K : PySem.W.Frag} {Hk Hk' H H' : Hp} {O O' Oa : Own} {ds : List SD} {σ : L2.St} {Q : SD → Own → Prop} {Q' : VK} {A : AE} {D : Ends} {te : TE}
/-- a, b, c = e: a triple of data -/
theorem s_unp3 {i j k : Nat} (h : EvW K te O ds fun r O1 => ∃ d e f, r = .dat (.tuple [d, e, f]) ∧ A.nx O1 (((ds.set i (.dat d)).set j (.dat e)).set k (.dat f))) : StW K (tAsg te (gTup K 3 (gCons (gName i) (gCons (gName j) (gCons (gName k) gNil))))) O ds A := fun Hk σ H D p l =>
  h Hk σ H p _ fun v r O1 Hk1 H1 e1 h1 s1 q1 => by
    obtain ⟨d, e, f, rfl, q⟩ := q1
    have p1 := p.ext e1 h1
    cases (show Da Hk1 v (.tuple [d, e, f]) from s1) with
    | @tup a xs _ h1 h2 =>
      cases h2 with
      | @cons v1 _ _ _ g1 r =>
        cases r with
        | @cons v2 _ _ _ g2 r =>
          cases r with
          | @cons v3 _ _ _ g3 r =>
            cases r
            refine ⟨a, [v1, v2, v3], rfl, .inl (.inl (p1.hold.kn _ _ h1)), rfl, v1, [v2, v3], rfl, v2, [v3], rfl, v3, [], rfl, rfl, ?_⟩
            exact l.nx O1 _ Hk1 _ H1 e1 (((p1.set (j := i) (r := .dat d) g1).set (j := j) (r := .dat e) g2).set (j := k) (r := .dat f) g3) q
end
/-! ### a list of owned lists of ints -/
theorem perm_era {α : Type} : ∀ {xs : List α} {i : Nat} {x : α}, xs[i]? = some x → xs.Perm (x :: xs.eraseIdx i)
  | [], i, x, h => by simp at h
  | y :: r, 0, x, h => by
    have e : y = x := by simpa using h
    rw [e]
    exact List.Perm.refl _
  | y :: r, i + 1, x, h => by
    have h' : r[i]? = some x := by simpa using h
    exact ((perm_era h').cons y).trans (.swap ..)
def ownL (as : List Addr) (Ls : List (List Int)) : Own := List.zipWith (fun a l => (a, OD.lst (l.map fun n => iV n))) as Ls
theorem ownL_at {as : List Addr} {Ls : List (List Int)} {i : Nat} (h1 : i < as.length) (h2 : i < Ls.length) : (ownL as Ls)[i]? = some (as[i], OD.lst (Ls[i].map fun n => iV n)) := by
  unfold ownL
  rw [List.getElem?_zipWith, List.getElem?_eq_getElem h1, List.getElem?_eq_getElem h2]
theorem ownL_set : ∀ (as : List Addr) (Ls : List (List Int)) (i : Nat) (l : List Int), (ownL as (Ls.set i l)).eraseIdx i = (ownL as Ls).eraseIdx i
  | [], _, _, _ => rfl
  | _ :: _, [], _, _ => by rw [List.set_nil]
  | a :: as, L :: Ls, 0, l => rfl
  | a :: as, L :: Ls, i + 1, l => by
    show _ :: (ownL as (Ls.set i l)).eraseIdx i = _ :: (ownL as Ls).eraseIdx i
    rw [ownL_set as Ls i l]
theorem ownL_mem {as : List Addr} {Ls : List (List Int)} {i : Nat} (h1 : i < as.length) (h2 : i < Ls.length) : (as[i], OD.lst (Ls[i].map fun n => iV n)) ∈ ownL as Ls := List.mem_of_getElem? (ownL_at h1 h2)
theorem ownL_nil (as : List Addr) : ownL as (List.replicate as.length []) = as.map fun a => (a, OD.lst []) := by
  induction as with
  | nil => rfl
  | cons a as ih =>
    show _ :: ownL as (List.replicate as.length []) = _
    rw [ih]
    rfl
/-! ### the length of a text -/
def rLenS : List V → Hp → VK → Prop := fun xs H Q => ∃ z, xs = [.str z] ∧ z.length ≤ sizeLine ∧ Q (.int z.length) H
theorem kLenS {X : Cx} : CallR X (.builtin "len") rLenS := call_len_str
theorem g_lenStr {K : PySem.W.Frag} {O : Own} {Q : SD → Own → Prop} {a : List Nat} (hz : a.length ≤ 1000000) (q : Q (iV a.length) O) : CbW K rLenS [.dat (.str (sT a))] O Q := fun Hk H h us hus Q' k => by
  obtain ⟨u, rfl, hu⟩ := all1 hus
  cases (show Da Hk u (.str (sT a)) from hu)
  refine ⟨_, rfl, by rw [sT_len]; exact Nat.le_trans hz (by decide), ?_⟩
  rw [sT_len]
  exact k.now h (r := iV _) (.int _) q
/-! ### a text beside plain data -/
theorem o_neSP {K : PySem.W.Frag} {O : Own} {Q : SD → Own → Prop} {a b : List Nat} {x y : PyData} (ha : ∀ c ∈ a, c < 0x110000) (hb : ∀ c ∈ b, c < 0x110000) (h1 : plB 8 x = true) (h2 : plB 8 y = true) (q : ∀ c, (c = true ↔ a = b ∧ x = y) → Q (bV (!c)) O) : OpW K (rNeD K) (.dat (.tuple [.str (sT a), x])) (.dat (.tuple [.str (sT b), y])) O Q := by
  have sh : ∀ (a : List Nat) (x : PyData), (∀ c ∈ a, c < 0x110000) → plB 8 x = true → SeqAt.shaped (.tuple [.str (sT a), x]) = true := fun a x ha h1 => by
    obtain ⟨e1, e2⟩ := pl_lay 8 x h1
    have e3 : PySem.PyData.strOk (sT a) = true := by
      unfold PySem.PyData.strOk
      rw [Array.all_eq_true]
      intro i hi
      exact decide_eq_true (ha _ (List.getElem_mem (by exact hi)))
    unfold SeqAt.shaped
    rw [Bool.and_eq_true]
    refine ⟨?_, decide_eq_true ?_⟩
    · show (PySem.PyData.strOk (sT a) && (x.canLay0 && true)) = true
      rw [e1, e3]
      rfl
    · simp only [PyData.depth, PyData.depthAll]
      omega
  refine o_neD (sh a x ha h1) (sh b y hb h2) (q _ ?_)
  show ((sT a == sT b) && (PyData.eqv x y && true)) = true ↔ _
  rw [Bool.and_true, Bool.and_eq_true, eqv_iff 8 x y h1 h2, beq_iff_eq]
  exact ⟨fun h => ⟨sT_inj h.1, h.2⟩, fun h => ⟨by rw [h.1], h.2⟩⟩
end Wk
namespace Wk
open PySem PySem.Spec PyProof.Rows L2
/-! ### enumerate of a text -/
def IteS (z : Str) : It :=
  ⟨fun i _ => i < z.cps.size, fun i H v H' => ∃ T c, v = .ref T ∧ H T = none ∧ z.cps[i]? = some c ∧ H' = upd H T (.tup [.int (i : Nat), .str ⟨#[c]⟩]), fun i _ => i = z.cps.size⟩
theorem turn_enumS {P : Program} {w : World} {K : PySem.W.Frag} {elts : List Expr} {kk : Nat} {tpos : Pos} (z : Str) (t : Tok) (e it : Addr) (ne : e ≠ it) :
    Turn P w K (.Tuple elts kk tpos) (IteS z) [e, it] e (fun i h => (∃ old, IsEnum h e it ((i : Nat) : Int) old) ∧ h.IsStrIter it (strIterType z) z t i) where
  mem := by simp
  obj := fun i h st b hb => by
    obtain ⟨⟨old, he⟩, ⟨o, ho, hc, hd⟩⟩ := st
    have e' : b = e ∨ b = it := by simpa using hb
    rcases e' with y | y
    · subst y
      exact ⟨_, he, fun v q => nomatch q⟩
    · subst y
      exact ⟨o, ho, fun v q => by rw [hd] at q; cases q⟩
  keep := fun i h h' st k => let ⟨⟨old, he⟩, ⟨o, ho, r⟩⟩ := st; ⟨⟨old, k e (by simp) _ he⟩, ⟨o, k it (by simp) o ho, r⟩⟩
  item := by
    intro X hP hw hK hc i pins s σ H E I hf st hg
    subst hP hw hK
    obtain ⟨⟨old, he⟩, hit⟩ := st
    have hel : e < s.heap.objs.size := Heap.lt_size he
    have hil : it < s.heap.objs.size := by obtain ⟨_, q, _⟩ := hit; exact Heap.lt_size q
    refine wpAny_pyNext_enum_itemD (Draws.text (A := X.A.in1) (show X.A.in1.handled = none from I.ok.hd hc) it z t) he hit hg ne (by simp [ne]) fun x' h' tk hx' ho hst' hT hsz hk => ?_
    obtain ⟨c, u, hc1, rfl⟩ := hx'
    refine ⟨_, rfl, wpAny_letOwnedTupleGo_enum (s := { s with heap := h', toks := tk + 1 }) ho fun h'' he' sb => ?_⟩
    have hT2 : h''.get? s.heap.objs.size = some { cls := .type "tuple", data := .seq #[.int i tk, .str ⟨#[c]⟩ u] } := (sb.2 _ (Nat.ne_of_gt hel)).trans hT
    have new : ObjOk X.prog X.w (upd H s.heap.objs.size (.tup [.int (i : Nat), .str ⟨#[c]⟩])) h'' s.heap.objs.size (.tup [.int (i : Nat), .str ⟨#[c]⟩]) :=
      ⟨by show 2 ≤ sizeLine; decide, [.int i tk, .str ⟨#[c]⟩ u], .cons ⟨_, rfl⟩ (.cons ⟨_, rfl⟩ .nil), ⟨_, hT2, rfl, _, rfl⟩⟩
    have I1 : Inv X pins σ (upd H s.heap.objs.size (.tup [.int (i : Nat), .str ⟨#[c]⟩])) { s with heap := h'', toks := tk + 1 } :=
      I.turnedNew (ch := [e, it]) (fun b ob hb q => (sb.2 b (fun y => hb (by simp [y]))).trans (hk b ob (fun y => hb (by simp [y])) (fun y => hb (by simp [y])) q)) hf (Nat.le_refl _) new
    refine ⟨.ref s.heap.objs.size, _, I1, rfl, ⟨_, c, rfl, I.hok.fresh (Nat.le_refl _), hc1, rfl⟩, ⟨⟨.str ⟨#[c]⟩ u, ?_⟩, (let ⟨o, hq, hr⟩ := hst'; ⟨o, (sb.2 it (Ne.symm ne)).trans hq, hr⟩)⟩, fun b hb => ?_⟩
    · have e1 : ((i + 1 : Nat) : Int) = (i : Int) + 1 := by omega
      rw [e1]
      exact he'
    · have hb' : b < s.heap.objs.size := by
        have e' : b = e ∨ b = it := by simpa using hb
        rcases e' with y | y
        · subst y; exact hel
        · subst y; exact hil
      rw [upd_ne (Nat.ne_of_lt hb')]
      exact (hf b hb).1
  done := by
    intro X hP hw hK hc i pins s σ H E I hf st hg
    subst hP hw hK
    obtain ⟨⟨old, he⟩, hit⟩ := st
    obtain ⟨f0, f1, f2, f3, f4, f5⟩ := hf it (by simp)
    have hg : i = z.cps.size := hg
    subst hg
    exact wpAny_pyNext_enum_endD (Draws.text (A := X.A.in1) (show X.A.in1.handled = none from I.ok.hd hc) it z t) he hit fun h' eb => ⟨rfl, I.turned (t' := s.toks) (fun b o hb q => eb b o hb q) f0 f1 f3 f4 f5⟩
  self := fun A i s Q E st h => let ⟨⟨_, he⟩, _⟩ := st; wpAny_pyIter_enum he h
def iEnumS (ta : TA) : TI := fun σ H R => ta σ H fun vs H1 => ∃ z, vs = [.str z] ∧ R (IteS z) H1
theorem pi_enumS {X : Cx} {e : Expr} {ta : TA} {p pos tpos : Pos} {elts : List Expr} {kk : Nat} (hg : Gl X "enumerate") (hm : X.mg "enumerate" = none) (ha : PA X [e] ta) (hs : starEach [e] X.env = [(false, eval e X.env)] := by rfl) :
    PI X (.Tuple elts kk tpos) (.Call (.Name "enumerate" p) [e] [] pos) (iEnumS ta) := by
  refine ⟨fun pins s σ H R I h => ?_⟩
  refine Call_ (ld_blt I hg hm boot_enumerate (PyProof.Rows.callWith_type1 (thn (ha.run pos pins s σ H _ I h) fun us s1 ⟨vs, H1, I1, r1, q1⟩ => ?_) hs rfl))
  obtain ⟨z, ex, q⟩ := q1
  subst ex
  cases r1 with
  | cons r rr =>
    cases rr
    obtain ⟨t, rfl⟩ := r
    refine call_enumerate_str fun h' he hit hsz hk => wpAny_pyIter_enum he ?_
    have I2 : Inv X pins σ H1 { s1 with heap := h' } := I1.kept (t' := s1.toks) hk
    refine ⟨s1.heap.objs.size + 1, [s1.heap.objs.size + 1, s1.heap.objs.size], _, _, H1, rfl, I2, turn_enumS z t (s1.heap.objs.size + 1) s1.heap.objs.size (Nat.succ_ne_self _), ⟨⟨.none, he⟩, hit⟩, fun b hb => ?_, q⟩
    have e' : b = s1.heap.objs.size + 1 ∨ b = s1.heap.objs.size := by simpa using hb
    have hle : s1.heap.objs.size ≤ b := by
      rcases e' with y | y
      · rw [y]; exact Nat.le_add_right _ _
      · rw [y]; exact Nat.le_refl _
    exact I1.fpOk hle (I1.hok.fresh hle)
section
variable {K : PySem.W.Frag} {O : Own} {ds : List SD} {A : AE}
/-- for i, x in enumerate(text) -/
theorem s_forES {ta : TA} {j1 j2 : Nat} {tb : TS} (h : AvW K ta O ds fun rs O1 => ∃ z : List Nat, rs = [.dat (.str (sT z))] ∧ ∃ I : Nat → Own → List SD → Prop, I 0 O1 ds ∧
    (∀ (i : Nat) c O2 ds2, z[i]? = some c → I i O2 ds2 → ∀ B : AE, Bdy I i A B → StW K tb O2 ((ds2.set j1 (iV (i : Int))).set j2 (.dat (.str (sT [c])))) B) ∧ ∀ O2 ds2, I z.length O2 ds2 → A.nx O2 ds2) :
    StW K (tFor (iEnumS ta) (gTup K 2 (gCons (gName j1) (gCons (gName j2) gNil))) tb) O ds A := fun Hk σ H D p l =>
  h Hk σ H p _ fun vs rs O1 Hk1 H1 e1 h1 s1 q1 => by
    obtain ⟨z, rfl, I, h0, hs, hd⟩ := q1
    obtain ⟨v, rfl, hv⟩ := all1 s1
    cases (show Da Hk1 v (.str (sT z)) from hv)
    have hz : (sT z).cps.size = z.length := by simp [sT]
    refine ⟨sT z, rfl, fun i m σ H => m = z.length - i ∧ i ≤ z.length ∧ ∃ O2 ds2 Hk2, Same Hk1 Hk2 ∧ Pt K Hk2 O2 ds2 σ H ∧ I i O2 ds2, ⟨z.length, by simp, Nat.zero_le _, O1, ds, Hk1, Same.refl _, p.ext e1 h1, h0⟩, ?_⟩
    rintro i m σ' H' ⟨rfl, hi, O2, ds2, Hk2, e, p2, q⟩
    by_cases hlt : i < z.length
    · refine .inr ⟨by show i < (sT z).cps.size; omega, fun σ2 H2 => ∃ O3 ds3 Hk3, Same Hk1 Hk3 ∧ Pt K Hk3 O3 ds3 σ2 H2 ∧ I (i + 1) O3 ds3, fun σ2 H2 hN => ⟨z.length - (i + 1), by omega, rfl, hlt, hN⟩, fun x H2 y => ?_⟩
      obtain ⟨T, c, rfl, nT, hc, rfl⟩ := y
      have hc' : z[i]? = some c := by simpa [sT] using hc
      have smT : Same Hk2 (upd Hk2 T (.tup [.int (i : Nat), .str ⟨#[c]⟩])) := same_new (p2.hold.kn.free nT)
      have p3 : Pt K (upd Hk2 T (.tup [.int (i : Nat), .str ⟨#[c]⟩])) O2 ds2 σ' (upd H' T (.tup [.int (i : Nat), .str ⟨#[c]⟩])) := p2.ext smT (p2.hold.know nT)
      refine ⟨T, [.int (i : Nat), .str ⟨#[c]⟩], rfl, .inl (.inl upd_same), rfl, .int (i : Nat), [.str ⟨#[c]⟩], rfl, .str ⟨#[c]⟩, [], rfl, rfl, ?_⟩
      have e4 := e.trans smT
      exact hs i c O2 ds2 hc' q _ .mk' _ _ _ _ ((p3.set (j := j1) (r := iV (i : Int)) (.int _)).set (j := j2) (r := .dat (.str (sT [c]))) (.str _)) ⟨fun O3 ds3 Hk3 σ3 H3 e3 p3 q3 => ⟨O3, ds3, Hk3, e4.trans e3, p3, q3⟩, l.rt.ext (e1.trans e4), l.nx.ext (e1.trans e4), fun O3 ds3 Hk3 σ3 H3 e3 p3 q3 => ⟨O3, ds3, Hk3, e4.trans e3, p3, q3⟩, l.xt.ext (e1.trans e4)⟩
    · have e2 : i = z.length := by omega
      subst e2
      exact .inl ⟨hz.symm, l.nx O2 ds2 Hk2 σ' H' (e1.trans e) p2 (hd O2 ds2 q)⟩
end
/-- xs + ys, what comes is owned -/
theorem g_catN {K : PySem.W.Frag} {O : Own} {x y : SD} {es fs : List PyData} {Q : SD → Own → Prop} (l1 : Lst O x es) (l2 : Lst O y fs) (hz : es.length + fs.length ≤ 1000000) (q : ∀ l, Q (.ad l) ((l, .lst ((es ++ fs).map .dat)) :: O)) : OpW K rCat x y O Q := fun Hk H h u v hu hv Q' k => by
  obtain ⟨a, xs, rfl, h1, h2⟩ := l1.get h hu
  obtain ⟨a2, ys, rfl, g1, g2⟩ := l2.get h hv
  exact ⟨_, _, xs, ys, rfl, rfl, h1, g1, by rw [h2.length, g2.length]; exact Nat.le_trans hz (by decide), fun l hf => k.newO h hf (h2.append g2) q⟩
end Wk
namespace Wk
open PySem PySem.Spec PyProof.Rows L2
abbrev dc2 (kx vx t0 i0 t1 i1 : Expr) (scope : Scope) (pos : Pos) : Expr := .DictComp kx vx [⟨t0, i0, [], 0⟩, ⟨t1, i1, [], 0⟩] scope pos
section
variable {prog : Program} {w : World} {A : Around} {R : Result → Shared → Prop} {s : Shared} {kx vx t0 i0 t1 i1 : Expr} {scope : Scope} {pos : Pos} {it acc : Value} {D : Addr} {env : Env}
/-- a turn of the first clause: store, the second source, its own loop -/
theorem turnD_out : compTurn (dc2 kx vx t0 i0 t1 i1 scope pos) 0 it acc env = (do
    standAt i0.pos
    match ← pyNext it with
    | none => pure (.done .next)
    | some v =>
      letOwnedTupleGo t0 it v
      assign t0 env v
      let x ← eval i1 env
      standAt i1.pos
      let x ← foldedSetIterable i1 env x
      let _ ← runOwn (.compStart (dc2 kx vx t0 i0 t1 i1 scope pos) 1 (← holding [x] (pyIter x)) acc env) env
      again (.compLoop (dc2 kx vx t0 i0 t1 i1 scope pos) 0 it acc env)) := by rfl
/-- a turn of the second: store, the key, the value, the dict's write -/
theorem turnD_in : compTurn (dc2 kx vx t0 i0 t1 i1 scope pos) 1 it (.ref D) env = (do
    standAt i1.pos
    match ← pyNext it with
    | none => pure (.done .next)
    | some v =>
      letOwnedTupleGo t1 it v
      assign t1 env v
      (do
        let kv ← eval kx env
        let vv ← holding [kv] (eval vx env)
        standAt { kx.pos with endLine := vx.pos.endLine, endCol := vx.pos.endCol }
        holding [kv, vv] (dictSet D kv vv))
      again (.compLoop (dc2 kx vx t0 i0 t1 i1 scope pos) 1 it (.ref D) env)) := by rfl
/-- what goes wrong in a turn: nothing that is stated here lets it -/
abbrev Bad (prog : Program) (w : World) (A : Around) (env : Env) (R : Result → Shared → Prop) : Value → Shared → Prop := notedBy (model prog w) A env fun e s' => R (.error e) s'
theorem loopD_out (hs : ∀ x, foldedSetIterable i1 env x = pure x) (I : Nat → Shared → Prop)
    (turn : ∀ n s, I n s → wpAny (model prog w) A (pyNext it) (fun r s₁ => match r with
      | none => R (.ok .next) s₁
      | some v => wpAny (model prog w) A (letOwnedTupleGo t0 it v) (fun _ s₂ => wpAny (model prog w) A (assign t0 env v) (fun _ s₃ =>
          wpAny (model prog w) A (eval i1 env) (fun x s₄ => wpAny (model prog w) A (pyIter x) (fun it1 s₅ =>
              codeAny (model prog w) A (.compStart (dc2 kx vx t0 i0 t1 i1 scope pos) 1 it1 acc env) (fun r s' => match r with
                | .ok _ => ∃ m, m < n ∧ I m s'
                | .error _ => False) s₅) (Bad prog w A env R) s₄) (Bad prog w A env R) s₃) (Bad prog w A env R) s₂) (Bad prog w A env R) s₁) (Bad prog w A env R) s)
    (n : Nat) (h : I n s) : codeAny (model prog w) A (.compLoop (dc2 kx vx t0 i0 t1 i1 scope pos) 0 it acc env) R s := by
  refine codeAny_loop rfl I (fun n s hI => ?_) n h
  show wpAny _ A ((compTurn (dc2 kx vx t0 i0 t1 i1 scope pos) 0 it acc env).onRaise (fun x => do noteFrame x env; theTreesLotGoes x)) _ _ s
  refine wpAny_noted ?_
  rw [turnD_out]
  refine wpAny_bind (wpAny_standAt (wpAny_bind (wpAny_mono (turn n s hI) (fun r s₁ h₁ => ?_) fun _ _ z => z)))
  match r, h₁ with
  | none, h₁ => exact wpAny_pure h₁
  | some v, h₁ =>
    refine wpAny_bind (wpAny_mono h₁ (fun _ s₂ h₂ => ?_) fun _ _ z => z)
    refine wpAny_bind (wpAny_mono h₂ (fun _ s₃ h₃ => ?_) fun _ _ z => z)
    refine wpAny_bind (wpAny_mono h₃ (fun x s₄ h₄ => ?_) fun _ _ z => z)
    refine wpAny_bind (wpAny_standAt (wpAny_bind (wpAny_of_eq (hs x) (wpAny_bind (wpAny_holding (wpAny_mono h₄ (fun it1 s₅ h₅ => ?_) fun _ _ z => z))))))
    refine wpAny_bind (wpAny_runOwn ?_)
    rw [Around.mark_none]
    refine codeAny_mono h₅ fun r s' hr => ?_
    match r, hr with
    | .ok f, hr => first | exact wpAny_pure ⟨rfl, hr⟩ | exact wpAny_bind (wpAny_pure (wpAny_pure ⟨rfl, hr⟩))
theorem loopD_in (I : Nat → Shared → Prop)
    (turn : ∀ n s, I n s → wpAny (model prog w) A (pyNext it) (fun r s₁ => match r with
      | none => R (.ok .next) s₁
      | some v => wpAny (model prog w) A (letOwnedTupleGo t1 it v) (fun _ s₂ => wpAny (model prog w) A (assign t1 env v) (fun _ s₃ =>
          wpAny (model prog w) A (eval kx env) (fun kv s₄ => wpAny (model prog w) A (eval vx env) (fun vv s₅ =>
            wpAny (model prog w) A (dictSet D kv vv) (fun _ s₆ => ∃ m, m < n ∧ I m s₆) (Bad prog w A env R) s₅) (Bad prog w A env R) s₄) (Bad prog w A env R) s₃) (Bad prog w A env R) s₂) (Bad prog w A env R) s₁) (Bad prog w A env R) s)
    (n : Nat) (h : I n s) : codeAny (model prog w) A (.compLoop (dc2 kx vx t0 i0 t1 i1 scope pos) 1 it (.ref D) env) R s := by
  refine codeAny_loop rfl I (fun n s hI => ?_) n h
  show wpAny _ A ((compTurn (dc2 kx vx t0 i0 t1 i1 scope pos) 1 it (.ref D) env).onRaise (fun x => do noteFrame x env; theTreesLotGoes x)) _ _ s
  refine wpAny_noted ?_
  rw [turnD_in]
  refine wpAny_bind (wpAny_standAt (wpAny_bind (wpAny_mono (turn n s hI) (fun r s₁ h₁ => ?_) fun _ _ z => z)))
  match r, h₁ with
  | none, h₁ => exact wpAny_pure h₁
  | some v, h₁ =>
    refine wpAny_bind (wpAny_mono h₁ (fun _ s₂ h₂ => ?_) fun _ _ z => z)
    refine wpAny_bind (wpAny_mono h₂ (fun _ s₃ h₃ => ?_) fun _ _ z => z)
    exact wpAny_bind (wpAny_bind (wpAny_mono h₃ (fun kv s₄ h₄ => wpAny_bind (wpAny_holding (wpAny_mono h₄ (fun vv s₅ h₅ => wpAny_bind (wpAny_standAt (wpAny_holding (wpAny_mono h₅ (fun _ s₆ h₆ => wpAny_pure ⟨rfl, h₆⟩) fun _ _ z => z)))) fun _ _ z => z))) fun _ _ z => z))
theorem startD_in (h0 : codeAny (model prog w) A (.compLoop (dc2 kx vx t0 i0 t1 i1 scope pos) 1 it acc env) R s)
    (h : wpAny (model prog w) A (pyIter it) (fun it' s' => codeAny (model prog w) A (.compLoop (dc2 kx vx t0 i0 t1 i1 scope pos) 1 it' acc env) R s') (Bad prog w A env R) s) :
    codeAny (model prog w) A (.compStart (dc2 kx vx t0 i0 t1 i1 scope pos) 1 it acc env) R s := by
  refine codeAny_of_tree ?_
  show wpAny _ _ ((compStart (dc2 kx vx t0 i0 t1 i1 scope pos) 1 it acc env).onRaise (fun x => do noteFrame x env; standAt theWindowsPlace)) _ _ s
  refine wpAny_notedAt ?_
  unfold compStart
  show wpAny _ _ (ask >>= _) _ _ s
  refine wpAny_bind (wpAny_askSetting (wpAny_ite ?_))
  split
  · first
      | exact wpAny_bind (wpAny_pure (wpAny_pure ⟨rfl, h0⟩))
      | exact wpAny_pure ⟨rfl, h0⟩
  · first
      | exact wpAny_bind (wpAny_rule (wpAny_bind (wpAny_standAt (wpAny_bind (wpAny_mono h (fun _ _ z => wpAny_pure ⟨rfl, z⟩) fun _ _ z => z)))))
      | (refine wpAny_bind (wpAny_rule ?_); show wpAny _ _ (standAt i1.pos >>= _) _ _ s; exact wpAny_bind (wpAny_standAt (wpAny_bind (wpAny_mono h (fun _ _ z => wpAny_pure ⟨rfl, z⟩) fun _ _ z => z))))
end
section
variable {X : Cx} {kx vx tg iter tg1 iter1 : Expr} {scope : Scope} {own : List (Str × Nat)} {vs1 : List Nat} {pos : Pos} {wi wi1 : TI} {g g1 : TG} {tk tv : TE}
/-- vs: the block's names, vs1: those of the second target; Nx: what holds where the next turn of the first clause begins -/
def tDc2 (wi : TI) (g : TG) (wi1 : TI) (g1 : TG) (tk tv : TE) (vs vs1 : List Nat) : TE := fun σ H Q => wi σ H fun J H1 => ∀ D, H1 D = none → ∃ W : Nat → Nat → Hp → Prop, (∃ m, W 0 m (upd H1 D (.dK []))) ∧ ∀ i m H, W i m H →
  (J.stop i H ∧ Q (.ref D) H) ∨ (J.go i H ∧ ∃ Nx : Hp → Prop, (∀ H', Nx H' → ∃ m', m' < m ∧ W (i + 1) m' H') ∧ ∀ x H', J.yld i H x H' → g x (wipe σ vs) H' fun σ2 H2 => wipe σ2 vs = wipe σ vs ∧
    wi1 σ2 H2 fun J1 H4 => ∃ W1 : Nat → Nat → Hp → Prop, (∃ m, W1 0 m H4) ∧ ∀ j k H, W1 j k H →
      (J1.stop j H ∧ Nx H) ∨ (J1.go j H ∧ ∃ N1 : Hp → Prop, (∀ H', N1 H' → ∃ k', k' < k ∧ W1 (j + 1) k' H') ∧ ∀ x H', J1.yld j H x H' → g1 x (wipe σ2 vs1) H' fun σ3 H5 => wipe σ3 vs1 = wipe σ2 vs1 ∧
        tk σ3 H5 fun y H6 => tv σ3 H6 fun z H7 => ∃ kvs key, y = kV key ∧ H7 D = some (.dK kvs) ∧ kvs.length < sizeLine ∧ N1 (upd H7 D (.dK (putK kvs key z)))))
theorem dc2Core {pins : List (Addr × Obj)} {s : Shared} {σ : L2.St} {H : Hp} {Q : VK} {pos' : Pos} {use : Option (Value → Sem Unit)} {Qf : Value → Shared → Prop} (hc : X.calm = true) (hN : X.N.Nodup) (hi : PI X tg iter wi) (ok : BlkOk X.N X.env.scope scope own) (hv : ∀ i ∈ vs1, i ∈ own.map (·.2))
    (hg : ∀ (s : Shared) (H : Hp) (C : Addr) (cl : List (Str × Addr)) (fp : List Addr), PG (X.blk s H scope (compEnvC scope cl C X.env) fp) tg g)
    (hi1 : ∀ (s : Shared) (H : Hp) (C : Addr) (cl : List (Str × Addr)) (fp : List Addr), PI (X.blk s H scope (compEnvC scope cl C X.env) fp) tg1 iter1 wi1)
    (hg1 : ∀ (s : Shared) (H : Hp) (C : Addr) (cl : List (Str × Addr)) (fp : List Addr), PG (X.blk s H scope (compEnvC scope cl C X.env) fp) tg1 g1)
    (hk : ∀ (s : Shared) (H : Hp) (C : Addr) (cl : List (Str × Addr)) (fp : List Addr), PE (X.blk s H scope (compEnvC scope cl C X.env) fp) kx tk)
    (hx : ∀ (s : Shared) (H : Hp) (C : Addr) (cl : List (Str × Addr)) (fp : List Addr), PE (X.blk s H scope (compEnvC scope cl C X.env) fp) vx tv)
    (hs : ∀ x, foldedSetIterable iter X.env x = pure x) (hs1 : ∀ env x, foldedSetIterable iter1 env x = pure x) (I : Inv X pins σ H s) (h : tDc2 wi g wi1 g1 tk tv (own.map (·.2)) vs1 σ H Q)
    (fin : ∀ D C s' m H', Inv X pins σ H' s' → Q (.ref D) H' → s'.heap.Ns C m → FpOk X pins H' C → compPost (model X.prog X.w) X.A X.xe use Qf (.ref D) C (.ok .next) s') :
    wpAny (model X.prog X.w) X.A (comprehension (dc2 kx vx tg iter tg1 iter1 scope pos) scope X.env pos' newDict false (eval iter X.env) use) Qf X.xe s := by
  -- the block: its closure, its first source, the new dict
  refine wpAny_comprehension_free (use := use) rfl hs (closure_ok fun y hy e => (ok.free y hy e).elim (fun k => I.ok.has _ (.inl k)) fun k => I.ok.has _ (.inr k)) ok.kind (fun y hy e => by rw [ok.uniq y hy, e])
    (thn (hi.run pins s σ H _ I h) fun xv s1 h1 => thn h1 fun itv s2 h2 => ?_)
  obtain ⟨it, fp, tn, J, H2, rfl, I2, T, st2, f2, q⟩ := h2
  refine wpAny_newObj_type (newEnv_comp ?_)
  generalize hD : s2.heap.objs.size = D
  obtain ⟨W, ⟨m0, w0⟩, turn⟩ := q D (I2.hok.fresh (Nat.le_of_eq hD))
  generalize hs3 : ({ s2 with heap := s2.heap.push { cls := .type "dict", data := .dict #[] } } : Shared) = s3
  have I3 : Inv X pins σ (upd H2 D (.dK [])) s3 := by
    subst hs3 hD
    exact I2.laid (t' := s2.toks) (fun b o e => Heap.get?_push_of_some _ e) (Nat.le_refl _) (dk_empty s2.heap I2.big)
  have up3 : ∀ b o, s2.heap.get? b = some o → s3.heap.get? b = some o := fun b o e => by
    subst hs3
    exact Heap.get?_push_of_some _ e
  have f3 : ∀ b ∈ fp, FpOk X pins (upd H2 D (.dK [])) b ∧ b < s3.heap.objs.size := fun b hb => by
    obtain ⟨o, e, _⟩ := T.obj _ _ st2 b hb
    have hlt := Heap.lt_size e
    refine ⟨⟨?_, (f2 b hb).2⟩, Heap.lt_size (up3 b o e)⟩
    rw [upd_ne (by rw [← hD]; exact Nat.ne_of_lt hlt)]
    exact (f2 b hb).1
  have I4 := block_start I3 ok hN f3
  have st3 : tn 0 s3.heap := T.keep _ _ _ st2 fun b _ o e => up3 b o e
  generalize hcl : cellsFrom (s3.heap.objs.size + 1) scope.names (cloFrom X.env.cells scope.names []) = cl at I4
  generalize hH3 : upd H2 D (.dK []) = H3 at I3 I4 w0 f3
  have pg := hg s3 H3 s3.heap.objs.size cl fp
  have pi1 := hi1 s3 H3 s3.heap.objs.size cl fp
  have pg1 := hg1 s3 H3 s3.heap.objs.size cl fp
  have pk := hk s3 H3 s3.heap.objs.size cl fp
  have px := hx s3 H3 s3.heap.objs.size cl fp
  show codeAny _ _ (.compStart (dc2 kx vx tg iter tg1 iter1 scope pos) 0 (.ref it) (.ref D) (compEnvC scope cl s3.heap.objs.size X.env)) (compPost (model X.prog X.w) X.A X.xe use Qf (.ref D) s3.heap.objs.size) { s3 with heap := pushCells (s3.heap.push { cls := .type "dict", data := .dict #[] }) scope.names }
  have nfp : ∀ b ∈ fp, H3 b = none := fun b hb => (f3 b hb).1.1
  generalize hce : compEnvC scope cl s3.heap.objs.size X.env = ce at I4 pg pi1 pg1 pk px ⊢
  have cL : ce.locals = s3.heap.objs.size := by subst hce; rfl
  generalize hs4 : ({ s3 with heap := pushCells (s3.heap.push { cls := .type "dict", data := .dict #[] }) scope.names } : Shared) = s4 at I4 ⊢
  have st4 : tn 0 s4.heap := T.keep _ _ _ st3 fun b _ o e => by rw [← hs4]; exact pushCells_keeps _ _ _ _ (Heap.get?_push_of_some _ e)
  -- what holds where a turn of the first clause begins
  let In : Nat → Shared → Prop := fun n s' => ∃ i H', Inv (X.blk s3 H3 scope ce fp) [] (wipe σ (own.map (·.2))) H' s' ∧ tn i s'.heap ∧ (∀ b ∈ fp, H' b = none) ∧ W i n H'
  have pinned : ∀ {σ' : L2.St} {H' : Hp} {s' : Shared}, Inv (X.blk s3 H3 scope ce fp) [] σ' H' s' → (∀ b ∈ fp, H' b = none) → ∀ b ∈ fp, FpOk (X.blk s3 H3 scope ce fp) [] H' b := fun I' hn b hb =>
    ⟨hn b hb, (I'.ok.exf b hb).1, I'.ok.exfs b hb, .inl hb, fun x c e => (I'.ok.exf b hb).2 x c e, fun p hp => absurd hp List.not_mem_nil⟩
  have loop : codeAny (model X.prog X.w) X.A (.compLoop (dc2 kx vx tg iter tg1 iter1 scope pos) 0 (.ref it) (.ref D) ce) (compPost (model X.prog X.w) X.A X.xe use Qf (.ref D) s3.heap.objs.size) s4 := by
    refine loopD_out (hs1 ce) In ?_ m0 ⟨0, H3, I4, st4, nfp, w0⟩
    rintro n s5 ⟨i, H5, I5, st5, n5, w5⟩
    rcases turn i n H5 w5 with ⟨stop, qq⟩ | ⟨go, Nx, hNx, step⟩
    · -- the end: back in the def
      refine thnF (T.done (X.blk s3 H3 scope ce fp) rfl rfl rfl hc i [] s5 _ H5 (fun _ _ => False) I5 (pinned I5 n5) st5 stop) fun r s6 ⟨hr, I6⟩ => ?_
      subst hr
      have I7 : Inv X pins σ H5 s6 := I3.call' (ch := fp) I6.os I6.base I6.hok I6.bare fun b hb => have z := (f3 b hb).1.2; ⟨z.2.2.1, z.1, z.2.2.2.1, z.2.2.2.2⟩
      have nC : H5 s3.heap.objs.size = none := by
        rw [← cL]
        exact I6.free
      obtain ⟨m, hn, _⟩ := I6.loc
      have hn : s6.heap.Ns ce.locals m := hn
      rw [cL] at hn
      exact fin D s3.heap.objs.size s6 m H5 I7 qq hn (I3.fpOk (Nat.le_refl _) nC)
    · refine thnF (T.item (X.blk s3 H3 scope ce fp) rfl rfl rfl hc i [] s5 _ H5 (fun _ _ => False) I5 (pinned I5 n5) st5 go) fun r s6 ⟨u, hr, h6⟩ => ?_
      subst hr
      refine thnF h6 fun _ s7 ⟨x, H7, I7, r7, y7, st7, n7⟩ => ?_
      refine thnF (pg.run _ s7 _ H7 x u _ (I7.pinned (pinned I7 n7) (T.obj _ _ st7)) r7 (step x H7 y7)) fun _ s8 ⟨σ8, H8, I8, hw8, q8⟩ => ?_
      have hl8 : (wipe σ (own.map (·.2))).length = σ8.length := by rw [← hw8, wipe_length]
      have hk9 : ∀ (j : Nat) v, (wipe σ (own.map (·.2)))[j]? = some (some v) → (wipe σ8 vs1)[j]? = some (some v) := fun j v e => by
        rw [← hw8] at e
        obtain ⟨e1, e2⟩ := wipe_some e
        rw [wipe_out fun z => e2 (hv j z)]
        exact e1
      -- the next turn, from any slots that know what the block knew
      have next : ∀ {σ9 : L2.St} {s' : Shared} {H' : Hp}, Inv (X.blk s3 H3 scope ce fp) ([] ++ pinsAt fp s7.heap) σ9 H' s' → (wipe σ (own.map (·.2))).length = σ9.length → (∀ (j : Nat) v, (wipe σ (own.map (·.2)))[j]? = some (some v) → σ9[j]? = some (some v)) → Nx H' → ∃ m, m < n ∧ In m s' := fun {σ9 s' H'} I' hl hk nx => by
        obtain ⟨m', hm, w'⟩ := hNx H' nx
        have pin : ∀ b ∈ fp, ∀ o, s7.heap.get? b = some o → s'.heap.get? b = some o ∧ H' b = none := fun b hb o e =>
          have z := I'.pin (b, o) (List.mem_append_right _ (List.mem_append_right _ (mem_pinsAt hb e)))
          ⟨z.1, z.2.1⟩
        refine ⟨m', hm, i + 1, H', (I'.unpinned (pins := [])).weak hl hk, T.keep _ _ _ st7 fun b hb o e => (pin b hb o e).1, fun b hb => ?_, w'⟩
        obtain ⟨o, e, _⟩ := T.obj _ _ st7 b hb
        exact (pin b hb o e).2
      refine thnF (pi1.run _ s8 σ8 H8 _ I8 q8) fun xv s10 h10 => thnF h10 fun itv s11 h11 => ?_
      obtain ⟨it1, fp1, tn1, J1, H11, rfl, I11, T1, st11, f11, W1, ⟨m1, w1⟩, turn1⟩ := h11
      have pinned1 : ∀ {H' : Hp}, (∀ b ∈ fp1, H' b = none) → ∀ b ∈ fp1, FpOk (X.blk s3 H3 scope ce fp) ([] ++ pinsAt fp s7.heap) H' b := fun hn b hb => ⟨hn b hb, (f11 b hb).2⟩
      have loop1 : codeAny (model X.prog X.w) X.A (.compLoop (dc2 kx vx tg iter tg1 iter1 scope pos) 1 (.ref it1) (.ref D) ce) (fun r s' => match r with
          | .ok _ => ∃ m, m < n ∧ In m s'
          | .error _ => False) s11 := by
        refine loopD_in (fun k s' => ∃ j H', Inv (X.blk s3 H3 scope ce fp) ([] ++ pinsAt fp s7.heap) (wipe σ8 vs1) H' s' ∧ tn1 j s'.heap ∧ (∀ b ∈ fp1, H' b = none) ∧ W1 j k H') ?_ m1 ⟨0, H11, I11.weak (wipe_length _ _) (fun j v e => (wipe_some e).1), st11, fun b hb => (f11 b hb).1, w1⟩
        rintro k s12 ⟨j, H12, I12, st12, n12, w12⟩
        rcases turn1 j k H12 w12 with ⟨stop1, nx1⟩ | ⟨go1, N1, hN1, step1⟩
        · refine thnF (T1.done (X.blk s3 H3 scope ce fp) rfl rfl rfl hc j _ s12 (wipe σ8 vs1) H12 (fun _ _ => False) I12 (pinned1 n12) st12 stop1) fun r s13 ⟨hr, I13⟩ => ?_
          subst hr
          exact next I13 (hl8.trans (wipe_length σ8 vs1).symm) hk9 nx1
        · refine thnF (T1.item (X.blk s3 H3 scope ce fp) rfl rfl rfl hc j _ s12 (wipe σ8 vs1) H12 (fun _ _ => False) I12 (pinned1 n12) st12 go1) fun r s13 ⟨u1, hr, h13⟩ => ?_
          subst hr
          refine thnF h13 fun _ s14 ⟨x1, H14, I14, r14, y14, st14, n14⟩ => ?_
          refine thnF (pg1.run _ s14 (wipe σ8 vs1) H14 x1 u1 _ (I14.pinned (pinned1 n14) (T1.obj _ _ st14)) r14 (step1 x1 H14 y14)) fun _ s15 ⟨σ15, H15, I15, hw15, q15⟩ => ?_
          refine thnF (pk.run _ s15 σ15 H15 _ I15 q15) fun z s16 ⟨yk, H16, I16, r16, q16⟩ => ?_
          refine thnF (px.run _ s16 σ15 H16 _ I16 q16) fun z2 s17 ⟨yv, H17, I17, r17, kvs, key, ek, hD17, hz17, nx⟩ => ?_
          subst ek
          refine d_dictSet (X := X.blk s3 H3 scope ce fp) I17 hD17 hz17 r16 r17 fun s18 I18 => ?_
          obtain ⟨m', hm, w'⟩ := hN1 _ nx
          have pin : ∀ b ∈ fp1, ∀ o, s14.heap.get? b = some o → s18.heap.get? b = some o ∧ (upd H17 D (.dK (putK kvs key yv))) b = none := fun b hb o e =>
            have z := I18.pin (b, o) (List.mem_append_right _ (List.mem_append_right _ (mem_pinsAt hb e)))
            ⟨z.1, z.2.1⟩
          refine ⟨m', hm, j + 1, _, I18.unpinned.weak (by rw [← hw15, wipe_length]) (fun j v e => by rw [← hw15] at e; exact (wipe_some e).1), T1.keep _ _ _ st14 fun b hb o e => (pin b hb o e).1, fun b hb => ?_, w'⟩
          obtain ⟨o, e, _⟩ := T1.obj _ _ st14 b hb
          exact (pin b hb o e).2
      exact startD_in loop1 (T1.self X.A 0 _ _ _ st11 loop1)
  exact codeAny_compStart_dict loop (T.self X.A 0 _ _ _ st4 loop)
/-- y = {k: v for .. in .. for .. in ..} -/
theorem psSetDc2 {i : Nat} {y : Str} {py spos : Pos} (hy : X.N[i]? = some y) (hyl : X.env.scope.names.lookup y = some .local) (hsw : swapsWith (dc2 kx vx tg iter tg1 iter1 scope pos) (some (.Name y py)) spos.line X.env = pure true) (hc : X.calm = true) (hN : X.N.Nodup) (hi : PI X tg iter wi) (ok : BlkOk X.N X.env.scope scope own) (hv : ∀ i ∈ vs1, i ∈ own.map (·.2))
    (hg : ∀ (s : Shared) (H : Hp) (C : Addr) (cl : List (Str × Addr)) (fp : List Addr), PG (X.blk s H scope (compEnvC scope cl C X.env) fp) tg g)
    (hi1 : ∀ (s : Shared) (H : Hp) (C : Addr) (cl : List (Str × Addr)) (fp : List Addr), PI (X.blk s H scope (compEnvC scope cl C X.env) fp) tg1 iter1 wi1)
    (hg1 : ∀ (s : Shared) (H : Hp) (C : Addr) (cl : List (Str × Addr)) (fp : List Addr), PG (X.blk s H scope (compEnvC scope cl C X.env) fp) tg1 g1)
    (hk : ∀ (s : Shared) (H : Hp) (C : Addr) (cl : List (Str × Addr)) (fp : List Addr), PE (X.blk s H scope (compEnvC scope cl C X.env) fp) kx tk)
    (hx : ∀ (s : Shared) (H : Hp) (C : Addr) (cl : List (Str × Addr)) (fp : List Addr), PE (X.blk s H scope (compEnvC scope cl C X.env) fp) vx tv)
    (hs : ∀ x, foldedSetIterable iter X.env x = pure x := by intro _; rfl) (hs1 : ∀ env x, foldedSetIterable iter1 env x = pure x := by intro _ _; rfl) :
    PS X (.Assign [.Name y py] (dc2 kx vx tg iter tg1 iter1 scope pos) spos) (tAsg (tDc2 wi g wi1 g1 tk tv (own.map (·.2)) vs1) (gName i)) := by
  refine ⟨fun pins s σ H D I h => ?_⟩
  rw [exec_Assign_Name_used _ _ _ _ hsw]
  refine wpAny_bind (wpAny_standAt (wpAny_bind ?_))
  show wpAny _ X.A (do let _ ← comprehension (dc2 kx vx tg iter tg1 iter1 scope pos) scope X.env (firstIterPos [⟨tg, iter, [], 0⟩, ⟨tg1, iter1, [], 0⟩] pos) newDict false (eval iter X.env) (some (assign (.Name y py) X.env))) _ _ s
  have h : tDc2 wi g wi1 g1 tk tv (own.map (·.2)) vs1 σ H (fun x H1 => gName i x σ H1 D.nx) := h
  refine wpAny_bind (thn (dc2Core (Qf := fun _ s' => SP X pins D .next s') hc hN hi ok hv hg hi1 hg1 hk hx hs hs1 I h fun L C s' m H' I' q hn f => ?_) fun _ s' hq => wpAny_pure (wpAny_pure hq))
  show wpAny _ _ (assign (.Name y py) X.env (.ref L)) _ _ _
  refine wpAny_assign_Name (store_ok2 (v := V.ref L) I' hN hy (.inl hyl) rfl (fun s2 I2 ⟨a, sb, ha⟩ => ?_) (.inr hyl))
  obtain ⟨f0, f1, _, f3, f4, f5⟩ := f
  have hne : C ≠ a := ha.elim (fun z => by rw [z]; exact f1) fun z e => f4 y a z e.symm
  exact ⟨m, hn.sameBut sb hne, fun h3 sb3 => ⟨_, H', I2.turned (t' := s2.toks) (fun b o hb e => (sb3.2 b hb).trans e) f0 f1 f3 f4 f5, q⟩⟩
theorem swD_true {py : Pos} {y : Str} {l : Nat} {env : Env} (hk : env.blockKind = .function) (hy : env.kindOf y = some .local) (hl : py.line = pos.line)
    (hn : (scope.names.any fun x => x.1 == y && (x.2 == .local || x.2 == .cell)) = false) : swapsWith (dc2 kx vx tg iter tg1 iter1 scope pos) (some (.Name y py)) l env = pure true := by
  have h3 : (py.line == pos.line) = true := by rw [hl]; simp
  show (pure (env.blockKind == ScopeKind.function && env.kindOf y == some NameKind.local && py.line == pos.line && !(scope.names.any fun x => x.1 == y && (x.2 == .local || x.2 == .cell))) : Sem Bool) = pure true
  rw [hk, hy, h3, hn]
  rfl
end
/-! ### the dict of the rows in which numbers stand: {v: i + 1 for i, row in enumerate(t) for v in row} -/
abbrev diO (kvs : List (Key × V)) : OD := .obj (.dK kvs) [] []
def addK (kvs : List (Key × V)) (i : Nat) (r : List Int) : List (Key × V) := r.foldl (fun kvs v => putK kvs (.inl v) (V.int ((i : Int) + 1))) kvs
def rowK (T : List (List Int)) : Nat → List (Key × V)
  | 0 => []
  | i + 1 => addK (rowK T i) i (T.getD i [])
theorem addK_snoc (kvs : List (Key × V)) (i : Nat) (r : List Int) (v : Int) : addK kvs i (r ++ [v]) = putK (addK kvs i r) (.inl v) (V.int ((i : Int) + 1)) := by
  rw [addK, List.foldl_append]
  rfl
theorem addK_len (i : Nat) : ∀ (r : List Int) (kvs : List (Key × V)), (addK kvs i r).length ≤ kvs.length + r.length
  | [], kvs => Nat.le_refl _
  | v :: r, kvs => by
    have h1 := addK_len i r (putK kvs (.inl v) (V.int ((i : Int) + 1)))
    have h2 := length_putK kvs (Sum.inl v : Key) (V.int ((i : Int) + 1))
    show (addK (putK kvs (.inl v) (V.int ((i : Int) + 1))) i r).length ≤ kvs.length + (r.length + 1)
    omega
theorem rowK_len (T : List (List Int)) (m : Nat) (h : ∀ r ∈ T, r.length ≤ m) : ∀ i, (rowK T i).length ≤ i * m
  | 0 => Nat.zero_le _
  | i + 1 => by
    have h1 := addK_len i (T.getD i []) (rowK T i)
    have h2 := rowK_len T m h i
    have h3 : (T.getD i []).length ≤ m := by
      rw [List.getD_eq_getElem?_getD]
      cases e : T[i]? with
      | none => exact Nat.zero_le _
      | some r => exact h r (List.mem_of_getElem? e)
    show (addK (rowK T i) i (T.getD i [])).length ≤ (i + 1) * m
    rw [Nat.add_mul, Nat.one_mul]
    omega
theorem wipe_in {σ : L2.St} {i : Nat} : ∀ {vs : List Nat}, i ∈ vs → i < σ.length → (wipe σ vs)[i]? = some none
  | [], h, _ => absurd h List.not_mem_nil
  | v :: vs, h, hl => by
    unfold wipe
    by_cases e : v = i
    · subst e
      rw [List.getElem?_set_self (by rw [wipe_length]; exact hl)]
    · rw [List.getElem?_set_ne e]
      rcases List.mem_cons.mp h with z | z
      · exact absurd z.symm e
      · exact wipe_in z hl
theorem wipe_same {σ σ2 : L2.St} {vs : List Nat} (hl : σ2.length = σ.length) (h : ∀ i, i ∉ vs → σ2[i]? = σ[i]?) : wipe σ2 vs = wipe σ vs := by
  refine List.ext_getElem? fun i => ?_
  by_cases hi : i ∈ vs
  · by_cases hlt : i < σ.length
    · rw [wipe_in hi (by rw [hl]; exact hlt), wipe_in hi hlt]
    · rw [List.getElem?_eq_none (by rw [wipe_length]; omega), List.getElem?_eq_none (by rw [wipe_length]; omega)]
  · rw [wipe_out hi, wipe_out hi, h i hi]
section
variable {K : PySem.W.Frag} {Hk Hk' H H' : Hp} {O O' : Own} {ds : List SD} {σ : L2.St} {Q : SD → Own → Prop} {A : AE}
theorem w_rowD {ta : TA} {j1 j2 j3 : Nat} (h12 : j1 ≠ j2) (h13 : j1 ≠ j3) (h23 : j2 ≠ j3) (l1 : j1 < ds.length) (l2 : j2 < ds.length) (l3 : j3 < ds.length)
    (h : AvW K ta O ds fun rs O1 => ∃ T : List (List Int), rs = [.dat (.tuple (T.map fun r => .tuple (r.map .int)))] ∧ T.length ≤ 1000 ∧ (∀ r ∈ T, r.length ≤ 1000) ∧ ∀ D, Q (.ad D) ((D, diO (rowK T T.length)) :: O1)) :
    EvW K (tDc2 (iEnumT K ta) (gTup K 2 (gCons (gName j1) (gCons (gName j2) gNil))) (iTup K (tVar j2)) (gName j3) (tVar j3) (tOp (rI0 fun i j => V.int (i + j)) (tVar j1) (tC (V.int 1))) [j1, j2, j3] [j3]) O ds Q := fun Hk σ H p Q' k =>
  h Hk σ H p _ fun vs rs O1 Hk1 H1 e1 h1 s1 q1 => by
    obtain ⟨T, rfl, hT, hr, q⟩ := q1
    obtain ⟨v, rfl, hv⟩ := all1 s1
    have hσ : σ.length = ds.length := p.len
    cases (show Da Hk1 v (.tuple (T.map fun r => .tuple (r.map .int))) from hv) with
    | @tup a xs _ g1 g2 =>
    have hxl : xs.length = T.length := by rw [g2.length, List.length_map]
    refine ⟨a, xs, rfl, .inl (.inl (h1.kn _ _ g1)), fun D hf => ?_⟩
    refine ⟨fun i m H => m = T.length - i ∧ i ≤ T.length ∧ ∃ Hk2, Same Hk1 Hk2 ∧ Hold K Hk2 ((D, diO (rowK T i)) :: O1) H, ⟨T.length, by simp, Nat.zero_le _, Hk1, Same.refl _, h1.ownG (x := diO []) hf ⟨upd_same, .nil⟩⟩, ?_⟩
    rintro i m H2 ⟨rfl, hi, Hk2, e2, hh⟩
    have sq : SqT K H2 a xs := .inl (.inl (hh.kn _ _ (e2 _ _ g1)))
    by_cases hlt : i < T.length
    · have hx : xs[i]? = some xs[i] := List.getElem?_eq_getElem (by omega)
      refine .inr ⟨⟨xs, xs[i], sq, hx⟩, fun H3 => ∃ Hk3, Same Hk1 Hk3 ∧ Hold K Hk3 ((D, diO (rowK T (i + 1))) :: O1) H3, fun H3 hN => ⟨T.length - (i + 1), by omega, rfl, hlt, hN⟩, fun x H3 y => ?_⟩
      obtain ⟨t, x', rfl, nt, rfl, fx⟩ := y
      have ex : x' = xs[i] := by
        have := fx xs sq
        rw [hx] at this
        exact (Option.some.inj this).symm
      obtain ⟨d, hd1, hd2⟩ := g2.getV hx
      have ed : d = .tuple (T[i].map .int) := by
        rw [List.getElem?_map, List.getElem?_eq_getElem hlt] at hd1
        exact (Option.some.inj hd1).symm
      subst ed
      have smT : Same Hk2 (upd Hk2 t (.tup [.int (i : Nat), x'])) := same_new (hh.kn.free nt)
      have hh2 : Hold K (upd Hk2 t (.tup [.int (i : Nat), x'])) ((D, diO (rowK T i)) :: O1) (upd H2 t (.tup [.int (i : Nat), x'])) := hh.know nt
      generalize hHt : upd H2 t (.tup [.int (i : Nat), x']) = Ht at hh2 ⊢
      have htt : Ht t = some (.tup [.int (i : Nat), x']) := by rw [← hHt]; exact upd_same
      refine ⟨t, [.int (i : Nat), x'], rfl, .inl (.inl htt), rfl, .int (i : Nat), [x'], rfl, x', [], rfl, rfl, ?_⟩
      have e4 := e2.trans smT
      generalize hHk4 : upd Hk2 t (.tup [.int (i : Nat), x']) = Hk4 at hh2 e4
      have hdx : Da Hk4 x' (.tuple (T[i].map .int)) := by
        have := Da.mono e4 hd2
        rw [← ex] at this
        exact this
      generalize hs2 : ((wipe σ [j1, j2, j3]).set j1 (some (V.int (i : Nat)))).set j2 (some x') = σ2
      have hl2 : σ2.length = σ.length := by rw [← hs2, List.length_set, List.length_set, wipe_length]
      have w1 : σ2[j1]? = some (some (V.int (i : Nat))) := by
        rw [← hs2, List.getElem?_set_ne (Ne.symm h12), List.getElem?_set_self (by rw [wipe_length]; omega)]
      have w2 : σ2[j2]? = some (some x') := by
        rw [← hs2, List.getElem?_set_self (by rw [List.length_set, wipe_length]; omega)]
      refine ⟨wipe_same hl2 fun z hz => ?_, ?_⟩
      · have z1 : j1 ≠ z := fun e => hz (by rw [← e]; exact List.mem_cons_self)
        have z2 : j2 ≠ z := fun e => hz (by rw [← e]; exact List.mem_cons_of_mem _ List.mem_cons_self)
        rw [← hs2, List.getElem?_set_ne z2, List.getElem?_set_ne z1, wipe_out hz]
      have hrl : (T[i]).length ≤ 1000 := hr _ (List.getElem_mem hlt)
      have hKl : (rowK T i).length ≤ i * 1000 := rowK_len T 1000 hr i
      have hgi : T.getD i [] = T[i] := by rw [List.getD_eq_getElem?_getD, List.getElem?_eq_getElem hlt]; rfl
      cases hdx with
      | @tup b ys _ b1 b2 =>
      obtain rfl : ys = (T[i]).map V.int := b2.ints
      have sq4 : ∀ {Hk5 H5 : Hp}, Same Hk4 Hk5 → Same Hk5 H5 → SqT K H5 b ((T[i]).map V.int) := fun a1 a2 => .inl (.inl (a2 _ _ (a1 _ _ b1)))
      refine ⟨.ref b, w2, b, rfl, ⟨_, sq4 (Same.refl _) hh2.kn⟩, fun j k H => k = (T[i]).length - j ∧ j ≤ (T[i]).length ∧ ∃ Hk5, Same Hk4 Hk5 ∧ Hold K Hk5 ((D, diO (addK (rowK T i) i ((T[i]).take j))) :: O1) H, ⟨(T[i]).length, by simp, Nat.zero_le _, Hk4, Same.refl _, hh2⟩, ?_⟩
      rintro j m5 H5 ⟨rfl, hj, Hk5, e5, hh5⟩
      have sq5 := sq4 e5 hh5.kn
      by_cases hjl : j < (T[i]).length
      · have hy : ((T[i]).map V.int)[j]? = some (V.int (T[i])[j]) := by rw [List.getElem?_map, List.getElem?_eq_getElem hjl]; rfl
        refine .inr ⟨⟨_, _, sq5, hy⟩, fun H6 => ∃ Hk6, Same Hk4 Hk6 ∧ Hold K Hk6 ((D, diO (addK (rowK T i) i ((T[i]).take (j + 1)))) :: O1) H6, fun H6 hN => ⟨(T[i]).length - (j + 1), by omega, rfl, hjl, hN⟩, ?_⟩
        rintro x5 H6 ⟨rfl, fx5⟩
        obtain rfl : x5 = V.int (T[i])[j] := by
          have := fx5 _ sq5
          rw [hy] at this
          exact (Option.some.inj this).symm
        have n3 : (wipe σ2 [j3])[j1]? = σ2[j1]? := wipe_out fun z => h13 (List.mem_singleton.mp z)
        refine ⟨wipe_same (by rw [List.length_set, wipe_length]) fun z hz => ?_, .int (T[i])[j], List.getElem?_set_self (by rw [wipe_length]; omega), .int (i : Nat), ?_, (i : Nat), 1, rfl, rfl, _, .inl (T[i])[j], rfl, (hh5.ow _ List.mem_cons_self).1.1, ?_, Hk5, e5, ?_⟩
        · rw [List.getElem?_set_ne (fun e => hz (by rw [e]; exact List.mem_cons_self)), wipe_out hz]
        · rw [List.getElem?_set_ne (Ne.symm h13), n3]
          exact w1
        · have h7 := addK_len i ((T[i]).take j) (rowK T i)
          rw [List.length_take] at h7
          exact Nat.lt_of_le_of_lt (show _ ≤ 1001000 by omega) (by decide)
        · rw [List.take_succ, List.getElem?_eq_getElem hjl]
          show Hold K Hk5 ((D, diO (addK (rowK T i) i ((T[i]).take j ++ [(T[i])[j]]))) :: O1) _
          rw [addK_snoc]
          exact hh5.writeG (y := diO _) ⟨upd_same, .nil⟩
      · have ej : j = (T[i]).length := by omega
        subst ej
        refine .inl ⟨⟨_, sq5, by rw [List.length_map]; exact Nat.le_refl _⟩, Hk5, e4.trans e5, ?_⟩
        rw [List.take_length] at hh5
        show Hold K Hk5 ((D, diO (addK (rowK T i) i (T.getD i []))) :: O1) _
        rw [hgi]
        exact hh5
    · have ei : i = T.length := by omega
      subst ei
      exact .inl ⟨⟨xs, sq, by omega⟩, k _ (.ad D) _ Hk2 H2 (e1.trans e2) hh rfl (q D)⟩
/-- d[e], d owned, its keys ints -/
theorem w_dgetI {td ty : TE} (h : EvW K td O ds fun r O1 => EvW K ty O1 ds fun r2 O2 => ∃ a kvs n v, r = .ad a ∧ (a, diO kvs) ∈ O2 ∧ r2 = iV n ∧ valV kvs (.inl n) = some (V.int v) ∧ Q (iV v) O2) : EvW K (tDGet td ty) O ds Q := fun Hk σ H p Q' k =>
  h Hk σ H p _ fun v r O1 Hk1 H1 e1 h1 s1 q1 => q1 Hk1 σ H1 (p.ext e1 h1) _ fun v2 r2 O2 Hk2 H2 e2 h2 s2 q2 => by
    obtain ⟨a, kvs, n, x, rfl, hm, rfl, hv, q⟩ := q2
    cases (show v = .ref a from s1)
    cases (show Da Hk2 v2 (.int n) from s2)
    have g := DGet.k (k := (.inl n : Key)) (h2.ow _ hm).1.1
    rw [hv] at g
    exact ⟨a, V.int x, rfl, g, k _ (iV x) O2 Hk2 H2 (e1.trans e2) h2 (.int x) q⟩
/-- sorted(d), d owned, its keys ints -/
def rSortedD : List V → Hp → VK → Prop := fun xs H Q => ∃ (a : Addr) (kvs : List (Key × V)) (ks : List Int), xs = [.ref a] ∧ Rd H a (.dK kvs) ∧ kvs.map (·.1) = ks.map Sum.inl ∧ ks.length < 64 ∧ ∀ (ys : List Int) (p : Addr), ys.Perm ks → ys.Pairwise (· ≤ ·) → H p = none → Q (.ref p) (upd H p (.lst (ys.map V.int)))
theorem kSortedD {X : Cx} (hc : X.calm = true) : CallR X (.builtin "sorted") rSortedD := call_sortedDI hc
theorem g_sortedD {a : Addr} {kvs : List (Key × V)} {ks : List Int} (hm : (a, diO kvs) ∈ O) (hk : kvs.map (·.1) = ks.map Sum.inl) (hl : ks.length < 64) (q : ∀ ms : List Int, ms.Perm ks → ms.Pairwise (· ≤ ·) → Q (.dat (.list (ms.map .int))) O) : CbW K rSortedD [.ad a] O Q := fun Hk H h us hus Q' k => by
  obtain ⟨u, rfl, hu⟩ := all1 hus
  cases (show u = .ref a from hu)
  exact ⟨a, kvs, ks, rfl, .inl (h.ow _ hm).1.1, hk, hl, fun ms p hp hs hf => k.newD h hf (DaAll.of_ints ms) (q ms hp hs)⟩
end
/-! ### what the dict of rows holds -/
open Classical in
theorem putK_keys (kvs : List (Key × V)) (k : Key) (v : V) : (putK kvs k v).map (·.1) = if k ∈ kvs.map (·.1) then kvs.map (·.1) else kvs.map (·.1) ++ [k] := by
  unfold putK
  by_cases h : k ∈ kvs.map (·.1)
  · have e : (kvs.any fun kv => decide (kv.1 = k)) = true := by
      obtain ⟨p, hp, e⟩ := List.mem_map.mp h
      exact List.any_eq_true.mpr ⟨p, hp, decide_eq_true e⟩
    rw [if_pos e, if_pos h, List.map_map]
    refine List.map_congr_left fun p _ => ?_
    show (if p.1 = k then (p.1, v) else p).1 = p.1
    split <;> rfl
  · have e : ¬ (kvs.any fun kv => decide (kv.1 = k)) = true := fun z => by
      obtain ⟨p, hp, e⟩ := List.any_eq_true.mp z
      exact h (List.mem_map.mpr ⟨p, hp, of_decide_eq_true e⟩)
    rw [if_neg e, if_neg h, List.map_append]
    rfl
theorem addK_val (i : Nat) (v : Int) : ∀ (r : List Int) (kvs : List (Key × V)), valV (addK kvs i r) (.inl v) = if v ∈ r then some (V.int ((i : Int) + 1)) else valV kvs (.inl v)
  | [], kvs => by rw [if_neg List.not_mem_nil]; rfl
  | x :: r, kvs => by
    show valV (addK (putK kvs (.inl x) (V.int ((i : Int) + 1))) i r) (.inl v) = _
    rw [addK_val i v r, valV_put]
    by_cases h1 : v ∈ r
    · rw [if_pos h1, if_pos (List.mem_cons_of_mem _ h1)]
    · by_cases h2 : v = x
      · subst h2
        rw [if_neg h1, if_pos rfl, if_pos List.mem_cons_self]
      · rw [if_neg h1, if_neg fun e => h2 (Sum.inl.inj e), if_neg fun z => (List.mem_cons.mp z).elim h2 h1]
theorem rowK_val (T : List (List Int)) (v : Int) (i : Nat) (hv : v ∈ T.getD i []) (hu : ∀ j, v ∈ T.getD j [] → j = i) : ∀ n, i < n → valV (rowK T n) (.inl v) = some (V.int ((i : Int) + 1))
  | 0, h => absurd h (Nat.not_lt_zero _)
  | n + 1, h => by
    show valV (addK (rowK T n) n (T.getD n [])) (.inl v) = _
    rw [addK_val]
    by_cases e : n = i
    · subst e
      rw [if_pos hv]
    · rw [if_neg fun z => e (hu n z)]
      exact rowK_val T v i hv hu n (by omega)
theorem addK_keys (i : Nat) : ∀ (r : List Int) (kvs : List (Key × V)) (ks : List Int), kvs.map (·.1) = ks.map Sum.inl → ks.Nodup → ∃ ks2 : List Int, (addK kvs i r).map (·.1) = ks2.map Sum.inl ∧ ks2.Nodup ∧ ∀ v, v ∈ ks2 ↔ v ∈ ks ∨ v ∈ r
  | [], kvs, ks, h, hn => ⟨ks, h, hn, fun v => ⟨.inl, fun z => z.elim id fun z => absurd z List.not_mem_nil⟩⟩
  | x :: r, kvs, ks, h, hn => by
    have hk := putK_keys kvs (.inl x) (V.int ((i : Int) + 1))
    rw [h] at hk
    have hin : (Sum.inl x : Key) ∈ (ks.map Sum.inl : List Key) ↔ x ∈ ks := ⟨fun z => by
      obtain ⟨y, hy, e⟩ := List.mem_map.mp z
      rw [← Sum.inl.inj e]
      exact hy, fun z => List.mem_map.mpr ⟨x, z, rfl⟩⟩
    by_cases hx : x ∈ ks
    · rw [if_pos (hin.mpr hx)] at hk
      obtain ⟨ks2, g1, g2, g3⟩ := addK_keys i r _ ks hk hn
      refine ⟨ks2, g1, g2, fun v => ⟨fun z => ?_, fun z => ?_⟩⟩
      · exact ((g3 v).mp z).elim .inl fun z => .inr (List.mem_cons_of_mem _ z)
      · refine (g3 v).mpr (z.elim .inl fun z => ?_)
        rcases List.mem_cons.mp z with rfl | z
        · exact .inl hx
        · exact .inr z
    · rw [if_neg fun z => hx (hin.mp z)] at hk
      have hk2 : (putK kvs (.inl x) (V.int ((i : Int) + 1))).map (·.1) = ((ks ++ [x]).map Sum.inl : List Key) := by
        rw [hk, List.map_append]
        rfl
      obtain ⟨ks2, g1, g2, g3⟩ := addK_keys i r _ (ks ++ [x]) hk2 (List.nodup_append.mpr ⟨hn, List.nodup_cons.mpr ⟨List.not_mem_nil, List.nodup_nil⟩, fun a ha b hb e => hx (by rw [List.mem_singleton.mp hb] at e; rw [← e]; exact ha)⟩)
      refine ⟨ks2, g1, g2, fun v => ⟨fun z => ?_, fun z => ?_⟩⟩
      · rcases (g3 v).mp z with z | z
        · rcases List.mem_append.mp z with z | z
          · exact .inl z
          · rw [List.mem_singleton.mp z]
            exact .inr List.mem_cons_self
        · exact .inr (List.mem_cons_of_mem _ z)
      · rcases z with z | z
        · exact (g3 v).mpr (.inl (List.mem_append_left _ z))
        · rcases List.mem_cons.mp z with rfl | z
          · exact (g3 _).mpr (.inl (List.mem_append_right _ List.mem_cons_self))
          · exact (g3 v).mpr (.inr z)
theorem rowK_keys (T : List (List Int)) : ∀ n, n ≤ T.length → ∃ ks : List Int, (rowK T n).map (·.1) = ks.map Sum.inl ∧ ks.Nodup ∧ ∀ v, v ∈ ks ↔ ∃ i, i < n ∧ v ∈ T.getD i []
  | 0, _ => ⟨[], rfl, List.nodup_nil, fun v => ⟨fun z => absurd z List.not_mem_nil, fun ⟨i, h, _⟩ => absurd h (Nat.not_lt_zero _)⟩⟩
  | n + 1, h => by
    obtain ⟨ks, g1, g2, g3⟩ := rowK_keys T n (by omega)
    obtain ⟨ks2, k1, k2, k3⟩ := addK_keys n (T.getD n []) _ ks g1 g2
    refine ⟨ks2, k1, k2, fun v => ⟨fun z => ?_, fun ⟨i, hi, hv⟩ => ?_⟩⟩
    · rcases (k3 v).mp z with z | z
      · obtain ⟨i, hi, hv⟩ := (g3 v).mp z
        exact ⟨i, by omega, hv⟩
      · exact ⟨n, by omega, z⟩
    · by_cases e : i = n
      · subst e
        exact (k3 v).mpr (.inr hv)
      · exact (k3 v).mpr (.inl ((g3 v).mpr ⟨i, by omega, hv⟩))
end Wk
namespace LW
open PySem PySem.Spec PyProof.Rows L2 Wk
abbrev Pre := List SD → Own → (SD → Own → Prop) → Prop
abbrev PreX := List SD → Own → (SD → Own → Prop) → (Addr → Option (Str × PyData) → Own → Prop) → Prop
abbrev xF (f x : Str) : Option (Str × PyData) := some (f, PyData.str x)
abbrev dic1 (f x : Str) : SD := .dic [(.inr f, PyData.str x)]
abbrev dL (rs : List (List (List Int))) : List SD := rs.map fun r => SD.dat (lS r)
abbrev dS (cs : List (List Int)) : List SD := cs.map fun c => SD.dat (tI c)
def TapeOk (ts : List Int) : Prop := ∀ t ∈ ts, 0 ≤ t ∧ t < 2147483629
abbrev Sta (st : Addr) (ts : List Int) (k : Int) : Addr × OD := (st, .lst [.dat (lI ts), iV k])
theorem TapeOk.snoc {ts : List Int} {t : Int} (h : TapeOk ts) (h0 : 0 ≤ t) (h1 : t < 2147483629) : TapeOk (ts ++ [t]) := fun x hx => by
  rcases List.mem_append.mp hx with hx | hx
  · exact h x hx
  · have e : x = t := by simpa using hx
    rw [e]; exact ⟨h0, h1⟩
theorem getD_mem {ts : List Int} {P : Int → Prop} (h : ∀ t ∈ ts, P t) {i : Int} (h0 : 0 ≤ i) (h1 : i < ts.length) : P (ts.getD i.toNat 0) := by
  obtain ⟨j, rfl⟩ : ∃ j : Nat, i = (j : Int) := ⟨i.toNat, by omega⟩
  have hj : j < ts.length := by omega
  rw [Int.toNat_natCast, List.getD_eq_getElem?_getD, List.getElem?_eq_getElem hj]
  exact h _ (List.getElem_mem hj)
theorem no_neB {b : Bool} {p : Prop} (h : b = true ↔ p) (hp : p) (hf : (!b) = true) : False := by
  rw [h.mpr hp] at hf
  cases hf
/-! ### shapes: parts from 0 on -/
def px (ns : List Int) (i : Nat) : Int := ns.getD i 0
def pt (ns : List Int) (r : Int) : Int := px ns (r - 1).toNat
structure Sh (ns : List Int) : Prop where
  pos : ∀ v ∈ ns, 0 < v
  desc : ns.Pairwise (fun a b => b ≤ a)
theorem px_nil (i : Nat) : px [] i = 0 := rfl
theorem px_zero (v : Int) (r : List Int) : px (v :: r) 0 = v := rfl
theorem px_succ (v : Int) (r : List Int) (i : Nat) : px (v :: r) (i + 1) = px r i := rfl
theorem px_ge {ns : List Int} {i : Nat} (h : ns.length ≤ i) : px ns i = 0 := by
  unfold px
  rw [List.getD_eq_getElem?_getD, List.getElem?_eq_none h]
  rfl
theorem px_lt {ns : List Int} {i : Nat} (h : i < ns.length) : px ns i = ns[i] := by
  unfold px
  rw [List.getD_eq_getElem?_getD, List.getElem?_eq_getElem h]
  rfl
theorem px_mem {ns : List Int} {i : Nat} (h : i < ns.length) : px ns i ∈ ns := by
  rw [px_lt h]
  exact List.getElem_mem h
theorem pt_1 (ns : List Int) (i : Nat) : pt ns (1 + (i : Int)) = px ns i := by
  unfold pt
  rw [show ((1 : Int) + (i : Int) - 1).toNat = i by omega]
theorem pt_2 (ns : List Int) (i : Nat) : pt ns (1 + (i : Int) + 1) = px ns (i + 1) := by
  unfold pt
  rw [show ((1 : Int) + (i : Int) + 1 - 1).toNat = i + 1 by omega]
theorem pt_3 (ns : List Int) (i : Nat) : pt ns (2 + (i : Int)) = px ns (i + 1) := by
  unfold pt
  rw [show ((2 : Int) + (i : Int) - 1).toNat = i + 1 by omega]
theorem pt_4 (ns : List Int) (i : Nat) : pt ns (2 + (i : Int) - 1) = px ns i := by
  unfold pt
  rw [show ((2 : Int) + (i : Int) - 1 - 1).toNat = i by omega]
theorem pt_one (ns : List Int) : pt ns 1 = px ns 0 := rfl
theorem Sh.nil : Sh [] := ⟨fun _ h => absurd h List.not_mem_nil, List.Pairwise.nil⟩
theorem Sh.tail {v : Int} {r : List Int} (h : Sh (v :: r)) : Sh r := ⟨fun x hx => h.pos x (List.mem_cons_of_mem _ hx), (List.pairwise_cons.mp h.desc).2⟩
theorem Sh.px_pos {ns : List Int} (h : Sh ns) {i : Nat} (hi : i < ns.length) : 0 < px ns i := h.pos _ (px_mem hi)
theorem Sh.nonneg {ns : List Int} (h : Sh ns) (i : Nat) : 0 ≤ px ns i := by
  by_cases hi : i < ns.length
  · exact Int.le_of_lt (h.px_pos hi)
  · rw [px_ge (by omega)]
    exact Int.le_refl 0
theorem Sh.anti {ns : List Int} (h : Sh ns) (i : Nat) : px ns (i + 1) ≤ px ns i := by
  by_cases hi : i + 1 < ns.length
  · rw [px_lt hi, px_lt (by omega)]
    exact (List.pairwise_iff_getElem.mp h.desc) i (i + 1) (by omega) hi (by omega)
  · rw [px_ge (show ns.length ≤ i + 1 by omega)]
    exact h.nonneg i
theorem Sh.anti' {ns : List Int} (h : Sh ns) {i j : Nat} (hij : i ≤ j) : px ns j ≤ px ns i := by
  induction j with
  | zero =>
    have : i = 0 := by omega
    rw [this]
    exact Int.le_refl _
  | succ j ih =>
    by_cases e : i = j + 1
    · rw [e]
      exact Int.le_refl _
    · exact Int.le_trans (h.anti j) (ih (by omega))
theorem Sh.ext : ∀ {a b : List Int}, Sh a → Sh b → (∀ i, px a i = px b i) → a = b
  | [], [], _, _, _ => rfl
  | [], y :: s, _, hb, h => by
    have := h 0
    rw [px_nil, px_zero] at this
    have := hb.pos y List.mem_cons_self
    omega
  | x :: r, [], ha, _, h => by
    have := h 0
    rw [px_nil, px_zero] at this
    have := ha.pos x List.mem_cons_self
    omega
  | x :: r, y :: s, ha, hb, h => by
    have h0 := h 0
    rw [px_zero, px_zero] at h0
    rw [h0, Sh.ext ha.tail hb.tail fun i => h (i + 1)]
/-- all zeros left out -/
def trim (ns : List Int) : List Int := ns.filter fun v => !decide (v = 0)
theorem trim_len (ns : List Int) : (trim ns).length ≤ ns.length := List.length_filter_le _ _
theorem trim_all0 : ∀ {ns : List Int}, (∀ i, px ns i = 0) → trim ns = []
  | [], _ => rfl
  | v :: r, h => by
    have h0 := h 0
    rw [px_zero] at h0
    unfold trim
    rw [List.filter_cons, if_neg (by rw [h0]; decide)]
    exact trim_all0 fun i => h (i + 1)
theorem trim_sh : ∀ {ns : List Int}, (∀ i, 0 ≤ px ns i) → (∀ i, px ns (i + 1) ≤ px ns i) → Sh (trim ns) ∧ ∀ i, px (trim ns) i = px ns i
  | [], _, _ => ⟨Sh.nil, fun _ => rfl⟩
  | v :: r, h0, h1 => by
    obtain ⟨s1, s2⟩ := trim_sh (ns := r) (fun i => h0 (i + 1)) (fun i => h1 (i + 1))
    by_cases hv : v = 0
    · have all : ∀ i, px (v :: r) i = 0 := by
        intro i
        induction i with
        | zero => rw [px_zero, hv]
        | succ i ih =>
          have a := h0 (i + 1)
          have b := h1 i
          omega
      rw [trim_all0 all]
      exact ⟨Sh.nil, fun i => by rw [px_nil, all]⟩
    · have e : trim (v :: r) = v :: trim r := by
        unfold trim
        rw [List.filter_cons, if_pos (by simpa using hv)]
      rw [e]
      have p0 := h0 0
      rw [px_zero] at p0
      refine ⟨⟨fun x hx => ?_, List.pairwise_cons.mpr ⟨fun x hx => ?_, s1.desc⟩⟩, fun i => ?_⟩
      · rcases List.mem_cons.mp hx with rfl | hx
        · omega
        · exact s1.pos x hx
      · obtain ⟨j, hj, rfl⟩ := List.mem_iff_getElem.mp hx
        rw [← px_lt hj, s2 j]
        have : ∀ j, px r j ≤ v := by
          intro j
          induction j with
          | zero => exact h1 0
          | succ j ih => exact Int.le_trans (h1 (j + 1)) ih
        exact this j
      · cases i with
        | zero => rfl
        | succ i => exact s2 i
/-- a list by its parts -/
def ofN (n : Nat) (f : Nat → Int) : List Int := (List.range n).map f
theorem ofN_len (n : Nat) (f : Nat → Int) : (ofN n f).length = n := by
  unfold ofN
  rw [List.length_map, List.length_range]
theorem px_ofN (n : Nat) (f : Nat → Int) (i : Nat) : px (ofN n f) i = if i < n then f i else 0 := by
  by_cases h : i < n
  · rw [if_pos h, px_lt (by rw [ofN_len]; exact h)]
    unfold ofN
    rw [List.getElem_map, List.getElem_range]
  · rw [if_neg h, px_ge (by rw [ofN_len]; omega)]
theorem ofN_succ (n : Nat) (f : Nat → Int) : ofN (n + 1) f = ofN n f ++ [f n] := by
  unfold ofN
  rw [List.range_succ, List.map_append]
  rfl
theorem trim_sh_of {l : List Int} {f : Nat → Int} (e : ∀ i, px l i = f i) (h0 : ∀ i, 0 ≤ f i) (h1 : ∀ i, f (i + 1) ≤ f i) : Sh (trim l) ∧ ∀ i, px (trim l) i = f i := by
  obtain ⟨a, b⟩ := trim_sh (ns := l) (fun i => by rw [e]; exact h0 i) (fun i => by rw [e, e]; exact h1 i)
  exact ⟨a, fun i => (b i).trans (e i)⟩
/-- the first is a strip over the second -/
def Strip (u l : List Int) : Prop := ∀ i, px l i ≤ px u i ∧ px u (i + 1) ≤ px l i
def stripB (u l : List Int) : Bool := (List.range (max u.length l.length)).all fun i => decide (px l i ≤ px u i ∧ px u (i + 1) ≤ px l i)
theorem stripB_iff {u l : List Int} : stripB u l = true ↔ Strip u l := by
  unfold stripB Strip
  rw [List.all_eq_true]
  constructor
  · intro h i
    by_cases hi : i < max u.length l.length
    · exact of_decide_eq_true (h i (List.mem_range.mpr hi))
    · rw [px_ge (show u.length ≤ i by omega), px_ge (show l.length ≤ i by omega), px_ge (show u.length ≤ i + 1 by omega)]
      exact ⟨Int.le_refl _, Int.le_refl _⟩
  · intro h i _
    exact decide_eq_true (h i)
theorem stripB_false {u l : List Int} {i : Nat} (h : ¬ (px l i ≤ px u i ∧ px u (i + 1) ≤ px l i)) : stripB u l = false := by
  cases e : stripB u l with
  | false => rfl
  | true => exact absurd (stripB_iff.mp e i) h
theorem stripB_true {u l : List Int} (h : Strip u l) : stripB u l = true := stripB_iff.mpr h
theorem strip_of {u l : List Int} {n : Nat} (hn : max u.length l.length ≤ n) (h : ∀ i, i < n → px l i ≤ px u i ∧ px u (i + 1) ≤ px l i) : Strip u l := fun i => by
  by_cases hi : i < n
  · exact h i hi
  · rw [px_ge (show u.length ≤ i by omega), px_ge (show l.length ≤ i by omega), px_ge (show u.length ≤ i + 1 by omega)]
    exact ⟨Int.le_refl _, Int.le_refl _⟩
theorem Strip.refl {u : List Int} (h : Sh u) : Strip u u := fun i => ⟨Int.le_refl _, h.anti i⟩
theorem Strip.len {u l : List Int} (s : Strip u l) (hu : Sh u) (hl : Sh l) : l.length ≤ u.length ∧ u.length ≤ l.length + 1 := by
  constructor
  · by_cases h : l.length ≤ u.length
    · exact h
    · have a := (s u.length).1
      rw [px_ge (ns := u) (Nat.le_refl _)] at a
      have := hl.px_pos (i := u.length) (by omega)
      omega
  · by_cases h : u.length ≤ l.length + 1
    · exact h
    · have a := (s l.length).2
      rw [px_ge (ns := l) (Nat.le_refl _)] at a
      have := hu.px_pos (i := l.length + 1) (by omega)
      omega
theorem px_snoc_lt {us : List Int} {v : Int} {j : Nat} (h : j < us.length) : px (us ++ [v]) j = px us j := by
  rw [px_lt h, px_lt (by rw [List.length_append]; omega), List.getElem_append_left h]
theorem px_snoc_eq {us : List Int} {v : Int} {j : Nat} (h : us.length = j) : px (us ++ [v]) j = v := by
  subst h
  rw [px_lt (by rw [List.length_append]; simp), List.getElem_append_right (Nat.le_refl _)]
  simp
theorem map_get {α β : Type} {f : α → β} {ns : List α} {i : Nat} {d : β} (h : (ns.map f)[i]? = some d) : ∃ v, ns[i]? = some v ∧ d = f v := by
  rw [List.getElem?_map] at h
  cases hn : ns[i]? with
  | none => rw [hn] at h; cases h
  | some v => rw [hn] at h; cases h; exact ⟨v, rfl, rfl⟩
theorem take_next {α : Type} {ns : List α} {i : Nat} {v : α} (h : ns[i]? = some v) : ns.take (i + 1) = ns.take i ++ [v] := by
  rw [List.take_add_one, h]
  rfl
theorem trim_snoc (ns : List Int) (v : Int) : trim (ns ++ [v]) = trim ns ++ (if v = 0 then [] else [v]) := by
  unfold trim
  rw [List.filter_append]
  congr 1
  by_cases h : v = 0
  · rw [if_pos h, List.filter_cons, if_neg (by rw [h]; decide)]
    rfl
  · rw [if_neg h, List.filter_cons, if_pos (by simpa using h)]
    rfl
/-- drawn over ns, n places behind the first -/
structure OverI (ns us : List Int) (n : Nat) : Prop where
  len : us.length = n + 1
  fst : px ns 0 ≤ px us 0
  oth : ∀ j, j < n → px ns (j + 1) ≤ px us (j + 1) ∧ px us (j + 1) ≤ px ns j
theorem OverI.snoc {ns us : List Int} {n : Nat} {v : Int} (h : OverI ns us n) (h1 : px ns (n + 1) ≤ v) (h2 : v ≤ px ns n) : OverI ns (us ++ [v]) (n + 1) := by
  refine ⟨by rw [List.length_append, h.len]; rfl, by rw [px_snoc_lt (by rw [h.len]; omega)]; exact h.fst, fun j hj => ?_⟩
  by_cases e : j = n
  · subst e
    rw [px_snoc_eq h.len]
    exact ⟨h1, h2⟩
  · rw [px_snoc_lt (by rw [h.len]; omega)]
    exact h.oth j (by omega)
theorem OverI.fin {ns us : List Int} (h : OverI ns us ns.length) (s : Sh ns) : Sh (trim us) ∧ Strip (trim us) ns ∧ (trim us).length ≤ ns.length + 1 := by
  have hz : ∀ i, ns.length < i → px us i = 0 := fun i hi => px_ge (by rw [h.len]; omega)
  have step : ∀ i, px us (i + 1) ≤ px ns i := fun i => by
    by_cases hi : i < ns.length
    · exact (h.oth i hi).2
    · rw [hz (i + 1) (by omega)]
      exact s.nonneg i
  have above : ∀ i, px ns i ≤ px us i := fun i => by
    cases i with
    | zero => exact h.fst
    | succ i =>
      by_cases hi : i < ns.length
      · exact (h.oth i hi).1
      · rw [px_ge (show ns.length ≤ i + 1 by omega), hz (i + 1) (by omega)]
        exact Int.le_refl _
  obtain ⟨a, b⟩ := trim_sh_of (l := us) (f := px us) (fun _ => rfl) (fun i => Int.le_trans (s.nonneg i) (above i)) (fun i => Int.le_trans (step i) (above i))
  exact ⟨a, fun i => ⟨by rw [b]; exact above i, by rw [b]; exact step i⟩, by rw [← h.len]; exact trim_len us⟩
/-- drawn below ns, n places -/
structure BelI (ns us : List Int) (n : Nat) : Prop where
  len : us.length = n
  oth : ∀ j, j < n → px ns (j + 1) ≤ px us j ∧ px us j ≤ px ns j
theorem BelI.snoc {ns us : List Int} {n : Nat} {v : Int} (h : BelI ns us n) (h1 : px ns (n + 1) ≤ v) (h2 : v ≤ px ns n) : BelI ns (us ++ [v]) (n + 1) := by
  refine ⟨by rw [List.length_append, h.len]; rfl, fun j hj => ?_⟩
  by_cases e : j = n
  · subst e
    rw [px_snoc_eq h.len]
    exact ⟨h1, h2⟩
  · rw [px_snoc_lt (by rw [h.len]; omega)]
    exact h.oth j (by omega)
theorem BelI.fin {ns us : List Int} (h : BelI ns us ns.length) (s : Sh ns) : Sh (trim us) ∧ Strip ns (trim us) ∧ (trim us).length ≤ ns.length := by
  have hz : ∀ i, ns.length ≤ i → px us i = 0 := fun i hi => px_ge (by rw [h.len]; omega)
  have lo : ∀ i, px ns (i + 1) ≤ px us i := fun i => by
    by_cases hi : i < ns.length
    · exact (h.oth i hi).1
    · rw [px_ge (show ns.length ≤ i + 1 by omega), hz i (by omega)]
      exact Int.le_refl _
  have up : ∀ i, px us i ≤ px ns i := fun i => by
    by_cases hi : i < ns.length
    · exact (h.oth i hi).2
    · rw [px_ge (show ns.length ≤ i by omega), hz i (by omega)]
      exact Int.le_refl _
  obtain ⟨a, b⟩ := trim_sh_of (l := us) (f := px us) (fun _ => rfl) (fun i => Int.le_trans (s.nonneg (i + 1)) (lo i)) (fun i => Int.le_trans (up (i + 1)) (lo i))
  exact ⟨a, fun i => ⟨by rw [b]; exact up i, by rw [b]; exact lo i⟩, by rw [← h.len]; exact trim_len us⟩
/-- a falling list of numbers that are not negative, its zeros left out -/
theorem sh_of_sorted {ms : List Int} (hs : ms.Pairwise (fun a b => a ≤ b)) (h0 : ∀ v ∈ ms, 0 ≤ v) : Sh (trim ms.reverse) := by
  refine ⟨fun v hv => ?_, ?_⟩
  · unfold trim at hv
    rw [List.mem_filter] at hv
    have := h0 v (List.mem_reverse.mp hv.1)
    have hne : v ≠ 0 := by simpa using hv.2
    omega
  · exact (List.pairwise_reverse.mpr hs).filter _
/-! ### chains -/
def stripsB : List Int → List (List Int) → Bool
  | _, [] => true
  | c, d :: r => stripB d c && stripsB d r
def chainB : List (List Int) → Bool
  | [] => false
  | c :: r => decide (c = []) && stripsB c r
theorem strips_next {cs : List (List Int)} {i : Nat} (hi : i + 1 < cs.length) : stripsB (cs.getD i []) (cs.drop (i + 1)) = (stripB (cs.getD (i + 1) []) (cs.getD i []) && stripsB (cs.getD (i + 1) []) (cs.drop (i + 2))) := by
  rw [List.drop_eq_getElem_cons hi]
  show (stripB cs[i + 1] (cs.getD i []) && stripsB cs[i + 1] (cs.drop (i + 1 + 1))) = _
  have e : cs.getD (i + 1) [] = cs[i + 1] := by
    rw [List.getD_eq_getElem?_getD, List.getElem?_eq_getElem hi]
    rfl
  rw [e]
theorem chain_start {cs : List (List Int)} (h : 0 < cs.length) (h0 : cs.getD 0 [] = []) : chainB cs = stripsB (cs.getD 0 []) (cs.drop 1) := by
  cases cs with
  | nil => cases h
  | cons c r =>
    have e : c = [] := h0
    subst e
    rfl
theorem chain_not {cs : List (List Int)} (h0 : cs.getD 0 [] ≠ []) : chainB cs = false := by
  cases cs with
  | nil => rfl
  | cons c r =>
    show (decide (c = []) && stripsB c r) = false
    rw [decide_eq_false (show ¬ c = [] from h0)]
    rfl
theorem px_take (ns : List Int) (n i : Nat) : px (ns.take n) i = if i < n then px ns i else 0 := by
  unfold px
  rw [List.getD_eq_getElem?_getD, List.getD_eq_getElem?_getD, List.getElem?_take]
  by_cases h : i < n
  · rw [if_pos h, if_pos h]
  · rw [if_neg h, if_neg h]
    rfl
theorem px_pad (ns : List Int) (z i : Nat) : px (ns ++ List.replicate z 0) i = px ns i := by
  by_cases h : i < ns.length
  · rw [px_lt h, px_lt (by rw [List.length_append]; omega), List.getElem_append_left h]
  · rw [px_ge (ns := ns) (by omega)]
    by_cases h2 : i < (ns ++ List.replicate z 0).length
    · rw [px_lt h2, List.getElem_append_right (by omega), List.getElem_replicate]
    · exact px_ge (by omega)
/-- below c, with at most n parts -/
theorem cut_below {c ms : List Int} {n z : Nat} (hc : Sh c) (hm : Sh ms) (s : Strip c ms) (hl : c.length ≤ n + 1) :
    Sh (trim ((ms ++ List.replicate z 0).take n)) ∧ Strip c (trim ((ms ++ List.replicate z 0).take n)) ∧ (trim ((ms ++ List.replicate z 0).take n)).length ≤ n := by
  have e : ∀ i, px ((ms ++ List.replicate z 0).take n) i = if i < n then px ms i else 0 := fun i => by rw [px_take, px_pad]
  obtain ⟨a, b⟩ := trim_sh_of (f := fun i => if i < n then px ms i else 0) e (fun i => by
    show 0 ≤ if i < n then px ms i else 0
    split
    · exact hm.nonneg i
    · exact Int.le_refl 0) (fun i => by
    show (if i + 1 < n then px ms (i + 1) else 0) ≤ if i < n then px ms i else 0
    have := hm.anti i
    have := hm.nonneg i
    split <;> split <;> omega)
  refine ⟨a, fun i => ?_, ?_⟩
  · rw [b]
    show (if i < n then px ms i else 0) ≤ px c i ∧ px c (i + 1) ≤ if i < n then px ms i else 0
    have h1 := s i
    have h2 := hc.nonneg i
    by_cases hi : i < n
    · rw [if_pos hi]
      exact h1
    · rw [if_neg hi, px_ge (ns := c) (i := i + 1) (by omega)]
      exact ⟨h2, Int.le_refl _⟩
  · refine Nat.le_trans (trim_len _) ?_
    rw [List.length_take]
    exact Nat.min_le_left _ _
theorem getD_cons_succ' {α : Type} (c : α) (r : List α) (i : Nat) (d : α) : (c :: r).getD (i + 1) d = r.getD i d := rfl
theorem strips_iff : ∀ {c : List Int} {r : List (List Int)}, stripsB c r = true ↔ ∀ i, i < r.length → Strip (r.getD i []) ((c :: r).getD i [])
  | c, [] => ⟨fun _ i hi => absurd hi (Nat.not_lt_zero _), fun _ => rfl⟩
  | c, d :: r => by
    show (stripB d c && stripsB d r) = true ↔ _
    rw [Bool.and_eq_true, stripB_iff, strips_iff]
    constructor
    · rintro ⟨h1, h2⟩ i hi
      cases i with
      | zero => exact h1
      | succ i => exact h2 i (by rw [List.length_cons] at hi; omega)
    · intro h
      exact ⟨h 0 (by rw [List.length_cons]; omega), fun i hi => h (i + 1) (by rw [List.length_cons]; omega)⟩
theorem chain_iff {cs : List (List Int)} : chainB cs = true ↔ 0 < cs.length ∧ cs.getD 0 [] = [] ∧ ∀ i, i + 1 < cs.length → Strip (cs.getD (i + 1) []) (cs.getD i []) := by
  cases cs with
  | nil => exact ⟨fun h => (by cases h), fun h => absurd h.1 (Nat.lt_irrefl _)⟩
  | cons c r =>
    show (decide (c = []) && stripsB c r) = true ↔ _
    rw [Bool.and_eq_true, decide_eq_true_eq, strips_iff]
    constructor
    · rintro ⟨h1, h2⟩
      exact ⟨by rw [List.length_cons]; omega, h1, fun i hi => h2 i (by rw [List.length_cons] at hi; omega)⟩
    · rintro ⟨_, h1, h2⟩
      exact ⟨h1, fun i hi => h2 i (by rw [List.length_cons]; omega)⟩
theorem getD_set {α : Type} (cs : List α) (i j : Nat) (x d : α) (hi : i < cs.length) : (cs.set i x).getD j d = if i = j then x else cs.getD j d := by
  rw [List.getD_eq_getElem?_getD, List.getD_eq_getElem?_getD, List.getElem?_set]
  by_cases h : i = j
  · subst h
    rw [if_pos rfl, if_pos rfl, if_pos hi]
    rfl
  · rw [if_neg h, if_neg h]
structure ChG (cs : List (List Int)) : Prop where
  str : chainB cs = true
  all : ∀ c ∈ cs, Sh c ∧ c.length ≤ 30
theorem ChG.sh {cs : List (List Int)} (g : ChG cs) (i : Nat) : Sh (cs.getD i []) ∧ (cs.getD i []).length ≤ 30 := by
  by_cases hi : i < cs.length
  · rw [List.getD_eq_getElem?_getD, List.getElem?_eq_getElem hi]
    exact g.all _ (List.getElem_mem hi)
  · rw [List.getD_eq_getElem?_getD, List.getElem?_eq_none (by omega)]
    exact ⟨Sh.nil, Nat.zero_le _⟩
theorem getD_len {cs : List (List Int)} {n : Nat} (h : ∀ c ∈ cs, c.length ≤ n) (i : Nat) : (cs.getD i []).length ≤ n := by
  by_cases hi : i < cs.length
  · rw [List.getD_eq_getElem?_getD, List.getElem?_eq_getElem hi]
    exact h _ (List.getElem_mem hi)
  · rw [List.getD_eq_getElem?_getD, List.getElem?_eq_none (by omega)]
    exact Nat.zero_le _
/-! ### tableaux: rows of letters -/
def fg (r : List Int) (x : Int) : Nat := r.findIdx fun y => decide (x < y)
def putR (r : List Int) (x : Int) : List Int := if fg r x = r.length then r ++ [x] else r.set (fg r x) x
def insT : List (List Int) → Int → List (List Int) × Nat
  | [], x => ([[x]], 1)
  | r :: rs, x => if fg r x = r.length then ((r ++ [x]) :: rs, 1) else (r.set (fg r x) x :: (insT rs (r.getD (fg r x) 0)).1, (insT rs (r.getD (fg r x) 0)).2 + 1)
def Asc (r : List Int) : Prop := r.Pairwise (· ≤ ·)
def Fit (a b : List Int) : Prop := b.length ≤ a.length ∧ ∀ j, j < b.length → a.getD j 0 < b.getD j 0
def Tab : List (List Int) → Prop
  | [] => True
  | r :: rs => r ≠ [] ∧ Asc r ∧ Fit r (rs.headD []) ∧ Tab rs
def Let (rs : List (List Int)) : Prop := ∀ r ∈ rs, ∀ v ∈ r, 1 ≤ v ∧ v ≤ 60
def szT (rs : List (List Int)) : Nat := (rs.map List.length).sum
theorem fg_le (r : List Int) (x : Int) : fg r x ≤ r.length := List.findIdx_le_length
theorem gD {r : List Int} {j : Nat} (h : j < r.length) : r.getD j 0 = r[j] := by
  rw [List.getD_eq_getElem?_getD, List.getElem?_eq_getElem h]
  rfl
theorem fg_lt {r : List Int} {x : Int} {i : Nat} (h : i < fg r x) : r.getD i 0 ≤ x := by
  have hl : i < r.length := Nat.lt_of_lt_of_le h (fg_le r x)
  have := List.not_of_lt_findIdx h
  rw [gD hl]
  simpa using this
theorem fg_at {r : List Int} {x : Int} (h : fg r x < r.length) : x < r.getD (fg r x) 0 := by
  have := List.findIdx_getElem (xs := r) (p := fun y => decide (x < y)) (w := h)
  rw [gD h]
  exact of_decide_eq_true this
theorem fg_of {r : List Int} {x : Int} {i : Nat} (hi : i < r.length) (h : x < r.getD i 0) : fg r x ≤ i := by
  rcases Nat.lt_or_ge i (fg r x) with z | z
  · have := fg_lt z
    omega
  · exact z
theorem fg_eq {r : List Int} {x : Int} {i : Nat} (hi : i < r.length) (h : x < r.getD i 0) (hb : ∀ k, k < i → r.getD k 0 ≤ x) : fg r x = i := by
  have h1 := fg_of hi h
  rcases Nat.lt_or_ge (fg r x) i with z | z
  · have h2 := fg_at (r := r) (x := x) (by omega)
    have := hb _ z
    omega
  · omega
theorem fg_full {r : List Int} {x : Int} (h : ∀ k, k < r.length → r.getD k 0 ≤ x) : fg r x = r.length := by
  have h1 := fg_le r x
  rcases Nat.lt_or_ge (fg r x) r.length with z | z
  · have h2 := fg_at (r := r) (x := x) z
    have := h _ z
    omega
  · omega
theorem Asc.le {r : List Int} (h : Asc r) {i j : Nat} (hij : i ≤ j) (hj : j < r.length) : r.getD i 0 ≤ r.getD j 0 := by
  rw [gD hj, gD (by omega)]
  rcases Nat.lt_or_ge i j with z | z
  · exact (List.pairwise_iff_getElem.mp h) i j (by omega) hj z
  · have e : i = j := by omega
    subst e
    exact Int.le_refl _
theorem Asc.of {r : List Int} (h : ∀ i j, i < j → j < r.length → r.getD i 0 ≤ r.getD j 0) : Asc r := by
  refine List.pairwise_iff_getElem.mpr fun i j hi hj hij => ?_
  have := h i j hij hj
  rw [gD hi, gD hj] at this
  exact this
theorem set_gD (r : List Int) (j i : Nat) (x : Int) (hi : i < r.length) : (r.set j x).getD i 0 = if j = i then x else r.getD i 0 := by
  rw [gD (by rw [List.length_set]; exact hi), List.getElem_set, gD hi]
theorem app_gD (r : List Int) (i : Nat) (x : Int) (hi : i < r.length) : (r ++ [x]).getD i 0 = r.getD i 0 := by
  rw [gD (by rw [List.length_append]; simp; omega), List.getElem_append_left hi, gD hi]
theorem app_gDn (r : List Int) (x : Int) : (r ++ [x]).getD r.length 0 = x := by
  rw [gD (by rw [List.length_append]; simp), List.getElem_append_right (by omega)]
  simp
theorem Asc.app {r : List Int} (h : Asc r) {x : Int} (hx : ∀ k, k < r.length → r.getD k 0 ≤ x) : Asc (r ++ [x]) := Asc.of fun i j hij hj => by
  rw [List.length_append] at hj
  simp only [List.length_cons, List.length_nil] at hj
  rw [app_gD r i x (by omega)]
  rcases Nat.lt_or_ge j r.length with z | z
  · rw [app_gD r j x z]
    exact h.le (by omega) z
  · have e : j = r.length := by omega
    subst e
    rw [app_gDn]
    exact hx i (by omega)
theorem Asc.put {r : List Int} (h : Asc r) (x : Int) : Asc (putR r x) := by
  unfold putR
  split
  · rename_i e
    exact h.app fun k hk => fg_lt (by omega)
  · rename_i e
    have hl := fg_le r x
    refine Asc.of fun i j hij hj => ?_
    rw [List.length_set] at hj
    rw [set_gD _ _ _ _ (by omega), set_gD _ _ _ _ hj]
    split
    · rename_i e1
      rw [if_neg (by omega)]
      have h1 := fg_at (r := r) (x := x) (by omega)
      have h2 := h.le (i := fg r x) (j := j) (by omega) hj
      omega
    · split
      · rename_i e1 e2
        exact fg_lt (by omega)
      · exact h.le (by omega) hj
theorem putR_len (r : List Int) (x : Int) : (putR r x).length = if fg r x = r.length then r.length + 1 else r.length := by
  unfold putR
  split
  · simp
  · simp
theorem putR_ne (r : List Int) (x : Int) : putR r x ≠ [] := fun z => by
  have e := putR_len r x
  rw [z] at e
  have := fg_le r x
  split at e
  · cases e
  · simp only [List.length_nil] at e
    omega
theorem ins_head (rs : List (List Int)) (y : Int) : (insT rs y).1.headD [] = putR (rs.headD []) y := by
  cases rs with
  | nil => rfl
  | cons s t =>
    show (insT (s :: t) y).1.headD [] = putR s y
    unfold insT putR
    split <;> rfl
theorem Fit.app {a b : List Int} (h : Fit a b) (x : Int) : Fit (a ++ [x]) b := ⟨by rw [List.length_append]; have := h.1; omega, fun j hj => by
  have := h.1
  rw [app_gD _ _ _ (by omega)]
  exact h.2 j hj⟩
theorem Fit.put {r s : List Int} {x : Int} (h : Fit r s) (hr : Asc r) (hs : Asc s) (hj : fg r x < r.length) : Fit (r.set (fg r x) x) (putR s (r.getD (fg r x) 0)) := by
  have h0 := h.1
  have hx := fg_at hj
  have hle := fg_le s (r.getD (fg r x) 0)
  have hj2 : fg s (r.getD (fg r x) 0) ≤ fg r x := by
    rcases Nat.lt_or_ge (fg r x) s.length with z | z
    · exact fg_of z (h.2 _ z)
    · omega
  refine ⟨by rw [putR_len, List.length_set]; split <;> omega, fun j hjl => ?_⟩
  rw [putR_len] at hjl
  have hjr : j < r.length := by split at hjl <;> omega
  rw [set_gD _ _ _ _ hjr]
  have key : (if fg r x = j then x else r.getD j 0) ≤ r.getD j 0 := by
    split
    · rename_i e
      rw [← e]
      omega
    · omega
  by_cases e : fg s (r.getD (fg r x) 0) = s.length
  · have ep : putR s (r.getD (fg r x) 0) = s ++ [r.getD (fg r x) 0] := if_pos e
    rw [ep]
    rcases Nat.lt_or_ge j s.length with z | z
    · rw [app_gD _ _ _ z]
      have := h.2 j z
      omega
    · rw [if_pos e] at hjl
      have ej : j = s.length := by omega
      subst ej
      rw [app_gDn]
      split
      · omega
      · rename_i ne
        have := fg_lt (r := r) (x := x) (i := s.length) (by omega)
        omega
  · have ep : putR s (r.getD (fg r x) 0) = s.set (fg s (r.getD (fg r x) 0)) (r.getD (fg r x) 0) := if_neg e
    rw [ep]
    rw [if_neg e] at hjl
    rw [set_gD _ _ _ _ hjl]
    by_cases ej : fg s (r.getD (fg r x) 0) = j
    · rw [if_pos ej]
      by_cases e2 : fg r x = j
      · rw [if_pos e2]
        omega
      · rw [if_neg e2]
        have := fg_lt (r := r) (x := x) (i := j) (by omega)
        omega
    · rw [if_neg ej]
      have := h.2 j hjl
      omega
theorem Tab.headA {rs : List (List Int)} (h : Tab rs) : Asc (rs.headD []) := by
  cases rs with
  | nil => exact List.Pairwise.nil
  | cons r t => exact h.2.1
theorem insT_tab : ∀ {rs : List (List Int)} {x : Int}, Tab rs → Tab (insT rs x).1
  | [], x, _ => ⟨List.cons_ne_nil _ _, List.pairwise_singleton _ _, ⟨Nat.zero_le _, fun j h => absurd h (Nat.not_lt_zero _)⟩, trivial⟩
  | r :: rs, x, h => by
    have hp := h.2.1.put x
    have hn := putR_ne r x
    unfold insT
    unfold putR at hp hn
    split
    · rename_i e
      rw [if_pos e] at hp hn
      exact ⟨hn, hp, h.2.2.1.app x, h.2.2.2⟩
    · rename_i e
      rw [if_neg e] at hp hn
      have hl := fg_le r x
      refine ⟨hn, hp, ?_, insT_tab h.2.2.2⟩
      rw [ins_head]
      exact h.2.2.1.put h.2.1 h.2.2.2.headA (by omega)
theorem mem_set_or {r : List Int} {j : Nat} {x v : Int} (h : v ∈ r.set j x) : v ∈ r ∨ v = x := List.mem_or_eq_of_mem_set h
theorem insT_let : ∀ {rs : List (List Int)} {x : Int}, Let rs → 1 ≤ x → x ≤ 60 → Let (insT rs x).1
  | [], x, _, h1, h2 => fun r hr v hv => by
    rw [List.mem_singleton.mp hr] at hv
    rw [List.mem_singleton.mp hv]
    exact ⟨h1, h2⟩
  | r :: rs, x, h, h1, h2 => by
    unfold insT
    have hr := h r List.mem_cons_self
    have ht : Let rs := fun q hq => h q (List.mem_cons_of_mem _ hq)
    split
    · intro q hq v hv
      rcases List.mem_cons.mp hq with e | hq
      · rw [e] at hv
        rcases List.mem_append.mp hv with hv | hv
        · exact hr v hv
        · rw [List.mem_singleton.mp hv]
          exact ⟨h1, h2⟩
      · exact ht q hq v hv
    · rename_i e
      have hl := fg_le r x
      have hy : r.getD (fg r x) 0 ∈ r := by
        rw [gD (by omega)]
        exact List.getElem_mem _
      intro q hq v hv
      rcases List.mem_cons.mp hq with e | hq
      · rw [e] at hv
        rcases mem_set_or hv with hv | hv
        · exact hr v hv
        · rw [hv]
          exact ⟨h1, h2⟩
      · exact insT_let ht (hr _ hy).1 (hr _ hy).2 q hq v hv
theorem insT_size : ∀ (rs : List (List Int)) (x : Int), szT (insT rs x).1 = szT rs + 1
  | [], x => rfl
  | r :: rs, x => by
    unfold insT
    split
    · simp only [szT, List.map_cons, List.sum_cons, List.length_append, List.length_cons, List.length_nil]
      omega
    · have := insT_size rs (r.getD (fg r x) 0)
      simp only [szT, List.map_cons, List.sum_cons, List.length_set] at this ⊢
      omega
theorem insT_no : ∀ (rs : List (List Int)) (x : Int), 1 ≤ (insT rs x).2 ∧ (insT rs x).2 ≤ rs.length + 1
  | [], x => ⟨Nat.le_refl _, Nat.le_refl _⟩
  | r :: rs, x => by
    unfold insT
    have := insT_no rs (r.getD (fg r x) 0)
    split
    · simp
    · simp only [List.length_cons]
      omega
def madeT (w : List Int) : List (List Int) := w.foldl (fun t x => (insT t x).1) []
theorem made_snoc (w : List Int) (x : Int) : madeT (w ++ [x]) = (insT (madeT w) x).1 := by
  unfold madeT
  rw [List.foldl_append]
  rfl
theorem made_ok (w : List Int) (h : ∀ v ∈ w, 1 ≤ v ∧ v ≤ 60) : Tab (madeT w) ∧ Let (madeT w) ∧ szT (madeT w) = w.length := by
  suffices H : ∀ (w : List Int) (t : List (List Int)), (∀ v ∈ w, 1 ≤ v ∧ v ≤ 60) → Tab t → Let t → Tab (w.foldl (fun t x => (insT t x).1) t) ∧ Let (w.foldl (fun t x => (insT t x).1) t) ∧ szT (w.foldl (fun t x => (insT t x).1) t) = szT t + w.length by
    have := H w [] h trivial (fun _ h => absurd h List.not_mem_nil)
    simp only [szT, List.map_nil, List.sum_nil, Nat.zero_add] at this
    exact this
  intro w
  induction w with
  | nil => exact fun t _ h1 h2 => ⟨h1, h2, rfl⟩
  | cons x w ih =>
    intro t hw h1 h2
    have hx := hw x List.mem_cons_self
    have := ih (insT t x).1 (fun v hv => hw v (List.mem_cons_of_mem _ hv)) (insT_tab h1) (insT_let h2 hx.1 hx.2)
    rw [insT_size] at this
    refine ⟨this.1, this.2.1, ?_⟩
    rw [List.foldl_cons, this.2.2, List.length_cons]
    omega
def WordOk (n : Nat) (w : List Int) : Prop := w.length ≤ n ∧ ∀ v ∈ w, 1 ≤ v ∧ v ≤ 60
/-! ### taking out -/
def ll (r : List Int) (x : Int) : Nat → Nat
  | 0 => 0
  | n + 1 => if r.getD (n + 1) 0 < x then n + 1 else ll r x n
theorem ll_ok (r : List Int) (x : Int) : ∀ (n i : Nat), i ≤ n → r.getD i 0 < x → i ≤ ll r x n ∧ ll r x n ≤ n ∧ r.getD (ll r x n) 0 < x ∧ ∀ k, ll r x n < k → k ≤ n → x ≤ r.getD k 0
  | 0, i, hi, h => by
    have e : i = 0 := by omega
    subst e
    exact ⟨Nat.le_refl _, Nat.le_refl _, h, fun k h1 h2 => by unfold ll at h1; omega⟩
  | n + 1, i, hi, h => by
    unfold ll
    split
    · rename_i hx
      exact ⟨hi, Nat.le_refl _, hx, fun k h1 h2 => by omega⟩
    · rename_i hx
      have hi2 : i ≤ n := by
        rcases Nat.lt_or_ge n i with z | z
        · have e : i = n + 1 := by omega
          subst e
          omega
        · exact z
      obtain ⟨h1, h2, h3, h4⟩ := ll_ok r x n i hi2 h
      refine ⟨h1, by omega, h3, fun k h5 h6 => ?_⟩
      rcases Nat.lt_or_ge n k with z | z
      · have e : k = n + 1 := by omega
        subst e
        omega
      · exact h4 k h5 z
theorem ll_eq {r : List Int} {x : Int} {n i : Nat} (hi : i ≤ n) (h : r.getD i 0 < x) (ha : ∀ k, i < k → k ≤ n → x ≤ r.getD k 0) : ll r x n = i := by
  obtain ⟨h1, h2, h3, h4⟩ := ll_ok r x n i hi h
  rcases Nat.lt_or_ge i (ll r x n) with z | z
  · have := ha _ z h2
    omega
  · omega
def outT : List (List Int) → Nat → List (List Int) × Int
  | [], _ => ([], 0)
  | r :: rs, 0 => (if r.length ≤ 1 then rs else r.dropLast :: rs, r.getD (r.length - 1) 0)
  | r :: rs, k + 1 => (r.set (ll r (outT rs k).2 (r.length - 1)) (outT rs k).2 :: (outT rs k).1, r.getD (ll r (outT rs k).2 (r.length - 1)) 0)
def Cor (rs : List (List Int)) (k : Nat) : Prop := k < rs.length ∧ (rs.getD (k + 1) []).length < (rs.getD k []).length
theorem Cor.tail {r : List Int} {rs : List (List Int)} {k : Nat} (h : Cor (r :: rs) (k + 1)) : Cor rs k := ⟨by have := h.1; rw [List.length_cons] at this; omega, h.2⟩
theorem drop_gD (r : List Int) {i : Nat} (hi : i < r.length - 1) : r.dropLast.getD i 0 = r.getD i 0 := by
  rw [gD (by rw [List.length_dropLast]; exact hi), gD (by omega), List.getElem_dropLast]
theorem last_app {r : List Int} (h : 0 < r.length) : r.dropLast ++ [r.getD (r.length - 1) 0] = r := by
  have hn : r ≠ [] := fun z => by rw [z] at h; exact Nat.lt_irrefl _ h
  rw [gD (by omega)]
  have := List.dropLast_concat_getLast hn
  rw [List.getLast_eq_getElem] at this
  exact this
theorem Fit.nil (a : List Int) : Fit a [] := ⟨Nat.zero_le _, fun j h => absurd h (Nat.not_lt_zero _)⟩
theorem Asc.set {s : List Int} (h : Asc s) {j : Nat} {y : Int} (hj : j < s.length) (hy : s.getD j 0 < y) (ha : ∀ k, j < k → k ≤ s.length - 1 → y ≤ s.getD k 0) : Asc (s.set j y) := Asc.of fun a b hab hb => by
  rw [List.length_set] at hb
  rw [set_gD _ _ _ _ (by omega), set_gD _ _ _ _ hb]
  by_cases e1 : j = a
  · rw [if_pos e1, if_neg (by omega)]
    exact ha b (by omega) (by omega)
  · rw [if_neg e1]
    by_cases e2 : j = b
    · rw [if_pos e2]
      have := h.le (i := a) (j := j) (by omega) hj
      omega
    · rw [if_neg e2]
      exact h.le (by omega) hb
theorem set_set_gD {s : List Int} {j : Nat} (y : Int) (hj : j < s.length) : (s.set j y).set j (s.getD j 0) = s := by
  rw [List.set_set, gD hj, List.set_getElem_self]
theorem set_at {s : List Int} {j : Nat} (y : Int) (hj : j < s.length) : (s.set j y).getD j 0 = y := by
  rw [set_gD _ _ _ _ hj, if_pos rfl]
theorem headD_cons {α : Type} (a : α) (l : List α) (d : α) : (a :: l).headD d = a := rfl
theorem getD_one (r : List Int) (rs : List (List Int)) : (r :: rs).getD (0 + 1) [] = rs.headD [] := by cases rs <;> rfl
theorem Tab.nil_of {rs : List (List Int)} (h : Tab rs) (hl : (rs.headD []).length < 1) : rs = [] := by
  cases rs with
  | nil => rfl
  | cons r t =>
    have : r.length < 1 := hl
    exact absurd (List.length_eq_zero_iff.mp (by omega)) h.1
theorem out_ok : ∀ {rs : List (List Int)} {k : Nat}, Tab rs → Cor rs k → ∃ i, i < (rs.headD []).length ∧ (outT rs k).2 = (rs.headD []).getD i 0 ∧ Tab (outT rs k).1 ∧ insT (outT rs k).1 (outT rs k).2 = (rs, k + 1)
    ∧ ∀ r, Asc r → Fit r (rs.headD []) → Fit (r.set (ll r (outT rs k).2 (r.length - 1)) (outT rs k).2) ((outT rs k).1.headD [])
  | [], k, _, h => absurd h.1 (Nat.not_lt_zero _)
  | s :: ss, 0, h, hc => by
    have hl : (ss.headD []).length < s.length := by
      have := hc.2
      rw [getD_one] at this
      exact this
    refine ⟨s.length - 1, by show _ < s.length; omega, rfl, ?_⟩
    show Tab (if s.length ≤ 1 then ss else s.dropLast :: ss) ∧ insT (if s.length ≤ 1 then ss else s.dropLast :: ss) (s.getD (s.length - 1) 0) = (s :: ss, 0 + 1) ∧ ∀ r, Asc r → Fit r s → Fit (r.set (ll r (s.getD (s.length - 1) 0) (r.length - 1)) (s.getD (s.length - 1) 0)) ((if s.length ≤ 1 then ss else s.dropLast :: ss).headD [])
    split
    · rename_i h1
      have e := Tab.nil_of h.2.2.2 (by omega)
      subst e
      have es : s = [s.getD (s.length - 1) 0] := by
        have := last_app (r := s) (by omega)
        rw [List.length_eq_zero_iff.mp (show s.dropLast.length = 0 by rw [List.length_dropLast]; omega)] at this
        exact this.symm
      refine ⟨trivial, ?_, fun r _ _ => Fit.nil _⟩
      show ([[s.getD (s.length - 1) 0]], 1) = _
      rw [← es]
    · rename_i h1
      have hf : fg s.dropLast (s.getD (s.length - 1) 0) = s.dropLast.length := fg_full fun k hk => by
        rw [List.length_dropLast] at hk
        rw [drop_gD _ hk]
        exact h.2.1.le (by omega) (by omega)
      refine ⟨⟨fun z => ?_, ?_, ⟨by rw [List.length_dropLast]; omega, fun j hj => ?_⟩, h.2.2.2⟩, ?_, fun r hr hf => ?_⟩
      · have := congrArg List.length z
        rw [List.length_dropLast, List.length_nil] at this
        omega
      · exact List.Pairwise.sublist (List.dropLast_sublist s) h.2.1
      · rw [drop_gD _ (by omega)]
        exact h.2.2.1.2 j hj
      · unfold insT
        rw [if_pos hf, last_app (by omega)]
      · have hrl := hf.1
        have h2 := hf.2 (s.length - 1) (by omega)
        obtain ⟨g1, g2, g3, g4⟩ := ll_ok r (s.getD (s.length - 1) 0) (r.length - 1) (s.length - 1) (by omega) h2
        show Fit _ s.dropLast
        refine ⟨by rw [List.length_dropLast, List.length_set]; omega, fun j hj => ?_⟩
        rw [List.length_dropLast] at hj
        rw [drop_gD _ hj, set_gD _ _ _ _ (by omega), if_neg (by omega)]
        exact hf.2 j (by omega)
  | s :: ss, k + 1, h, hc => by
    obtain ⟨i, hi, hy, ht, hins, hfit⟩ := out_ok h.2.2.2 hc.tail
    have hsl := h.2.2.1.1
    have hs := h.2.2.1.2 i hi
    rw [← hy] at hs
    obtain ⟨g1, g2, g3, g4⟩ := ll_ok s (outT ss k).2 (s.length - 1) i (by omega) hs
    have hjl : ll s (outT ss k).2 (s.length - 1) < s.length := by omega
    generalize ej : ll s (outT ss k).2 (s.length - 1) = j at *
    have e1 : outT (s :: ss) (k + 1) = (s.set j (outT ss k).2 :: (outT ss k).1, s.getD j 0) := by
      show (s.set (ll s (outT ss k).2 (s.length - 1)) (outT ss k).2 :: (outT ss k).1, s.getD (ll s (outT ss k).2 (s.length - 1)) 0) = _
      rw [ej]
    rw [e1]
    have hfg : fg (s.set j (outT ss k).2) (s.getD j 0) = j := fg_eq (by rw [List.length_set]; exact hjl) (by rw [set_at _ hjl]; exact g3) fun q hq => by
      rw [set_gD _ _ _ _ (by omega), if_neg (by omega)]
      exact h.2.1.le (by omega) hjl
    refine ⟨j, hjl, rfl, ⟨fun z => ?_, h.2.1.set hjl g3 g4, ?_, ht⟩, ?_, fun r hr hf => ?_⟩
    · have := congrArg List.length z
      rw [List.length_set, List.length_nil] at this
      omega
    · have := hfit s h.2.1 h.2.2.1
      rw [ej] at this
      exact this
    · show insT (s.set j (outT ss k).2 :: (outT ss k).1) (s.getD j 0) = _
      unfold insT
      rw [hfg, if_neg (by rw [List.length_set]; omega), set_set_gD _ hjl, set_at _ hjl, hins]
    · have hrl := hf.1
      have h2 := hf.2 j hjl
      show Fit (r.set (ll r (s.getD j 0) (r.length - 1)) (s.getD j 0)) (s.set j (outT ss k).2)
      obtain ⟨q1, q2, q3, q4⟩ := ll_ok r (s.getD j 0) (r.length - 1) j (by have : j < s.length := hjl; have : s.length ≤ r.length := hrl; omega) h2
      refine ⟨by rw [List.length_set, List.length_set]; exact hrl, fun a ha => ?_⟩
      rw [List.length_set] at ha
      have hrl2 : s.length ≤ r.length := hrl
      rw [set_gD _ _ _ _ (by omega), set_gD _ _ _ _ ha]
      by_cases e2 : ll r (s.getD j 0) (r.length - 1) = a
      · rw [if_pos e2]
        by_cases e3 : j = a
        · rw [if_pos e3]
          exact g3
        · rw [if_neg e3]
          have := g4 a (by omega) (by omega)
          omega
      · rw [if_neg e2]
        have := hf.2 a ha
        by_cases e3 : j = a
        · rw [if_pos e3]
          subst e3
          have : r.getD j 0 < s.getD j 0 := h2
          omega
        · rw [if_neg e3]
          exact this
theorem out_mem : ∀ {rs : List (List Int)} {k : Nat}, Tab rs → Cor rs k → (∀ q ∈ (outT rs k).1, ∀ v ∈ q, ∃ r ∈ rs, v ∈ r) ∧ ∃ r ∈ rs, (outT rs k).2 ∈ r
  | [], k, _, h => absurd h.1 (Nat.not_lt_zero _)
  | s :: ss, 0, h, hc => by
    have h0 : 0 < s.length := by
      have := hc.2
      show 0 < s.length
      have e : (List.getD (s :: ss) 0 []).length = s.length := rfl
      omega
    refine ⟨fun q hq v hv => ?_, s, List.mem_cons_self, ?_⟩
    · have hq' : q ∈ (if s.length ≤ 1 then ss else s.dropLast :: ss) := hq
      split at hq'
      · exact ⟨q, List.mem_cons_of_mem _ hq', hv⟩
      · rcases List.mem_cons.mp hq' with e | hq2
        · rw [e] at hv
          exact ⟨s, List.mem_cons_self, (List.dropLast_sublist s).subset hv⟩
        · exact ⟨q, List.mem_cons_of_mem _ hq2, hv⟩
    · show s.getD (s.length - 1) 0 ∈ s
      rw [gD (by omega)]
      exact List.getElem_mem _
  | s :: ss, k + 1, h, hc => by
    obtain ⟨i, hi, hy, ht, hins, hfit⟩ := out_ok h.2.2.2 hc.tail
    obtain ⟨m1, r0, hr0, hv0⟩ := out_mem h.2.2.2 hc.tail
    have hsl := h.2.2.1.1
    have hs := h.2.2.1.2 i hi
    rw [← hy] at hs
    obtain ⟨g1, g2, g3, g4⟩ := ll_ok s (outT ss k).2 (s.length - 1) i (by omega) hs
    refine ⟨fun q hq v hv => ?_, s, List.mem_cons_self, ?_⟩
    · have hq' : q ∈ s.set (ll s (outT ss k).2 (s.length - 1)) (outT ss k).2 :: (outT ss k).1 := hq
      rcases List.mem_cons.mp hq' with e | hq2
      · rw [e] at hv
        rcases mem_set_or hv with hv | hv
        · exact ⟨s, List.mem_cons_self, hv⟩
        · rw [hv]
          exact ⟨r0, List.mem_cons_of_mem _ hr0, hv0⟩
      · obtain ⟨r, hr, hvr⟩ := m1 q hq2 v hv
        exact ⟨r, List.mem_cons_of_mem _ hr, hvr⟩
    · show s.getD (ll s (outT ss k).2 (s.length - 1)) 0 ∈ s
      rw [gD (by omega)]
      exact List.getElem_mem _
theorem out_let {rs : List (List Int)} {k : Nat} (ht : Tab rs) (hl : Let rs) (hc : Cor rs k) : Let (outT rs k).1 ∧ 1 ≤ (outT rs k).2 ∧ (outT rs k).2 ≤ 60 := by
  obtain ⟨m1, r0, hr0, hv0⟩ := out_mem ht hc
  refine ⟨fun q hq v hv => ?_, hl r0 hr0 _ hv0⟩
  obtain ⟨r, hr, hvr⟩ := m1 q hq v hv
  exact hl r hr v hvr
theorem out_size {rs : List (List Int)} {k : Nat} (ht : Tab rs) (hc : Cor rs k) : szT (outT rs k).1 + 1 = szT rs := by
  obtain ⟨_, _, _, _, hins, _⟩ := out_ok ht hc
  rw [← insT_size, hins]
theorem ins_out : ∀ {rs : List (List Int)} (x : Int), Tab rs → Cor (insT rs x).1 ((insT rs x).2 - 1) ∧ outT (insT rs x).1 ((insT rs x).2 - 1) = (rs, x)
  | [], x, _ => ⟨⟨Nat.zero_lt_one, Nat.zero_lt_one⟩, rfl⟩
  | r :: rs, x, h => by
    have hf0 := h.2.2.1.1
    have hl := fg_le r x
    have hr0 : 0 < r.length := by
      rcases Nat.eq_zero_or_pos r.length with z | z
      · exact absurd (List.length_eq_zero_iff.mp z) h.1
      · exact z
    by_cases e : fg r x = r.length
    · have ei : insT (r :: rs) x = ((r ++ [x]) :: rs, 1) := by
        unfold insT
        rw [if_pos e]
      rw [ei]
      refine ⟨⟨Nat.zero_lt_succ _, ?_⟩, ?_⟩
      · show (List.getD ((r ++ [x]) :: rs) (0 + 1) []).length < (r ++ [x]).length
        rw [getD_one, List.length_append]
        simp only [List.length_cons, List.length_nil]
        omega
      · show ((if (r ++ [x]).length ≤ 1 then rs else (r ++ [x]).dropLast :: rs), (r ++ [x]).getD ((r ++ [x]).length - 1) 0) = _
        rw [if_neg (by rw [List.length_append]; simp only [List.length_cons, List.length_nil]; omega), List.dropLast_concat]
        have e2 : (r ++ [x]).length - 1 = r.length := by rw [List.length_append]; simp
        rw [e2, app_gDn]
    · have ei : insT (r :: rs) x = (r.set (fg r x) x :: (insT rs (r.getD (fg r x) 0)).1, (insT rs (r.getD (fg r x) 0)).2 + 1) := by
        conv => lhs; unfold insT
        rw [if_neg e]
      rw [ei]
      have hno := insT_no rs (r.getD (fg r x) 0)
      obtain ⟨h1, h2⟩ := ins_out (r.getD (fg r x) 0) h.2.2.2
      obtain ⟨n, hn⟩ : ∃ n, (insT rs (r.getD (fg r x) 0)).2 = n + 1 := ⟨_, (Nat.sub_add_cancel hno.1).symm⟩
      have en : (insT rs (r.getD (fg r x) 0)).2 + 1 - 1 = n + 1 := by omega
      have en2 : (insT rs (r.getD (fg r x) 0)).2 - 1 = n := by omega
      rw [en2] at h1 h2
      show Cor _ ((insT rs (r.getD (fg r x) 0)).2 + 1 - 1) ∧ outT _ ((insT rs (r.getD (fg r x) 0)).2 + 1 - 1) = _
      rw [en]
      have hx := fg_at (r := r) (x := x) (by omega)
      have hll : ll (r.set (fg r x) x) (r.getD (fg r x) 0) ((r.set (fg r x) x).length - 1) = fg r x := by
        refine ll_eq (by rw [List.length_set]; omega) (by rw [set_at _ (by omega)]; exact hx) fun k h3 h4 => ?_
        rw [List.length_set] at h4
        rw [set_gD _ _ _ _ (by omega), if_neg (by omega)]
        exact h.2.1.le (by omega) (by omega)
      refine ⟨⟨by rw [List.length_cons]; have := h1.1; omega, h1.2⟩, ?_⟩
      show ((r.set (fg r x) x).set (ll (r.set (fg r x) x) (outT (insT rs (r.getD (fg r x) 0)).1 n).2 ((r.set (fg r x) x).length - 1)) (outT (insT rs (r.getD (fg r x) 0)).1 n).2 :: (outT (insT rs (r.getD (fg r x) 0)).1 n).1, (r.set (fg r x) x).getD (ll (r.set (fg r x) x) (outT (insT rs (r.getD (fg r x) 0)).1 n).2 ((r.set (fg r x) x).length - 1)) 0) = _
      rw [h2]
      show ((r.set (fg r x) x).set (ll (r.set (fg r x) x) (r.getD (fg r x) 0) ((r.set (fg r x) x).length - 1)) (r.getD (fg r x) 0) :: rs, (r.set (fg r x) x).getD (ll (r.set (fg r x) x) (r.getD (fg r x) 0) ((r.set (fg r x) x).length - 1)) 0) = _
      rw [hll, set_set_gD _ (by omega), set_at _ (by omega)]
theorem ins_bump : ∀ {rs : List (List Int)} (x y : Int), Tab rs → ((insT (insT rs x).1 y).2 ≤ (insT rs x).2 ↔ x ≤ y)
  | [], x, y, _ => by
    show (insT [[x]] y).2 ≤ 1 ↔ x ≤ y
    unfold insT
    have : fg [x] y = if y < x then 0 else 1 := by
      unfold fg
      by_cases h : y < x <;> simp [List.findIdx_cons, h]
    rw [this]
    by_cases h : y < x
    · rw [if_pos h, if_neg (by simp)]
      have := insT_no [] ([x].getD 0 0)
      show (insT [] ([x].getD 0 0)).2 + 1 ≤ 1 ↔ _
      omega
    · rw [if_neg h, if_pos (by simp)]
      show 1 ≤ 1 ↔ _
      omega
  | r :: rs, x, y, h => by
    have hl := fg_le r x
    by_cases e : fg r x = r.length
    · have ei : insT (r :: rs) x = ((r ++ [x]) :: rs, 1) := by
        unfold insT
        rw [if_pos e]
      rw [ei]
      show (insT ((r ++ [x]) :: rs) y).2 ≤ 1 ↔ _
      have hlen : (r ++ [x]).length = r.length + 1 := by rw [List.length_append]; rfl
      by_cases hxy : x ≤ y
      · have hf : fg (r ++ [x]) y = (r ++ [x]).length := fg_full fun k hk => by
          rcases Nat.lt_or_ge k r.length with z | z
          · rw [app_gD _ _ _ z]
            have := fg_lt (r := r) (x := x) (i := k) (by omega)
            omega
          · have ek : k = r.length := by omega
            subst ek
            rw [app_gDn]
            exact hxy
        unfold insT
        rw [if_pos hf]
        exact ⟨fun _ => hxy, fun _ => Nat.le_refl _⟩
      · have hf : fg (r ++ [x]) y ≤ r.length := fg_of (by omega) (by rw [app_gDn]; omega)
        unfold insT
        rw [if_neg (by omega)]
        have := insT_no rs ((r ++ [x]).getD (fg (r ++ [x]) y) 0)
        show (insT rs ((r ++ [x]).getD (fg (r ++ [x]) y) 0)).2 + 1 ≤ 1 ↔ _
        omega
    · have ei : insT (r :: rs) x = (r.set (fg r x) x :: (insT rs (r.getD (fg r x) 0)).1, (insT rs (r.getD (fg r x) 0)).2 + 1) := by
        conv => lhs; unfold insT
        rw [if_neg e]
      rw [ei]
      have hx := fg_at (r := r) (x := x) (by omega)
      have ih := fun z => ins_bump (rs := rs) (r.getD (fg r x) 0) z h.2.2.2
      have hno := insT_no rs (r.getD (fg r x) 0)
      generalize ej : fg r x = j at *
      have hjl : j < r.length := by omega
      have hslen : (r.set j x).length = r.length := List.length_set
      show (insT (r.set j x :: (insT rs (r.getD j 0)).1) y).2 ≤ (insT rs (r.getD j 0)).2 + 1 ↔ _
      conv => lhs; lhs; unfold insT
      by_cases hf : fg (r.set j x) y = (r.set j x).length
      · rw [if_pos hf]
        refine ⟨fun _ => ?_, fun _ => by show 1 ≤ _; omega⟩
        have := fg_lt (r := r.set j x) (x := y) (i := j) (by omega)
        rw [set_at _ hjl] at this
        exact this
      · rw [if_neg hf]
        have hfl := fg_le (r.set j x) y
        have hq := fg_at (r := r.set j x) (x := y) (by omega)
        show (insT (insT rs (r.getD j 0)).1 ((r.set j x).getD (fg (r.set j x) y) 0)).2 + 1 ≤ (insT rs (r.getD j 0)).2 + 1 ↔ _
        rw [Nat.add_le_add_iff_right, ih]
        rw [set_gD _ _ _ _ (by omega)] at hq ⊢
        by_cases hxy : x ≤ y
        · refine ⟨fun _ => hxy, fun _ => ?_⟩
          have hgt : j < fg (r.set j x) y := by
            rcases Nat.lt_or_ge j (fg (r.set j x) y) with z | z
            · exact z
            · split at hq
              · omega
              · have := fg_lt (r := r) (x := x) (i := fg (r.set j x) y) (by omega)
                omega
          rw [if_neg (by omega)]
          exact h.2.1.le (by omega) (by omega)
        · refine ⟨fun hh => ?_, fun hh => absurd hh hxy⟩
          have hle : fg (r.set j x) y ≤ j := fg_of (by omega) (by rw [set_at _ hjl]; omega)
          split at hh
          · omega
          · have := fg_lt (r := r) (x := x) (i := fg (r.set j x) y) (by omega)
            omega
/-! ### what the loops do -/
theorem tS_dats (cs : List (List Int)) : Dats (cs.map fun c => SD.dat (tI c)) (cs.map fun c => tI c) := by
  have := Dats.map (cs.map fun c => tI c)
  rw [List.map_map] at this
  exact this
theorem tS_dat (cs : List (List Int)) : (cs.map fun c => tI c).map SD.dat = cs.map fun c => .dat (tI c) := by
  rw [List.map_map]
  rfl
theorem tS_snoc (cs : List (List Int)) (c : List Int) : ((cs ++ [c]).map fun c => SD.dat (tI c)) = (cs.map fun c => SD.dat (tI c)) ++ [.dat (tI c)] := by rw [List.map_append]; rfl
theorem drop_step {α : Type} {l : List α} {j : Nat} (h : j < l.length) (d : α) : l.drop j = l.getD j d :: l.drop (j + 1) := by
  rw [List.getD_eq_getElem?_getD, List.getElem?_eq_getElem h, List.drop_eq_getElem_cons h]
  rfl
theorem getD_mem2 {α : Type} {l : List α} {j : Nat} (h : j < l.length) (d : α) : l.getD j d ∈ l := by
  rw [List.getD_eq_getElem?_getD, List.getElem?_eq_getElem h]
  exact List.getElem_mem h
def gtL (r : List Int) (x : Int) : Nat → List Int
  | 0 => []
  | n + 1 => gtL r x n ++ if x < r.getD n 0 then [(n : Int)] else []
theorem gtL_none {r : List Int} {x : Int} : ∀ {n : Nat}, n ≤ fg r x → gtL r x n = []
  | 0, _ => rfl
  | n + 1, h => by
    unfold gtL
    have := fg_lt (r := r) (x := x) (i := n) (by omega)
    rw [gtL_none (by omega), if_neg (by omega)]
    rfl
theorem gtL_some {r : List Int} {x : Int} (hr : fg r x < r.length) : ∀ {n : Nat}, fg r x < n → ∃ t, gtL r x n = (fg r x : Int) :: t
  | 0, h => absurd h (Nat.not_lt_zero _)
  | n + 1, h => by
    unfold gtL
    by_cases e : fg r x = n
    · have := fg_at hr
      rw [e] at this
      rw [gtL_none (by omega), if_pos this, e]
      exact ⟨[], rfl⟩
    · obtain ⟨t, ht⟩ := gtL_some hr (n := n) (by omega)
      rw [ht]
      exact ⟨_, rfl⟩
theorem gtL_len (r : List Int) (x : Int) : ∀ n : Nat, (gtL r x n).length ≤ n
  | 0 => Nat.le_refl _
  | n + 1 => by
    unfold gtL
    have := gtL_len r x n
    rw [List.length_append]
    split
    · simp only [List.length_cons, List.length_nil]
      omega
    · simp only [List.length_nil]
      omega
def ltL (r : List Int) (x : Int) : Nat → List Int
  | 0 => []
  | n + 1 => ltL r x n ++ if r.getD n 0 < x then [(n : Int)] else []
theorem ltL_len (r : List Int) (x : Int) : ∀ n : Nat, (ltL r x n).length ≤ n
  | 0 => Nat.le_refl _
  | n + 1 => by
    unfold ltL
    have := ltL_len r x n
    rw [List.length_append]
    split
    · simp only [List.length_cons, List.length_nil]
      omega
    · simp only [List.length_nil]
      omega
theorem ltL_last {r : List Int} {x : Int} : ∀ {n i : Nat}, i ≤ n → r.getD i 0 < x → ∃ t, ltL r x (n + 1) = t ++ [(ll r x n : Int)]
  | 0, i, hi, h => by
    have e : i = 0 := by omega
    subst e
    unfold ltL
    rw [if_pos h]
    exact ⟨_, rfl⟩
  | n + 1, i, hi, h => by
    unfold ltL ll
    by_cases hx : r.getD (n + 1) 0 < x
    · rw [if_pos hx, if_pos hx]
      exact ⟨_, rfl⟩
    · rw [if_neg hx, if_neg hx, List.append_nil]
      have hi2 : i ≤ n := by
        rcases Nat.lt_or_ge n i with z | z
        · have e : i = n + 1 := by omega
          subst e
          omega
        · exact z
      exact ltL_last hi2 h
theorem set_cut (r : List Int) {j : Nat} (x : Int) (h : j < r.length) : r.take j ++ [x] ++ r.drop (j + 1) = r.set j x := by
  rw [List.set_eq_take_append_cons_drop, if_pos h, List.append_assoc]
  rfl
theorem tI_cut (r : List Int) {j : Nat} (x : Int) (h : j < r.length) : PyData.tuple (cut (r.map PyData.int) none (some (j : Int)) ++ [PyData.int x] ++ cut (r.map PyData.int) (some ((j : Int) + 1)) none) = tI (r.set j x) := by
  rw [cut_hi _ (by omega), cut_lo _ (by omega), Int.toNat_natCast, show ((j : Int) + 1).toNat = j + 1 by omega, ← List.map_take, ← List.map_drop, map_app1, ← List.map_append, set_cut r x h]
theorem tI_cut' (r : List Int) {j : Nat} (x : Int) (h : j = r.length) : PyData.tuple (cut (r.map PyData.int) none (some (j : Int)) ++ [PyData.int x] ++ cut (r.map PyData.int) (some ((j : Int) + 1)) none) = tI (r ++ [x]) := by
  rw [cut_hi _ (by omega), cut_lo _ (by omega), Int.toNat_natCast, show ((j : Int) + 1).toNat = j + 1 by omega, ← List.map_take, ← List.map_drop, map_app1, ← List.map_append, List.take_of_length_le (by omega), List.drop_eq_nil_of_le (by omega), List.append_nil]
/-- insertion, row by row -/
structure InsAt (T : List (List Int)) (x : Int) (k : Nat) (fd : List (List Int)) (y : Int) : Prop where
  len : fd.length = k
  eq : insT T x = (fd ++ (insT (T.drop k) y).1, k + (insT (T.drop k) y).2)
  row : ∀ r ∈ fd, ∃ q ∈ T, r.length = q.length
theorem InsAt.zero (T : List (List Int)) (x : Int) : InsAt T x 0 [] x := ⟨rfl, by rw [List.drop_zero, Nat.zero_add]; rfl, fun _ h => absurd h List.not_mem_nil⟩
theorem InsAt.full {T : List (List Int)} {x : Int} {k : Nat} {fd : List (List Int)} {y : Int} (h : InsAt T x k fd y) (hk : k < T.length) (hf : fg (T.getD k []) y = (T.getD k []).length) :
    insT T x = (fd ++ [T.getD k [] ++ [y]] ++ T.drop (k + 1), k + 1) := by
  rw [h.eq, drop_step hk []]
  unfold insT
  rw [if_pos hf, List.append_assoc]
  rfl
theorem InsAt.next {T : List (List Int)} {x : Int} {k : Nat} {fd : List (List Int)} {y : Int} (h : InsAt T x k fd y) (hk : k < T.length) (hf : fg (T.getD k []) y < (T.getD k []).length) :
    InsAt T x (k + 1) (fd ++ [(T.getD k []).set (fg (T.getD k []) y) y]) ((T.getD k []).getD (fg (T.getD k []) y) 0) := by
  refine ⟨by rw [List.length_append, h.len]; rfl, ?_, fun r hr => ?_⟩
  · rw [h.eq, drop_step hk []]
    conv => lhs; unfold insT
    rw [if_neg (by omega), List.append_assoc]
    show (_, _) = (_, _)
    rw [show k + ((insT (List.drop (k + 1) T) ((T.getD k []).getD (fg (T.getD k []) y) 0)).2 + 1) = k + 1 + (insT (List.drop (k + 1) T) ((T.getD k []).getD (fg (T.getD k []) y) 0)).2 by omega]
    rfl
  · rcases List.mem_append.mp hr with hr | hr
    · exact h.row r hr
    · rw [List.mem_singleton.mp hr]
      exact ⟨_, getD_mem2 hk [], List.length_set⟩
theorem InsAt.done {T : List (List Int)} {x : Int} {fd : List (List Int)} {y : Int} (h : InsAt T x T.length fd y) : insT T x = (fd ++ [[y]], T.length + 1) := by
  rw [h.eq, List.drop_eq_nil_of_le (Nat.le_refl _)]
  rfl
theorem InsAt.set {T : List (List Int)} {x : Int} {k : Nat} {fd : List (List Int)} {y : Int} (h : InsAt T x k fd y) (hk : k < T.length) (r : List Int) : (fd ++ T.drop k).set k r = fd ++ [r] ++ T.drop (k + 1) := by
  rw [drop_step hk [], List.set_append_right _ _ (by rw [h.len]; omega), h.len, Nat.sub_self, List.append_assoc]
  rfl
/-- rows and lengths that fit the line -/
structure Sm (n m : Nat) (T : List (List Int)) : Prop where
  len : T.length ≤ n
  row : ∀ r ∈ T, r.length ≤ m
theorem Sm.get {n m : Nat} {T : List (List Int)} (h : Sm n m T) (k : Nat) : (T.getD k []).length ≤ m := by
  rcases Nat.lt_or_ge k T.length with z | z
  · exact h.row _ (getD_mem2 z [])
  · rw [List.getD_eq_getElem?_getD, List.getElem?_eq_none z]
    exact Nat.zero_le _
theorem Sm.up {n m n' m' : Nat} {T : List (List Int)} (h : Sm n m T) (hn : n ≤ n') (hm : m ≤ m') : Sm n' m' T := ⟨Nat.le_trans h.len hn, fun r hr => Nat.le_trans (h.row r hr) hm⟩
theorem sz_mem {T : List (List Int)} : ∀ r ∈ T, r.length ≤ szT T := fun r hr => by
  induction T with
  | nil => exact absurd hr List.not_mem_nil
  | cons s t ih =>
    show r.length ≤ s.length + szT t
    rcases List.mem_cons.mp hr with e | hr
    · rw [e]
      omega
    · have := ih hr
      omega
theorem Tab.len_le {T : List (List Int)} (h : Tab T) : T.length ≤ szT T := by
  induction T with
  | nil => exact Nat.zero_le _
  | cons s t ih =>
    have h1 := ih h.2.2.2
    have h2 : 0 < s.length := by
      rcases Nat.eq_zero_or_pos s.length with z | z
      · exact absurd (List.length_eq_zero_iff.mp z) h.1
      · exact z
    show t.length + 1 ≤ s.length + szT t
    omega
theorem Tab.sm {T : List (List Int)} (h : Tab T) : Sm (szT T) (szT T) T := ⟨h.len_le, sz_mem⟩
/-! ### what a tableau is, row by row -/
def IsRow (r : List Int) : Prop := r ≠ [] ∧ Asc r ∧ ∀ v ∈ r, 1 ≤ v ∧ v ≤ 60
def RowGood (T : List (List Int)) (i : Nat) : Prop := IsRow (T.getD i []) ∧ (0 < i → Fit (T.getD (i - 1) []) (T.getD i []))
def TabOk (T : List (List Int)) : Prop := Tab T ∧ Let T ∧ szT T ≤ 200
theorem getD_cons_pos {α : Type} (r : α) (t : List α) (d : α) {i : Nat} (h : 0 < i) : (r :: t).getD i d = t.getD (i - 1) d := by
  obtain ⟨k, rfl⟩ : ∃ k, i = k + 1 := ⟨i - 1, by omega⟩
  rfl
theorem headD_getD {α : Type} (t : List α) (d : α) : t.headD d = t.getD 0 d := by cases t <;> rfl
theorem rows_iff : ∀ T : List (List Int), (Tab T ∧ Let T) ↔ ∀ i, i < T.length → RowGood T i
  | [] => ⟨fun _ i h => absurd h (Nat.not_lt_zero _), fun _ => ⟨trivial, fun _ h => absurd h List.not_mem_nil⟩⟩
  | r :: t => by
    have ih := rows_iff t
    constructor
    · rintro ⟨⟨h1, h2, h3, h4⟩, hl⟩ i hi
      have hr := hl r List.mem_cons_self
      have ht := ih.mp ⟨h4, fun q hq => hl q (List.mem_cons_of_mem _ hq)⟩
      rcases Nat.eq_zero_or_pos i with e | hp
      · subst e
        exact ⟨⟨h1, h2, hr⟩, fun z => absurd z (Nat.lt_irrefl _)⟩
      · have hi2 : i - 1 < t.length := by rw [List.length_cons] at hi; omega
        have hg := ht (i - 1) hi2
        unfold RowGood
        rw [getD_cons_pos _ _ _ hp]
        refine ⟨hg.1, fun _ => ?_⟩
        rcases Nat.eq_zero_or_pos (i - 1) with e | hp2
        · rw [e]
          rw [headD_getD] at h3
          exact h3
        · rw [getD_cons_pos _ _ _ hp2]
          exact hg.2 hp2
    · intro h
      have h0 := h 0 (Nat.zero_lt_succ _)
      have ht := ih.mpr fun i hi => by
        have hg := h (i + 1) (by rw [List.length_cons]; omega)
        refine ⟨hg.1, fun hp => ?_⟩
        have := hg.2 (Nat.zero_lt_succ _)
        rw [show i + 1 - 1 = i from rfl, getD_cons_pos _ _ _ hp] at this
        exact this
      refine ⟨⟨h0.1.1, h0.1.2.1, ?_, ht.1⟩, fun q hq => ?_⟩
      · cases t with
        | nil => exact Fit.nil _
        | cons s u => exact (h 1 (by rw [List.length_cons, List.length_cons]; omega)).2 Nat.zero_lt_one
      · rcases List.mem_cons.mp hq with e | hq
        · rw [e]
          exact h0.1.2.2
        · exact ht.2 q hq
theorem tabOk_iff (T : List (List Int)) : TabOk T ↔ (∀ i, i < T.length → RowGood T i) ∧ szT T ≤ 200 := by
  rw [← rows_iff]
  exact ⟨fun h => ⟨⟨h.1, h.2.1⟩, h.2.2⟩, fun h => ⟨h.1.1, h.1.2, h.2⟩⟩
/-- the first j letters of a row are good -/
def RowTo (r : List Int) (j : Nat) : Prop := ∀ i, i < j → (1 ≤ r.getD i 0 ∧ r.getD i 0 ≤ 60) ∧ (0 < i → r.getD (i - 1) 0 ≤ r.getD i 0)
theorem RowTo.all {r : List Int} (h : RowTo r r.length) : Asc r ∧ ∀ v ∈ r, 1 ≤ v ∧ v ≤ 60 := by
  constructor
  · refine Asc.of fun i j hij hj => ?_
    induction j with
    | zero => omega
    | succ j ih =>
      have h2 := (h (j + 1) hj).2 (Nat.zero_lt_succ _)
      rw [show j + 1 - 1 = j from rfl] at h2
      by_cases e : i = j
      · rw [e]
        exact h2
      · have := ih (by omega) (by omega)
        omega
  · intro v hv
    obtain ⟨i, hi, rfl⟩ := List.getElem_of_mem hv
    have := (h i hi).1
    rw [gD hi] at this
    exact this
theorem RowTo.of {r : List Int} (h1 : Asc r) (h2 : ∀ v ∈ r, 1 ≤ v ∧ v ≤ 60) : RowTo r r.length := fun i hi => by
  refine ⟨?_, fun hp => h1.le (by omega) hi⟩
  rw [gD hi]
  exact h2 _ (List.getElem_mem hi)
theorem szT_take {T : List (List Int)} {k : Nat} {v : List Int} (h : T[k]? = some v) : szT (T.take (k + 1)) = szT (T.take k) + v.length := by
  have e : T.take (k + 1) = T.take k ++ [v] := by
    obtain ⟨hi, rfl⟩ := List.getElem?_eq_some_iff.mp h
    rw [List.take_succ, List.getElem?_eq_getElem hi]
    rfl
  rw [e]
  unfold szT
  rw [List.map_append, List.sum_append]
  simp
/-! ### taking out, the empty row kept -/
def outR : List (List Int) → Nat → List (List Int) × Int
  | [], _ => ([], 0)
  | r :: rs, 0 => (r.dropLast :: rs, r.getD (r.length - 1) 0)
  | r :: rs, k + 1 => (r.set (ll r (outR rs k).2 (r.length - 1)) (outR rs k).2 :: (outR rs k).1, r.getD (ll r (outR rs k).2 (r.length - 1)) 0)
def fullR (T : List (List Int)) : List (List Int) := T.filter fun r => decide (0 < r.length)
theorem Tab.full : ∀ {T : List (List Int)}, Tab T → fullR T = T
  | [], _ => rfl
  | r :: t, h => by
    have h0 : 0 < r.length := by
      rcases Nat.eq_zero_or_pos r.length with z | z
      · exact absurd (List.length_eq_zero_iff.mp z) h.1
      · exact z
    unfold fullR
    rw [List.filter_cons_of_pos (by simpa using h0)]
    exact congrArg _ (Tab.full h.2.2.2)
theorem outR_eq : ∀ {rs : List (List Int)} {k : Nat}, Tab rs → Cor rs k → (outR rs k).2 = (outT rs k).2 ∧ fullR (outR rs k).1 = (outT rs k).1
  | [], k, _, h => absurd h.1 (Nat.not_lt_zero _)
  | s :: ss, 0, h, hc => by
    refine ⟨rfl, ?_⟩
    show fullR (s.dropLast :: ss) = if s.length ≤ 1 then ss else s.dropLast :: ss
    have ft := Tab.full h.2.2.2
    unfold fullR at ft ⊢
    split
    · rename_i h1
      rw [List.filter_cons_of_neg (by simp; omega)]
      exact ft
    · rename_i h1
      rw [List.filter_cons_of_pos (by simp; omega), ft]
  | s :: ss, k + 1, h, hc => by
    obtain ⟨e1, e2⟩ := outR_eq h.2.2.2 hc.tail
    have h0 : 0 < s.length := by
      rcases Nat.eq_zero_or_pos s.length with z | z
      · exact absurd (List.length_eq_zero_iff.mp z) h.1
      · exact z
    constructor
    · show s.getD (ll s (outR ss k).2 (s.length - 1)) 0 = s.getD (ll s (outT ss k).2 (s.length - 1)) 0
      rw [e1]
    · show fullR (s.set (ll s (outR ss k).2 (s.length - 1)) (outR ss k).2 :: (outR ss k).1) = s.set (ll s (outT ss k).2 (s.length - 1)) (outT ss k).2 :: (outT ss k).1
      rw [← e2, e1]
      unfold fullR
      rw [List.filter_cons_of_pos (by rw [List.length_set]; simpa using h0)]
theorem Tab.drop : ∀ {T : List (List Int)} (j : Nat), Tab T → Tab (T.drop j)
  | _, 0, h => h
  | [], _ + 1, _ => trivial
  | _ :: t, j + 1, h => Tab.drop (T := t) j h.2.2.2
theorem getD_drop2 {α : Type} (l : List α) (j i : Nat) (d : α) : (l.drop j).getD i d = l.getD (j + i) d := by
  rw [List.getD_eq_getElem?_getD, List.getElem?_drop, List.getD_eq_getElem?_getD]
theorem Cor.drop {T : List (List Int)} {k j : Nat} (h : Cor T k) (hj : j ≤ k) : Cor (T.drop j) (k - j) := by
  refine ⟨by rw [List.length_drop]; have := h.1; omega, ?_⟩
  rw [getD_drop2, getD_drop2, show j + (k - j + 1) = k + 1 by omega, show j + (k - j) = k by omega]
  exact h.2
theorem outR_step {T : List (List Int)} {j k : Nat} (hj : j + 1 ≤ T.length) : outR (T.drop j) (k + 1) = ((T.getD j []).set (ll (T.getD j []) (outR (T.drop (j + 1)) k).2 ((T.getD j []).length - 1)) (outR (T.drop (j + 1)) k).2 :: (outR (T.drop (j + 1)) k).1, (T.getD j []).getD (ll (T.getD j []) (outR (T.drop (j + 1)) k).2 ((T.getD j []).length - 1)) 0) := by
  rw [drop_step hj []]
  rfl
theorem outT_step {T : List (List Int)} {j k : Nat} (hj : j + 1 ≤ T.length) : outT (T.drop j) (k + 1) = ((T.getD j []).set (ll (T.getD j []) (outT (T.drop (j + 1)) k).2 ((T.getD j []).length - 1)) (outT (T.drop (j + 1)) k).2 :: (outT (T.drop (j + 1)) k).1, (T.getD j []).getD (ll (T.getD j []) (outT (T.drop (j + 1)) k).2 ((T.getD j []).length - 1)) 0) := by
  rw [drop_step hj []]
  rfl
theorem out_less {T : List (List Int)} {j k : Nat} (h : Tab T) (hc : Cor T (j + 1 + k)) : ∃ i, i < (T.getD j []).length ∧ (T.getD j []).getD i 0 < (outT (T.drop (j + 1)) k).2 := by
  have hjl : j < T.length := by have := hc.1; omega
  have hc2 := hc.drop (j := j + 1) (by omega)
  rw [show j + 1 + k - (j + 1) = k by omega] at hc2
  obtain ⟨i, h1, h2, _⟩ := out_ok (h.drop (j + 1)) hc2
  have hd := h.drop j
  rw [drop_step hjl []] at hd
  have hf := hd.2.2.1
  refine ⟨i, Nat.lt_of_lt_of_le h1 hf.1, ?_⟩
  rw [h2]
  exact hf.2 i h1
theorem take_set {T X : List (List Int)} {j : Nat} (hj : j < T.length) (r : List Int) : (T.take (j + 1) ++ X).set j r = T.take j ++ r :: X := by
  have e : T.take (j + 1) = T.take j ++ [T.getD j []] := by
    rw [List.take_succ, List.getD_eq_getElem?_getD, List.getElem?_eq_getElem hj]
    rfl
  have l : (T.take j).length = j := by rw [List.length_take]; omega
  rw [e, List.append_assoc, List.set_append_right _ _ (by omega), l, Nat.sub_self]
  rfl
theorem take_get {T X : List (List Int)} {j : Nat} (hj : j < T.length) : (T.take (j + 1) ++ X).getD j [] = T.getD j [] := by
  rw [List.getD_eq_getElem?_getD, List.getElem?_append_left (by rw [List.length_take]; omega), List.getElem?_take_of_lt (by omega), ← List.getD_eq_getElem?_getD]
theorem cut_init {α : Type} (xs : List α) : cut xs none (some (-1)) = xs.dropLast := by
  unfold cut
  show (xs.drop 0).take ((if (-1 : Int) < 0 then ((-1 : Int) + (xs.length : Int)).toNat else min (-1 : Int).toNat xs.length) - 0) = _
  rw [if_pos (by decide), List.drop_zero, List.dropLast_eq_take]
  congr 1
  omega
theorem tI_init (r : List Int) : PyData.tuple (cut (r.map PyData.int) none (some (-1))) = tI r.dropLast := by
  rw [cut_init]
  show _ = PyData.tuple (r.dropLast.map PyData.int)
  rw [List.map_dropLast]
theorem o_lastT {K : PySem.W.Frag} {O : Own} {Q : SD → Own → Prop} {ns : List Int} (h : 0 < ns.length) (q : Q (iV (ns.getD (ns.length - 1) 0)) O) : OpW K (rIxT K) (.dat (tI ns)) (iV (-1)) O Q := by
  refine o_ixT (d := .int (ns.getD (ns.length - 1) 0)) ?_ q
  have hn : ns.map PyData.int ≠ [] := fun z => by
    have := congrArg List.length z
    rw [List.length_map, List.length_nil] at this
    omega
  rw [at_last (d := PyData.int 0) hn, List.length_map, List.getD_eq_getElem?_getD, List.getElem?_map, List.getElem?_eq_getElem (by omega), gD (by omega)]
  rfl
theorem full_snoc (T : List (List Int)) (r : List Int) : fullR (T ++ [r]) = fullR T ++ if 0 < r.length then [r] else [] := by
  unfold fullR
  rw [List.filter_append]
  congr 1
  by_cases h : 0 < r.length
  · rw [if_pos h, List.filter_cons_of_pos (by simpa using h)]
    rfl
  · rw [if_neg h, List.filter_cons_of_neg (by simpa using h)]
    rfl
theorem full_len (T : List (List Int)) : (fullR T).length ≤ T.length := List.length_filter_le _ _
theorem outT_len : ∀ (rs : List (List Int)) (k : Nat), (outT rs k).1.length ≤ rs.length
  | [], k => Nat.le_refl _
  | r :: rs, 0 => by
    show (if r.length ≤ 1 then rs else r.dropLast :: rs).length ≤ _
    split
    · rw [List.length_cons]
      omega
    · rw [List.length_cons, List.length_cons]
      omega
  | r :: rs, k + 1 => by
    have := outT_len rs k
    show (outT rs k).1.length + 1 ≤ _
    rw [List.length_cons]
    omega
theorem at_snocI {ns t : List Int} {x : Int} (h : ns = t ++ [x]) : atI (ns.map PyData.int) (-1) = some (PyData.int x) := by
  rw [h, List.map_append]
  exact at_snoc _ _
/-- taking out is refused, or not -/
def CanOut (T : List (List Int)) (n : Int) : Prop := 1 ≤ n ∧ Cor T (n - 1).toNat
instance instDecCor (T : List (List Int)) (k : Nat) : Decidable (Cor T k) := inferInstanceAs (Decidable (_ ∧ _))
instance instDecCan (T : List (List Int)) (n : Int) : Decidable (CanOut T n) := inferInstanceAs (Decidable (_ ∧ _))
/-! ### pairs of words -/
def addL : List Nat → Nat → List Nat
  | [], _ => [1]
  | l :: ls, 0 => (l + 1) :: ls
  | l :: ls, k + 1 => l :: addL ls k
def onL : List (List Int) → Nat → Int → List (List Int)
  | [], _, n => [[n]]
  | r :: rs, 0, n => (r ++ [n]) :: rs
  | r :: rs, k + 1, n => r :: onL rs k n
def lensT (T : List (List Int)) : List Nat := T.map List.length
def Desc (ls : List Nat) : Prop := ls.Pairwise (fun a b => b ≤ a)
theorem insT_lens : ∀ (rs : List (List Int)) (x : Int), lensT (insT rs x).1 = addL (lensT rs) ((insT rs x).2 - 1)
  | [], x => rfl
  | r :: rs, x => by
    unfold insT
    split
    · show (r ++ [x]).length :: lensT rs = (r.length + 1) :: lensT rs
      rw [List.length_append]
      rfl
    · have := insT_lens rs (r.getD (fg r x) 0)
      have hno := insT_no rs (r.getD (fg r x) 0)
      obtain ⟨n, hn⟩ : ∃ n, (insT rs (r.getD (fg r x) 0)).2 = n + 1 := ⟨_, (Nat.sub_add_cancel hno.1).symm⟩
      show (r.set (fg r x) x).length :: lensT (insT rs (r.getD (fg r x) 0)).1 = addL (r.length :: lensT rs) ((insT rs (r.getD (fg r x) 0)).2 + 1 - 1)
      rw [this, hn, List.length_set]
      rfl
theorem onL_lens : ∀ (Q : List (List Int)) (k : Nat) (n : Int), lensT (onL Q k n) = addL (lensT Q) k
  | [], k, n => rfl
  | r :: rs, 0, n => by
    show (r ++ [n]).length :: lensT rs = (r.length + 1) :: lensT rs
    rw [List.length_append]
    rfl
  | r :: rs, k + 1, n => by
    show r.length :: lensT (onL rs k n) = r.length :: addL (lensT rs) k
    rw [onL_lens rs k n]
theorem Tab.desc : ∀ {T : List (List Int)}, Tab T → Desc (lensT T)
  | [], _ => List.Pairwise.nil
  | r :: t, h => by
    have ih := Tab.desc h.2.2.2
    refine List.pairwise_cons.mpr ⟨fun m hm => ?_, ih⟩
    have hf := h.2.2.1.1
    cases t with
    | nil => exact absurd hm List.not_mem_nil
    | cons s u =>
      have hs : s.length ≤ r.length := hf
      have hm' : m ∈ s.length :: lensT u := hm
      rcases List.mem_cons.mp hm' with e | hm2
      · rw [e]
        exact hs
      · have := (List.pairwise_cons.mp ih).1 m hm2
        show m ≤ r.length
        have : m ≤ s.length := this
        omega
theorem onL_mem : ∀ {Q : List (List Int)} {k : Nat} {n : Int} {r : List Int} {v : Int}, r ∈ onL Q k n → v ∈ r → v = n ∨ ∃ q ∈ Q, v ∈ q
  | [], k, n, r, v, hr, hv => by
    rw [List.mem_singleton.mp hr] at hv
    exact .inl (List.mem_singleton.mp hv)
  | s :: rs, 0, n, r, v, hr, hv => by
    rcases List.mem_cons.mp hr with e | hr
    · rw [e] at hv
      rcases List.mem_append.mp hv with hv | hv
      · exact .inr ⟨s, List.mem_cons_self, hv⟩
      · exact .inl (List.mem_singleton.mp hv)
    · exact .inr ⟨r, List.mem_cons_of_mem _ hr, hv⟩
  | s :: rs, k + 1, n, r, v, hr, hv => by
    rcases List.mem_cons.mp hr with e | hr
    · rw [e] at hv
      exact .inr ⟨s, List.mem_cons_self, hv⟩
    · rcases onL_mem hr hv with h | ⟨q, hq, h⟩
      · exact .inl h
      · exact .inr ⟨q, List.mem_cons_of_mem _ hq, h⟩
theorem onL_perm : ∀ (Q : List (List Int)) (k : Nat) (n : Int), (onL Q k n).flatten.Perm (Q.flatten ++ [n])
  | [], k, n => .refl _
  | r :: rs, 0, n => by
    show ((r ++ [n]) ++ rs.flatten).Perm ((r ++ rs.flatten) ++ [n])
    rw [List.append_assoc, List.append_assoc]
    exact (List.perm_append_comm).append_left r
  | r :: rs, k + 1, n => by
    show (r ++ (onL rs k n).flatten).Perm ((r ++ rs.flatten) ++ [n])
    rw [List.append_assoc]
    exact (onL_perm rs k n).append_left r
theorem onL_tab : ∀ {Q : List (List Int)} {k : Nat} {n : Int}, Tab Q → (∀ r ∈ Q, ∀ v ∈ r, v < n) → Desc (addL (lensT Q) k) → Tab (onL Q k n)
  | [], k, n, _, _, _ => ⟨List.cons_ne_nil _ _, List.pairwise_singleton _ _, Fit.nil _, trivial⟩
  | r :: rs, 0, n, h, hn, hd => by
    refine ⟨fun z => ?_, h.2.1.app fun k hk => ?_, h.2.2.1.app n, h.2.2.2⟩
    · have := congrArg List.length z
      rw [List.length_append] at this
      simp at this
    · have := hn r List.mem_cons_self (r.getD k 0) (by rw [gD hk]; exact List.getElem_mem hk)
      omega
  | r :: rs, k + 1, n, h, hn, hd => by
    have hd2 := List.pairwise_cons.mp hd
    have ih := onL_tab (k := k) h.2.2.2 (fun q hq => hn q (List.mem_cons_of_mem _ hq)) hd2.2
    refine ⟨h.1, h.2.1, ?_, ih⟩
    have hr := hn r List.mem_cons_self
    have hlt : ∀ j, j < r.length → r.getD j 0 < n := fun j hj => hr _ (by rw [gD hj]; exact List.getElem_mem hj)
    have hr0 : 0 < r.length := by
      rcases Nat.eq_zero_or_pos r.length with z | z
      · exact absurd (List.length_eq_zero_iff.mp z) h.1
      · exact z
    cases rs with
    | nil =>
      refine ⟨hr0, fun j hj => ?_⟩
      have hj' : j < 1 := hj
      have e : j = 0 := by omega
      subst e
      exact hlt 0 hr0
    | cons s u =>
      have hf : Fit r s := h.2.2.1
      cases k with
      | zero =>
        show Fit r (s ++ [n])
        have hl : s.length + 1 ≤ r.length := hd2.1 (s.length + 1) List.mem_cons_self
        refine ⟨by rw [List.length_append]; simp only [List.length_cons, List.length_nil]; omega, fun j hj => ?_⟩
        rw [List.length_append] at hj
        simp only [List.length_cons, List.length_nil] at hj
        rcases Nat.lt_or_ge j s.length with z | z
        · rw [app_gD _ _ _ z]
          exact hf.2 j z
        · have e : j = s.length := by omega
          subst e
          rw [app_gDn]
          exact hlt _ (by omega)
      | succ k => exact hf
def pairA (P Q : List (List Int)) (k : Nat) : List Int → List (List Int) × List (List Int)
  | [] => (P, Q)
  | x :: w => pairA (insT P x).1 (onL Q ((insT P x).2 - 1) ((k + 1 : Nat) : Int)) (k + 1) w
def pairT (w : List Int) : List (List Int) × List (List Int) := pairA [] [] 0 w
theorem pairA_snoc : ∀ (w : List Int) (P Q : List (List Int)) (k : Nat) (x : Int), pairA P Q k (w ++ [x]) = ((insT (pairA P Q k w).1 x).1, onL (pairA P Q k w).2 ((insT (pairA P Q k w).1 x).2 - 1) ((k + w.length + 1 : Nat) : Int))
  | [], P, Q, k, x => rfl
  | y :: w, P, Q, k, x => by
    show pairA _ _ (k + 1) (w ++ [x]) = _
    rw [pairA_snoc w _ _ (k + 1) x]
    show (_, _) = (_, _)
    rw [show k + 1 + w.length + 1 = k + (y :: w).length + 1 by rw [List.length_cons]; omega]
    rfl
theorem pairT_snoc (w : List Int) (x : Int) : pairT (w ++ [x]) = ((insT (pairT w).1 x).1, onL (pairT w).2 ((insT (pairT w).1 x).2 - 1) ((w.length + 1 : Nat) : Int)) := by
  unfold pairT
  rw [pairA_snoc, Nat.zero_add]
theorem pairT_fst (w : List Int) : (pairT w).1 = madeT w := by
  suffices H : ∀ (w : List Int) (P Q : List (List Int)) (k : Nat), (pairA P Q k w).1 = w.foldl (fun t x => (insT t x).1) P from H w [] [] 0
  intro w
  induction w with
  | nil => exact fun _ _ _ => rfl
  | cons x w ih => exact fun P Q k => ih _ _ _
def nums (n : Nat) : List Int := (List.range n).map fun (i : Nat) => (i : Int) + 1
theorem nums_succ (n : Nat) : nums (n + 1) = nums n ++ [((n + 1 : Nat) : Int)] := by
  unfold nums
  rw [List.range_succ, List.map_append]
  rfl
theorem nums_mem {n : Nat} {v : Int} (h : v ∈ nums n) : 1 ≤ v ∧ v ≤ n := by
  obtain ⟨i, hi, rfl⟩ := List.mem_map.mp h
  have := List.mem_range.mp hi
  omega
structure PairOk (n : Nat) (P Q : List (List Int)) : Prop where
  tp : Tab P
  tq : Tab Q
  lens : lensT Q = lensT P
  perm : Q.flatten.Perm (nums n)
theorem PairOk.mem {n : Nat} {P Q : List (List Int)} (h : PairOk n P Q) : ∀ r ∈ Q, ∀ v ∈ r, 1 ≤ v ∧ v ≤ n := fun r hr v hv =>
  nums_mem (h.perm.mem_iff.mp (List.mem_flatten.mpr ⟨r, hr, hv⟩))
theorem PairOk.next {n : Nat} {P Q : List (List Int)} (h : PairOk n P Q) (x : Int) : PairOk (n + 1) (insT P x).1 (onL Q ((insT P x).2 - 1) ((n + 1 : Nat) : Int)) := by
  have ht := insT_tab (x := x) h.tp
  have hl := insT_lens P x
  have ho := onL_lens Q ((insT P x).2 - 1) ((n + 1 : Nat) : Int)
  rw [h.lens, ← hl] at ho
  refine ⟨ht, onL_tab h.tq (fun r hr v hv => by have := (h.mem r hr v hv).2; omega) ?_, ho, ?_⟩
  · rw [h.lens, ← hl]
    exact ht.desc
  · rw [nums_succ]
    exact (onL_perm _ _ _).trans (h.perm.append_right _)
theorem pairT_ok : ∀ w : List Int, PairOk w.length (pairT w).1 (pairT w).2 := by
  suffices H : ∀ (w : List Int) (P Q : List (List Int)) (k : Nat), PairOk k P Q → PairOk (k + w.length) (pairA P Q k w).1 (pairA P Q k w).2 by
    intro w
    have := H w [] [] 0 ⟨trivial, trivial, rfl, .refl _⟩
    rw [Nat.zero_add] at this
    exact this
  intro w
  induction w with
  | nil => exact fun _ _ _ h => h
  | cons x w ih =>
    intro P Q k h
    have := ih _ _ _ (h.next x)
    rw [List.length_cons, show k + (w.length + 1) = k + 1 + w.length by omega]
    exact this
theorem nums_pair (n : Nat) : (nums n).Pairwise (· ≤ ·) := by
  induction n with
  | zero => exact List.Pairwise.nil
  | succ n ih =>
    rw [nums_succ]
    refine List.pairwise_append.mpr ⟨ih, List.pairwise_singleton _ _, fun a ha b hb => ?_⟩
    rw [List.mem_singleton.mp hb]
    have := nums_mem ha
    omega
theorem sorted_eq : ∀ {a b : List Int}, a.Perm b → a.Pairwise (· ≤ ·) → b.Pairwise (· ≤ ·) → a = b
  | [], b, h, _, _ => (List.nil_perm.mp h).symm ▸ rfl
  | x :: a, [], h, _, _ => absurd h.length_eq (by simp)
  | x :: a, y :: b, h, h1, h2 => by
    have p1 := List.pairwise_cons.mp h1
    have p2 := List.pairwise_cons.mp h2
    have e : x = y := by
      have m1 : x ∈ y :: b := h.mem_iff.mp List.mem_cons_self
      have m2 : y ∈ x :: a := h.mem_iff.mpr List.mem_cons_self
      rcases List.mem_cons.mp m1 with e | m1
      · exact e
      · rcases List.mem_cons.mp m2 with e | m2
        · exact e.symm
        · have := p2.1 x m1
          have := p1.1 y m2
          omega
    subst e
    rw [sorted_eq (List.perm_cons x |>.mp h) p1.2 p2.2]
theorem onL_set : ∀ (T : List (List Int)) (k : Nat) (n : Int), k ≤ T.length → onL T k n = T.take k ++ [T.getD k [] ++ [n]] ++ T.drop (k + 1)
  | [], k, n, h => by
    have e : k = 0 := by simpa using h
    subst e
    rfl
  | r :: rs, 0, n, _ => rfl
  | r :: rs, k + 1, n, h => by
    show r :: onL rs k n = _
    rw [onL_set rs k n (by rw [List.length_cons] at h; omega)]
    rfl
theorem onL_in (T : List (List Int)) (k : Nat) (n : Int) (h : k < T.length) : onL T k n = T.set k (T.getD k [] ++ [n]) := by
  rw [onL_set T k n (by omega), List.set_eq_take_append_cons_drop, if_pos h, List.append_assoc]
  rfl
theorem onL_end (T : List (List Int)) (n : Int) : onL T T.length n = T ++ [[n]] := by
  rw [onL_set T T.length n (Nat.le_refl _), List.take_length, List.drop_eq_nil_of_le (by omega), List.append_nil, List.getD_eq_getElem?_getD, List.getElem?_eq_none (Nat.le_refl _)]
  rfl
theorem szT_lens (T : List (List Int)) : szT T = (lensT T).sum := rfl
theorem sz_flat : ∀ T : List (List Int), szT T = T.flatten.length
  | [] => rfl
  | r :: t => by
    show r.length + szT t = (r ++ t.flatten).length
    rw [sz_flat t, List.length_append]
theorem nums_len (n : Nat) : (nums n).length = n := by
  unfold nums
  rw [List.length_map, List.length_range]
theorem PairOk.szq {n : Nat} {P Q : List (List Int)} (h : PairOk n P Q) : szT Q = n := by
  rw [sz_flat, h.perm.length_eq, nums_len]
theorem PairOk.szp {n : Nat} {P Q : List (List Int)} (h : PairOk n P Q) : szT P = n := by
  rw [szT_lens, ← h.lens, ← szT_lens, h.szq]
theorem PairOk.len {n : Nat} {P Q : List (List Int)} (h : PairOk n P Q) : Q.length = P.length := by
  have := congrArg List.length h.lens
  unfold lensT at this
  rw [List.length_map, List.length_map] at this
  exact this
theorem take_nextP {ns : List Int} {i : Nat} (h : i < ns.length) : ns.take (i + 1) = ns.take i ++ [ns.getD i 0] := by
  rw [List.take_succ, List.getD_eq_getElem?_getD, List.getElem?_eq_getElem h]
  rfl
/-! ### the word of a pair -/
def rowOf : List (List Int) → Int → Nat
  | [], _ => 0
  | r :: rs, v => if v ∈ r then 0 else rowOf rs v + 1
theorem rowOf_new : ∀ (Q : List (List Int)) (k : Nat) (n : Int), k ≤ Q.length → (∀ r ∈ Q, n ∉ r) → rowOf (onL Q k n) n = k
  | [], k, n, h, _ => by
    have : k = 0 := Nat.le_zero.mp h
    subst this
    show (if n ∈ [n] then 0 else _) = 0
    rw [if_pos List.mem_cons_self]
  | r :: rs, 0, n, _, _ => by
    show (if n ∈ r ++ [n] then 0 else _) = 0
    rw [if_pos (List.mem_append_right _ List.mem_cons_self)]
  | r :: rs, k + 1, n, h, hn => by
    show (if n ∈ r then 0 else rowOf (onL rs k n) n + 1) = k + 1
    rw [if_neg (hn r List.mem_cons_self), rowOf_new rs k n (Nat.le_of_succ_le_succ h) fun q hq => hn q (List.mem_cons_of_mem _ hq)]
theorem rowOf_old : ∀ (Q : List (List Int)) (k : Nat) (n v : Int), v ≠ n → (∃ r ∈ Q, v ∈ r) → rowOf (onL Q k n) v = rowOf Q v
  | [], k, n, v, _, ⟨_, h, _⟩ => absurd h List.not_mem_nil
  | r :: rs, 0, n, v, hv, h => by
    show (if v ∈ r ++ [n] then 0 else rowOf rs v + 1) = (if v ∈ r then 0 else rowOf rs v + 1)
    by_cases e : v ∈ r
    · rw [if_pos e, if_pos (List.mem_append_left _ e)]
    · rw [if_neg e, if_neg fun z => by
        rcases List.mem_append.mp z with z | z
        · exact e z
        · exact hv (List.mem_singleton.mp z)]
  | r :: rs, k + 1, n, v, hv, h => by
    show (if v ∈ r then 0 else rowOf (onL rs k n) v + 1) = (if v ∈ r then 0 else rowOf rs v + 1)
    by_cases e : v ∈ r
    · rw [if_pos e, if_pos e]
    · rw [if_neg e, if_neg e, rowOf_old rs k n v hv]
      obtain ⟨q, hq, hvq⟩ := h
      rcases List.mem_cons.mp hq with rfl | hq
      · exact absurd hvq e
      · exact ⟨q, hq, hvq⟩
theorem rowOf_lt : ∀ (Q : List (List Int)) (v : Int), (∃ r ∈ Q, v ∈ r) → rowOf Q v < Q.length ∧ v ∈ Q.getD (rowOf Q v) []
  | [], v, ⟨_, h, _⟩ => absurd h List.not_mem_nil
  | r :: rs, v, h => by
    show (if v ∈ r then 0 else rowOf rs v + 1) < _ ∧ v ∈ (r :: rs).getD (if v ∈ r then 0 else rowOf rs v + 1) []
    by_cases e : v ∈ r
    · rw [if_pos e]
      exact ⟨Nat.zero_lt_succ _, e⟩
    · rw [if_neg e]
      obtain ⟨q, hq, hvq⟩ := h
      rcases List.mem_cons.mp hq with rfl | hq
      · exact absurd hvq e
      · have := rowOf_lt rs v ⟨q, hq, hvq⟩
        exact ⟨Nat.succ_lt_succ this.1, this.2⟩
/-- where a word is cut, its pair has the numbers in the same rows -/
theorem PairOk.has {n : Nat} {P Q : List (List Int)} (h : PairOk n P Q) {v : Nat} (h1 : 1 ≤ v) (h2 : v ≤ n) : ∃ r ∈ Q, ((v : Nat) : Int) ∈ r := by
  have : ((v : Nat) : Int) ∈ nums n := List.mem_map.mpr ⟨v - 1, List.mem_range.mpr (by omega), by omega⟩
  obtain ⟨r, hr, hv⟩ := List.mem_flatten.mp (h.perm.mem_iff.mpr this)
  exact ⟨r, hr, hv⟩
theorem row_pair (w : List Int) (x : Int) : rowOf (pairT (w ++ [x])).2 ((w.length + 1 : Nat) : Int) = (insT (pairT w).1 x).2 - 1 := by
  have hp := pairT_ok w
  have hno := insT_no (pairT w).1 x
  have hl := hp.len
  rw [pairT_snoc]
  exact rowOf_new _ _ _ (by omega) fun r hr z => by
    have := (hp.mem r hr _ z).2
    omega
theorem row_keep (w : List Int) {v : Nat} (h1 : 1 ≤ v) (h2 : v ≤ w.length) : ∀ (n : Nat) (s : List Int), s.length = n → rowOf (pairT (w ++ s)).2 (v : Int) = rowOf (pairT w).2 (v : Int)
  | 0, s, h => by rw [List.length_eq_zero_iff.mp h, List.append_nil]
  | n + 1, s, h => by
    rcases List.eq_nil_or_concat s with rfl | ⟨t, y, rfl⟩
    · cases h
    · rw [List.concat_eq_append] at h ⊢
      rw [List.length_append] at h
      rw [← row_keep w h1 h2 n t (by simpa using h), ← List.append_assoc, pairT_snoc]
      exact rowOf_old _ _ _ _ (by rw [List.length_append]; omega) ((pairT_ok (w ++ t)).has h1 (by rw [List.length_append]; omega))
/-- the greatest number goes: what is left -/
def delL : List (List Int) → Nat → List (List Int)
  | [], _ => []
  | r :: rs, 0 => if r.length ≤ 1 then rs else r.dropLast :: rs
  | r :: rs, k + 1 => r :: delL rs k
theorem Asc.last {r : List Int} (h : Asc r) {N : Int} (hN : N ∈ r) (hm : ∀ v ∈ r, v ≤ N) : 0 < r.length ∧ r.getD (r.length - 1) 0 = N := by
  obtain ⟨j, hj, e⟩ := List.mem_iff_getElem.mp hN
  have hl := h.le (i := j) (j := r.length - 1) (by omega) (by omega)
  have e2 : r.getD j 0 = N := by rw [gD hj]; exact e
  have e3 : r.getD (r.length - 1) 0 ≤ N := by
    rw [gD (by omega)]
    exact hm _ (List.getElem_mem _)
  exact ⟨by omega, by omega⟩
theorem Fit.init {a b : List Int} (h : Fit a b) : Fit a b.dropLast := ⟨by rw [List.length_dropLast]; have := h.1; omega, fun j hj => by
  rw [List.length_dropLast] at hj
  rw [drop_gD b hj]
  exact h.2 j (by omega)⟩
theorem del_ok : ∀ {Q : List (List Int)} {N : Int}, Tab Q → (∀ r ∈ Q, ∀ v ∈ r, v ≤ N) → (∃ r ∈ Q, N ∈ r) → Cor Q (rowOf Q N) ∧ Tab (delL Q (rowOf Q N)) ∧ onL (delL Q (rowOf Q N)) (rowOf Q N) N = Q
  | [], N, _, _, ⟨_, h, _⟩ => absurd h List.not_mem_nil
  | r :: rs, N, ht, hm, h => by
    obtain ⟨h1, h2, h3, h4⟩ := ht
    by_cases e : N ∈ r
    · have er : rowOf (r :: rs) N = 0 := if_pos e
      rw [er]
      obtain ⟨hl0, hl⟩ := h2.last e (hm r List.mem_cons_self)
      have hc : (rs.headD []).length < r.length := by
        rcases Nat.lt_or_ge (rs.headD []).length r.length with z | z
        · exact z
        · exfalso
          have e1 : (rs.headD []).length = r.length := Nat.le_antisymm h3.1 z
          have := h3.2 (r.length - 1) (by omega)
          rw [hl] at this
          cases rs with
          | nil => rw [show ([] : List (List Int)).headD [] = [] from rfl, List.length_nil] at e1; omega
          | cons s ss =>
            have e2 : s.length = r.length := e1
            have h5 : N < s.getD (r.length - 1) 0 := this
            rw [gD (by omega)] at h5
            have := hm s (List.mem_cons_of_mem _ List.mem_cons_self) _ (List.getElem_mem (show r.length - 1 < s.length by omega))
            omega
      refine ⟨⟨Nat.zero_lt_succ _, by rw [getD_one]; exact hc⟩, ?_⟩
      have hla := last_app hl0
      rw [hl] at hla
      show Tab (if r.length ≤ 1 then rs else r.dropLast :: rs) ∧ onL (if r.length ≤ 1 then rs else r.dropLast :: rs) 0 N = r :: rs
      by_cases h5 : r.length ≤ 1
      · rw [if_pos h5]
        have e0 : rs = [] := h4.nil_of (by omega)
        subst e0
        refine ⟨trivial, ?_⟩
        show [[N]] = [r]
        have : r.dropLast = [] := List.length_eq_zero_iff.mp (by rw [List.length_dropLast]; omega)
        rw [this] at hla
        rw [← hla]
        rfl
      · rw [if_neg h5]
        refine ⟨⟨fun z => by have := congrArg List.length z; rw [List.length_dropLast, List.length_nil] at this; omega, List.Pairwise.sublist (List.dropLast_sublist r) h2, ⟨by rw [List.length_dropLast]; omega, fun j hj => ?_⟩, h4⟩, ?_⟩
        · rw [drop_gD r (by omega)]
          exact h3.2 j hj
        · show (r.dropLast ++ [N]) :: rs = r :: rs
          rw [hla]
    · have er : rowOf (r :: rs) N = rowOf rs N + 1 := if_neg e
      obtain ⟨q, hq, hvq⟩ := h
      have hx : ∃ r ∈ rs, N ∈ r := by
        rcases List.mem_cons.mp hq with rfl | hq
        · exact absurd hvq e
        · exact ⟨q, hq, hvq⟩
      obtain ⟨i1, i2, i3⟩ := del_ok h4 (fun q hq => hm q (List.mem_cons_of_mem _ hq)) hx
      rw [er]
      refine ⟨⟨Nat.succ_lt_succ i1.1, i1.2⟩, ⟨h1, h2, ?_, i2⟩, ?_⟩
      · cases rs with
        | nil => exact absurd i1.1 (Nat.not_lt_zero _)
        | cons s ss =>
          cases hk : rowOf (s :: ss) N with
          | zero =>
            rw [hk] at i1
            show Fit r ((if s.length ≤ 1 then ss else s.dropLast :: ss).headD [])
            by_cases h5 : s.length ≤ 1
            · rw [if_pos h5]
              have h6 := i1.2
              rw [getD_one] at h6
              have h6 : (ss.headD []).length < s.length := h6
              exact ⟨by omega, fun j hj => by omega⟩
            · rw [if_neg h5]
              exact h3.init
          | succ k => exact h3
      · show r :: onL (delL rs (rowOf rs N)) (rowOf rs N) N = r :: rs
        rw [i3]
theorem addL_inj : ∀ {a b : List Nat} {k : Nat}, (∀ l ∈ a, 0 < l) → (∀ l ∈ b, 0 < l) → addL a k = addL b k → a = b
  | [], [], _, _, _, _ => rfl
  | [], l :: ls, 0, _, hb, h => by
    have h : [1] = (l + 1) :: ls := h
    injection h with h1 _
    have := hb l List.mem_cons_self
    omega
  | [], l :: ls, k + 1, _, _, h => by
    have h : [1] = l :: addL ls k := h
    injection h with _ h2
    cases ls <;> cases k <;> cases h2
  | l :: ls, [], 0, ha, _, h => by
    have h : (l + 1) :: ls = [1] := h
    injection h with h1 _
    have := ha l List.mem_cons_self
    omega
  | l :: ls, [], k + 1, _, _, h => by
    have h : l :: addL ls k = [1] := h
    injection h with _ h2
    cases ls <;> cases k <;> cases h2
  | l :: ls, m :: ms, 0, _, _, h => by
    have h : (l + 1) :: ls = (m + 1) :: ms := h
    injection h with h1 h2
    rw [h2, Nat.succ.inj h1]
  | l :: ls, m :: ms, k + 1, ha, hb, h => by
    have h : l :: addL ls k = m :: addL ms k := h
    injection h with h1 h2
    rw [h1, addL_inj (fun x hx => ha x (List.mem_cons_of_mem _ hx)) (fun x hx => hb x (List.mem_cons_of_mem _ hx)) h2]
theorem Tab.pos : ∀ {T : List (List Int)}, Tab T → ∀ l ∈ lensT T, 0 < l
  | [], _, l, h => absurd h List.not_mem_nil
  | r :: t, ht, l, h => by
    rcases List.mem_cons.mp h with rfl | h
    · exact List.length_pos_iff.mpr ht.1
    · exact Tab.pos ht.2.2.2 l h
theorem lens_getD (T : List (List Int)) (k : Nat) : (T.getD k []).length = (lensT T).getD k 0 := by
  rw [lensT, List.getD_eq_getElem?_getD, List.getD_eq_getElem?_getD, List.getElem?_map]
  cases T[k]? <;> rfl
theorem Cor.lens {P Q : List (List Int)} (h : lensT P = lensT Q) {k : Nat} (hc : Cor Q k) : Cor P k := by
  have e : P.length = Q.length := by
    have := congrArg List.length h
    rwa [lensT, lensT, List.length_map, List.length_map] at this
  obtain ⟨c1, c2⟩ := hc
  rw [lens_getD, lens_getD, ← h, ← lens_getD, ← lens_getD] at c2
  exact ⟨by omega, c2⟩
theorem pair_word : ∀ (n : Nat) {P Q : List (List Int)}, PairOk n P Q → ∃ w : List Int, w.length = n ∧ pairT w = (P, Q)
  | 0, P, Q, h => by
    have hq := h.szq
    have hp := h.szp
    have nil : ∀ {T : List (List Int)}, Tab T → szT T = 0 → T = [] := fun {T} ht hs => by
      cases T with
      | nil => rfl
      | cons r t =>
        have h1 := List.length_pos_iff.mpr ht.1
        have : szT (r :: t) = r.length + szT t := by rw [szT, szT, List.map_cons, List.sum_cons]
        omega
    have e1 := nil h.tp hp
    have e2 := nil h.tq hq
    subst e1 e2
    exact ⟨[], rfl, rfl⟩
  | n + 1, P, Q, h => by
    have hx := h.has (v := n + 1) (by omega) (Nat.le_refl _)
    have hmx : ∀ r ∈ Q, ∀ v ∈ r, v ≤ ((n + 1 : Nat) : Int) := fun r hr v hv => (h.mem r hr v hv).2
    obtain ⟨d1, d2, d3⟩ := del_ok h.tq hmx hx
    generalize hk : rowOf Q ((n + 1 : Nat) : Int) = k at *
    generalize hQ : delL Q k = Q' at *
    have c := Cor.lens h.lens.symm d1
    obtain ⟨i, _, _, o1, o2, _⟩ := out_ok h.tp c
    generalize hP : (outT P k).1 = P' at *
    generalize hxx : (outT P k).2 = x at *
    have l1 := insT_lens P' x
    rw [o2] at l1
    have l1 : lensT P = addL (lensT P') k := l1
    have l2 := onL_lens Q' k ((n + 1 : Nat) : Int)
    rw [d3, h.lens, l1] at l2
    have l3 := addL_inj o1.pos d2.pos l2
    have pm := onL_perm Q' k ((n + 1 : Nat) : Int)
    rw [d3] at pm
    have pm2 := (pm.symm.trans h.perm)
    rw [nums_succ] at pm2
    have pm3 : Q'.flatten.Perm (nums n) := (List.perm_append_right_iff _).mp pm2
    obtain ⟨w, hw, hpw⟩ := pair_word n (P := P') (Q := Q') ⟨o1, d2, l3.symm, pm3⟩
    refine ⟨w ++ [x], by rw [List.length_append, hw]; rfl, ?_⟩
    rw [pairT_snoc, hpw, hw]
    show ((insT P' x).1, onL Q' ((insT P' x).2 - 1) ((n + 1 : Nat) : Int)) = (P, Q)
    rw [o2]
    show (P, onL Q' (k + 1 - 1) ((n + 1 : Nat) : Int)) = (P, Q)
    rw [Nat.add_sub_cancel, d3]
/-! ### the word of a pair, by the dict of rows -/
theorem rg_numsW (n : Nat) : rgI 1 ((n : Int) + 1) = nums n := by
  unfold rgI nums
  rw [show ((n : Int) + 1 - 1).toNat = n by omega]
  apply List.map_congr_left
  intro i _
  omega
theorem flat_uniq : ∀ {U : List (List Int)}, U.flatten.Nodup → ∀ (v : Int) (i : Nat), v ∈ U.getD i [] → rowOf U v = i
  | [], _, v, i, h => by
    rw [List.getD_eq_getElem?_getD, List.getElem?_nil] at h
    exact absurd h List.not_mem_nil
  | r :: rs, hn, v, 0, h => if_pos h
  | r :: rs, hn, v, i + 1, h => by
    rw [List.flatten_cons] at hn
    obtain ⟨_, h2, h3⟩ := List.nodup_append.mp hn
    have hm : v ∈ rs.getD i [] := h
    have hf : v ∈ rs.flatten := by
      rw [List.getD_eq_getElem?_getD] at hm
      cases e : rs[i]? with
      | none => rw [e] at hm; exact absurd hm List.not_mem_nil
      | some q => rw [e] at hm; exact List.mem_flatten.mpr ⟨q, List.mem_of_getElem? e, hm⟩
    have hr : v ∉ r := fun z => h3 v z v hf rfl
    show (if v ∈ r then 0 else rowOf rs v + 1) = i + 1
    rw [if_neg hr, flat_uniq h2 v i hm]
theorem nums_nodup (n : Nat) : (nums n).Nodup := by
  refine List.Pairwise.map _ (fun a b h => ?_) List.nodup_range
  intro e
  omega
theorem mem_nums {n : Nat} {v : Int} : v ∈ nums n ↔ 1 ≤ v ∧ v ≤ n := ⟨nums_mem, fun h => List.mem_map.mpr ⟨(v - 1).toNat, List.mem_range.mpr (by omega), by omega⟩⟩
theorem PairOk.nodup {n : Nat} {P Q : List (List Int)} (h : PairOk n P Q) : Q.flatten.Nodup := h.perm.nodup_iff.mpr (nums_nodup n)
theorem PairOk.iff {n : Nat} {P Q : List (List Int)} (h : PairOk n P Q) (v : Int) : (∃ r ∈ Q, v ∈ r) ↔ 1 ≤ v ∧ v ≤ n := by
  rw [← mem_nums, ← h.perm.mem_iff, List.mem_flatten]
theorem szT_nx (T : List (List Int)) {n : Nat} (h : n < T.length) : szT (T.take (n + 1)) = szT (T.take n) + (T.getD n []).length := by
  rw [List.take_succ, List.getElem?_eq_getElem h, List.getD_eq_getElem?_getD, List.getElem?_eq_getElem h]
  unfold szT
  rw [List.map_append, List.sum_append]
  simp
theorem rowK_sz (T : List (List Int)) : ∀ n, n ≤ T.length → (rowK T n).length ≤ szT (T.take n)
  | 0, _ => Nat.zero_le _
  | n + 1, h => by
    have h1 := addK_len n (T.getD n []) (rowK T n)
    have h2 := rowK_sz T n (by omega)
    rw [szT_nx T (by omega)]
    show (addK (rowK T n) n (T.getD n [])).length ≤ _
    omega
theorem mem_getD {T : List (List Int)} {v : Int} : (∃ r ∈ T, v ∈ r) ↔ ∃ i, i < T.length ∧ v ∈ T.getD i [] := ⟨fun ⟨r, hr, hv⟩ => by
  obtain ⟨i, hi, e⟩ := List.mem_iff_getElem.mp hr
  exact ⟨i, hi, by rw [List.getD_eq_getElem?_getD, List.getElem?_eq_getElem hi, e]; exact hv⟩, fun ⟨i, hi, hv⟩ => ⟨T[i], List.getElem_mem hi, by
  rw [List.getD_eq_getElem?_getD, List.getElem?_eq_getElem hi] at hv
  exact hv⟩⟩
/-- a word's pair at a number -/
theorem word_step (w : List Int) {m : Nat} (h : m < w.length) :
    valV (rowK (pairT w).2 (pairT w).2.length) (.inl ((m : Int) + 1)) = some (V.int ((rowOf (pairT w).2 ((m : Int) + 1) : Nat) + 1)) ∧ CanOut (pairT (w.take (m + 1))).1 ((rowOf (pairT w).2 ((m : Int) + 1) : Nat) + 1) ∧
    outT (pairT (w.take (m + 1))).1 (rowOf (pairT w).2 ((m : Int) + 1)) = ((pairT (w.take m)).1, w.getD m 0) := by
  have hp := pairT_ok w
  have hx := hp.has (v := m + 1) (by omega) (by omega)
  have hlt := rowOf_lt _ _ hx
  have et : w.take (m + 1) = w.take m ++ [w.getD m 0] := by
    rw [List.take_succ, List.getD_eq_getElem?_getD, List.getElem?_eq_getElem h]
    rfl
  have hl : (w.take m).length = m := by rw [List.length_take]; omega
  have e1 := row_pair (w.take m) (w.getD m 0)
  rw [← et, hl] at e1
  have e2 := row_keep (w.take (m + 1)) (v := m + 1) (by omega) (by rw [List.length_take]; omega) _ (w.drop (m + 1)) rfl
  rw [List.take_append_drop, e1] at e2
  have ev : ((m + 1 : Nat) : Int) = (m : Int) + 1 := rfl
  rw [ev] at e2 hlt hx
  have io := ins_out (w.getD m 0) (pairT_ok (w.take m)).tp
  have e3 : (pairT (w.take (m + 1))).1 = (insT (pairT (w.take m)).1 (w.getD m 0)).1 := by rw [et, pairT_snoc]
  rw [← e3, ← e2] at io
  refine ⟨rowK_val _ _ _ hlt.2 (fun j hj => (flat_uniq hp.nodup _ _ hj).symm) _ hlt.1, ⟨by omega, ?_⟩, io.2⟩
  rw [show ((rowOf (pairT w).2 ((m : Int) + 1) : Nat) + 1 - 1 : Int).toNat = rowOf (pairT w).2 ((m : Int) + 1) by omega]
  exact io.1
def BadP (P Q : List (List Int)) : Prop := 60 < szT Q ∨ ¬ (∀ v : Int, (∃ r ∈ Q, v ∈ r) ↔ 1 ≤ v ∧ v ≤ szT Q) ∨ lensT P ≠ lensT Q
theorem lensT_int (T : List (List Int)) : (T.map fun r => (r.length : Int)) = (lensT T).map fun (n : Nat) => (n : Int) := by
  show _ = (T.map List.length).map fun (n : Nat) => (n : Int)
  rw [List.map_map]
  rfl
theorem int_inj : ∀ {a b : List Nat}, (a.map fun (n : Nat) => (n : Int)) = b.map (fun (n : Nat) => (n : Int)) → a = b
  | [], [], _ => rfl
  | [], _ :: _, h => by cases h
  | _ :: _, [], h => by cases h
  | x :: a, y :: b, h => by
    rw [List.map_cons, List.map_cons] at h
    injection h with h1 h2
    rw [int_inj h2, show x = y by omega]
/-! ### numbers put into a shape from its end: what a second tableau is made of -/
def plusR (N : Nat) (Q R : List (List Int)) : List (List Int) := (List.range N).map fun k => Q.getD k [] ++ R.getD k []
theorem plusR_len (N : Nat) (Q R : List (List Int)) : (plusR N Q R).length = N := by rw [plusR, List.length_map, List.length_range]
theorem plusR_get {N : Nat} (Q R : List (List Int)) {k : Nat} (h : k < N) : (plusR N Q R).getD k [] = Q.getD k [] ++ R.getD k [] := by
  rw [List.getD_eq_getElem?_getD, plusR, List.getElem?_map, List.getElem?_range h]
  rfl
theorem ext_L {α : Type} {a b : List α} (d : α) (hl : a.length = b.length) (h : ∀ i, i < a.length → a.getD i d = b.getD i d) : a = b := by
  refine List.ext_getElem hl fun i h1 h2 => ?_
  have := h i h1
  rw [List.getD_eq_getElem?_getD, List.getD_eq_getElem?_getD, List.getElem?_eq_getElem h1, List.getElem?_eq_getElem h2] at this
  exact this
/-- what is still to be filled (ls), what was filled (R): any tableau of ls with the numbers to n makes the whole one -/
def Fill (P : List (List Int)) (n m : Nat) (ls : List Nat) (R : List (List Int)) : Prop :=
  ∀ Q : List (List Int), Tab Q → Q.flatten.Perm (nums m) → (∀ k, (Q.getD k []).length = ls.getD k 0) → PairOk n P (plusR P.length Q R)
theorem getD_none {α : Type} {xs : List α} {k : Nat} (d : α) (h : xs.length ≤ k) : xs.getD k d = d := by
  rw [List.getD_eq_getElem?_getD, List.getElem?_eq_none h]
  rfl
theorem Tab.rowpos {T : List (List Int)} (h : Tab T) {k : Nat} (hk : k < T.length) : 0 < (T.getD k []).length := by
  have := h.pos (T.getD k []).length (List.mem_map.mpr ⟨T[k], List.getElem_mem hk, by rw [List.getD_eq_getElem?_getD, List.getElem?_eq_getElem hk]; rfl⟩)
  exact this
theorem fill_0 {P : List (List Int)} (hP : Tab P) : Fill P (szT P) (szT P) (lensT P) (List.replicate P.length []) := fun Q hQ hp hl => by
  have hlen : Q.length = P.length := by
    rcases Nat.lt_trichotomy Q.length P.length with h | h | h
    · have h1 := hl Q.length
      rw [getD_none [] (Nat.le_refl _), ← lens_getD] at h1
      have := hP.rowpos h
      rw [List.length_nil] at h1
      omega
    · exact h
    · have h1 := hl P.length
      have h2 := hQ.rowpos h
      rw [← lens_getD, getD_none [] (Nat.le_refl P.length), List.length_nil] at h1
      omega
  have e : plusR P.length Q (List.replicate P.length []) = Q := by
    refine ext_L [] (by rw [plusR_len, hlen]) fun i hi => ?_
    rw [plusR_len] at hi
    rw [plusR_get _ _ hi, List.getD_eq_getElem?_getD (l := List.replicate _ _), List.getElem?_replicate, if_pos hi]
    exact List.append_nil _
  rw [e]
  refine ⟨hP, hQ, ?_, hp⟩
  refine ext_L 0 (by rw [lensT, lensT, List.length_map, List.length_map, hlen]) fun i _ => ?_
  rw [← lens_getD, hl i]
theorem Desc.le {ls : List Nat} (h : Desc ls) {i j : Nat} (hij : i ≤ j) : ls.getD j 0 ≤ ls.getD i 0 := by
  rcases Nat.lt_or_ge j ls.length with hj | hj
  · rw [List.getD_eq_getElem?_getD, List.getD_eq_getElem?_getD, List.getElem?_eq_getElem hj, List.getElem?_eq_getElem (show i < ls.length by omega)]
    rcases Nat.lt_or_ge i j with h1 | h1
    · exact List.pairwise_iff_getElem.mp h i j (by omega) hj h1
    · have : i = j := by omega
      subst this
      exact Nat.le_refl _
  · rw [getD_none 0 hj]
    exact Nat.zero_le _
theorem Desc.of {ls : List Nat} (h : ∀ i, i + 1 < ls.length → ls.getD (i + 1) 0 ≤ ls.getD i 0) : Desc ls := by
  refine List.pairwise_iff_getElem.mpr fun i j hi hj hij => ?_
  obtain ⟨d, rfl⟩ : ∃ d, j = i + 1 + d := ⟨j - i - 1, by omega⟩
  have : ∀ d, i + 1 + d < ls.length → ls.getD (i + 1 + d) 0 ≤ ls.getD i 0 := fun d => by
    induction d with
    | zero => exact fun hd => h i hd
    | succ d ih => exact fun hd => Nat.le_trans (h (i + 1 + d) hd) (ih (by omega))
  have := this d hj
  rwa [List.getD_eq_getElem?_getD, List.getD_eq_getElem?_getD, List.getElem?_eq_getElem hj, List.getElem?_eq_getElem hi] at this
theorem addL_get : ∀ (ls : List Nat) (k i : Nat), k ≤ ls.length → (addL ls k).getD i 0 = if i = k then ls.getD i 0 + 1 else ls.getD i 0
  | [], k, i, h => by
    have : k = 0 := Nat.le_zero.mp h
    subst this
    cases i with
    | zero => rfl
    | succ i =>
      rw [if_neg (by omega)]
      show ([1] : List Nat).getD (i + 1) 0 = ([] : List Nat).getD (i + 1) 0
      rw [getD_none 0 (by simp), getD_none 0 (by simp)]
  | l :: ls, 0, i, h => by
    cases i with
    | zero => rfl
    | succ i => rfl
  | l :: ls, k + 1, i, h => by
    cases i with
    | zero => rfl
    | succ i =>
      have := addL_get ls k i (Nat.le_of_succ_le_succ h)
      show (addL ls k).getD i 0 = if i + 1 = k + 1 then ls.getD i 0 + 1 else ls.getD i 0
      rw [this]
      by_cases e : i = k
      · rw [if_pos e, if_pos (by omega)]
      · rw [if_neg e, if_neg (by omega)]
theorem onL_get : ∀ (Q : List (List Int)) (k : Nat) (n : Int) (i : Nat), k ≤ Q.length → (onL Q k n).getD i [] = if i = k then Q.getD i [] ++ [n] else Q.getD i []
  | [], k, n, i, h => by
    have : k = 0 := Nat.le_zero.mp h
    subst this
    cases i with
    | zero => rfl
    | succ i =>
      rw [if_neg (by omega)]
      show ([[n]] : List (List Int)).getD (i + 1) [] = ([] : List (List Int)).getD (i + 1) []
      rw [getD_none [] (by simp), getD_none [] (by simp)]
  | r :: rs, 0, n, i, h => by
    cases i with
    | zero => rfl
    | succ i => rfl
  | r :: rs, k + 1, n, i, h => by
    cases i with
    | zero => rfl
    | succ i =>
      have := onL_get rs k n i (Nat.le_of_succ_le_succ h)
      show (onL rs k n).getD i [] = if i + 1 = k + 1 then rs.getD i [] ++ [n] else rs.getD i []
      rw [this]
      by_cases e : i = k
      · rw [if_pos e, if_pos (by omega)]
      · rw [if_neg e, if_neg (by omega)]
theorem fill_step {P : List (List Int)} {n m : Nat} {ls : List Nat} {R : List (List Int)} (hF : Fill P n (m + 1) ls R) (hd : Desc ls) (hl : ls.length = P.length) (hR : R.length = P.length) {k : Nat} (hk : k < ls.length) (h0 : 0 < ls.getD k 0) (h1 : ls.getD (k + 1) 0 < ls.getD k 0) :
    Fill P n m (ls.set k (ls.getD k 0 - 1)) (R.set k (((m + 1 : Nat) : Int) :: R.getD k [])) ∧ Desc (ls.set k (ls.getD k 0 - 1)) := by
  have gs : ∀ i, (ls.set k (ls.getD k 0 - 1)).getD i 0 = if i = k then ls.getD k 0 - 1 else ls.getD i 0 := fun i => by
    by_cases e : i = k
    · subst e
      rw [if_pos rfl, List.getD_eq_getElem?_getD, List.getElem?_set_self hk]
      rfl
    · rw [if_neg e, List.getD_eq_getElem?_getD, List.getElem?_set_ne (Ne.symm e), ← List.getD_eq_getElem?_getD]
  refine ⟨fun Q hQ hp hq => ?_, Desc.of fun i hi => ?_⟩
  · have hkq : k ≤ Q.length := by
      rcases Nat.lt_or_ge Q.length k with z | z
      · have h2 := hq Q.length
        rw [getD_none [] (Nat.le_refl _), gs, if_neg (by omega), List.length_nil] at h2
        have := hd.le (i := Q.length) (j := k) (by omega)
        omega
      · exact z
    have hlen : ∀ i, ((onL Q k ((m + 1 : Nat) : Int)).getD i []).length = ls.getD i 0 := fun i => by
      have h2 := hq i
      rw [gs] at h2
      rw [onL_get _ _ _ _ hkq]
      by_cases e : i = k
      · subst e
        rw [if_pos rfl] at h2 ⊢
        rw [List.length_append, h2]
        show ls.getD i 0 - 1 + 1 = ls.getD i 0
        omega
      · rw [if_neg e] at h2 ⊢
        exact h2
    have hmem : ∀ r ∈ Q, ∀ v ∈ r, v < ((m + 1 : Nat) : Int) := fun r hr v hv => by
      have := nums_mem (hp.mem_iff.mp (List.mem_flatten.mpr ⟨r, hr, hv⟩))
      omega
    have ht : Tab (onL Q k ((m + 1 : Nat) : Int)) := onL_tab hQ hmem (Desc.of fun i _ => by
      have a1 := hlen i
      have a2 := hlen (i + 1)
      rw [lens_getD, onL_lens] at a1 a2
      rw [a1, a2]
      exact hd.le (by omega))
    have hpm : (onL Q k ((m + 1 : Nat) : Int)).flatten.Perm (nums (m + 1)) := by
      rw [nums_succ]
      exact (onL_perm _ _ _).trans ((List.perm_append_right_iff _).mpr hp)
    have := hF _ ht hpm hlen
    have e : plusR P.length (onL Q k ((m + 1 : Nat) : Int)) R = plusR P.length Q (R.set k (((m + 1 : Nat) : Int) :: R.getD k [])) := by
      refine ext_L [] (by rw [plusR_len, plusR_len]) fun i hi => ?_
      rw [plusR_len] at hi
      rw [plusR_get _ _ hi, plusR_get _ _ hi, onL_get _ _ _ _ hkq]
      by_cases e : i = k
      · subst e
        rw [if_pos rfl, List.getD_eq_getElem?_getD (l := R.set _ _), List.getElem?_set_self (by omega)]
        show _ ++ [_] ++ _ = _ ++ (_ :: _)
        rw [List.append_assoc]
        rfl
      · rw [if_neg e, List.getD_eq_getElem?_getD (l := R.set _ _), List.getElem?_set_ne (Ne.symm e), ← List.getD_eq_getElem?_getD]
    rw [e] at this
    exact this
  · rw [gs, gs]
    have h2 := hd.le (i := i) (j := i + 1) (by omega)
    by_cases e : i = k
    · subst e
      rw [if_pos rfl, if_neg (by omega)]
      omega
    · rw [if_neg e]
      split
      · rename_i e2
        rw [← e2]
        omega
      · exact h2
theorem fill_end {P : List (List Int)} {n : Nat} {ls : List Nat} {R : List (List Int)} (hF : Fill P n 0 ls R) (hz : ∀ k, ls.getD k 0 = 0) (hR : R.length = P.length) : PairOk n P R := by
  have := hF [] trivial (List.Perm.refl _) fun k => by rw [hz]; cases k <;> rfl
  have e : plusR P.length [] R = R := by
    refine ext_L [] (by rw [plusR_len, hR]) fun i hi => ?_
    rw [plusR_len] at hi
    rw [plusR_get _ _ hi]
    cases i <;> rfl
  rwa [e] at this
/-- a corner of what is left -/
theorem corner_of {ls : List Nat} {m : Nat} (hs : ls.sum = m + 1) : ∃ k, k < ls.length ∧ 0 < ls.getD k 0 ∧ (k + 1 = ls.length ∨ ls.getD (k + 1) 0 < ls.getD k 0) := by
  induction ls generalizing m with
  | nil => cases hs
  | cons l ls ih =>
    by_cases h : ls.sum = 0
    · have hl : l = m + 1 := by rw [List.sum_cons, h] at hs; omega
      refine ⟨0, Nat.zero_lt_succ _, by show 0 < l; omega, ?_⟩
      cases ls with
      | nil => exact .inl rfl
      | cons x xs =>
        refine .inr ?_
        show x < l
        rw [List.sum_cons] at h
        omega
    · obtain ⟨j, hj⟩ : ∃ j, ls.sum = j + 1 := ⟨ls.sum - 1, by omega⟩
      obtain ⟨k, h1, h2, h3⟩ := ih hj
      exact ⟨k + 1, Nat.succ_lt_succ h1, h2, h3.elim (fun z => .inl (by rw [List.length_cons, z])) .inr⟩
theorem sum_setL : ∀ {ls : List Nat} {k : Nat}, k < ls.length → 0 < ls.getD k 0 → (ls.set k (ls.getD k 0 - 1)).sum + 1 = ls.sum
  | [], k, h, _ => absurd h (Nat.not_lt_zero _)
  | l :: ls, 0, _, h => by
    have h : 0 < l := h
    show (l - 1 + ls.sum) + 1 = l + ls.sum
    omega
  | l :: ls, k + 1, hk, h => by
    have := sum_setL (ls := ls) (k := k) (Nat.lt_of_succ_lt_succ hk) h
    show (l + (ls.set k (ls.getD k 0 - 1)).sum) + 1 = l + ls.sum
    omega
theorem zero_of_sum : ∀ {ls : List Nat}, ls.sum = 0 → ∀ k, ls.getD k 0 = 0
  | [], _, k => by cases k <;> rfl
  | l :: ls, h, 0 => by rw [List.sum_cons] at h; show l = 0; omega
  | l :: ls, h, k + 1 => zero_of_sum (ls := ls) (by rw [List.sum_cons] at h; omega) k
/-! ### pairs that are none -/
theorem bad_len {P U : List (List Int)} (h : P.length ≠ U.length) : BadP P U := .inr (.inr fun z => h (by
  have := congrArg List.length z
  rwa [lensT, lensT, List.length_map, List.length_map] at this))
theorem bad_row {P U : List (List Int)} {k : Nat} (h : (P.getD k []).length ≠ (U.getD k []).length) : BadP P U := .inr (.inr fun z => h (by rw [lens_getD, lens_getD, z]))
theorem bad_mem {P U : List (List Int)} {v : Int} (h : ∀ r ∈ U, v ∉ r) (h1 : 1 ≤ v) (h2 : v ≤ szT U) : BadP P U := .inr (.inl fun z => by
  obtain ⟨r, hr, hv⟩ := (z v).mpr ⟨h1, h2⟩
  exact h r hr hv)
theorem szT_app (A B : List (List Int)) : szT (A ++ B) = szT A + szT B := by
  unfold szT
  rw [List.map_append, List.sum_append]
theorem bad_last {n : Nat} {P U : List (List Int)} (h : PairOk n P U) {A : List (List Int)} {l : List Int} {x : Int} (hU : U = A ++ [l ++ [x]]) (y : Int) (hy : y ≠ x) : BadP P (A ++ [l ++ [y]]) := by
  have hs : szT (A ++ [l ++ [y]]) = szT U := by
    rw [hU, szT_app, szT_app]
    unfold szT
    simp
  have hn := h.nodup
  rw [hU, List.flatten_append, List.flatten_cons, List.flatten_nil, List.append_nil, ← List.append_assoc] at hn
  have hx := h.mem (l ++ [x]) (by rw [hU]; exact List.mem_append_right _ List.mem_cons_self) x (List.mem_append_right _ List.mem_cons_self)
  obtain ⟨_, _, h3⟩ := List.nodup_append.mp hn
  have hno : ∀ v ∈ A.flatten ++ l, v ≠ x := fun v hv => h3 v hv x List.mem_cons_self
  refine bad_mem (v := x) (fun r hr hv => ?_) hx.1 (by rw [hs, h.szq]; exact hx.2)
  rcases List.mem_append.mp hr with hr | hr
  · exact hno x (List.mem_append_left _ (List.mem_flatten.mpr ⟨r, hr, hv⟩)) rfl
  · rw [List.mem_singleton.mp hr] at hv
    rcases List.mem_append.mp hv with hv | hv
    · exact hno x (List.mem_append_right _ hv) rfl
    · exact hy (List.mem_singleton.mp hv).symm
/-- the numbers n and u, the one more, the other less -/
def renF (n u : Int) (v : Int) : Int := v + (if v = n then 1 else 0) - (if v = u then 1 else 0)
theorem bad_ren {n : Nat} {P U : List (List Int)} (h : PairOk n P U) {u : Int} (h2 : 2 ≤ n) (hu : u ≠ n) : BadP P (U.map fun r => r.map (renF n u)) := by
  have hs : szT (U.map fun r => r.map (renF n u)) = szT U := by
    unfold szT
    rw [List.map_map]
    congr 1
    refine List.map_congr_left fun r _ => ?_
    show (r.map (renF n u)).length = r.length
    rw [List.length_map]
  refine bad_mem (v := (n : Int)) (fun r hr hv => ?_) (by omega) (by rw [hs, h.szq]; omega)
  obtain ⟨q, hq, rfl⟩ := List.mem_map.mp hr
  obtain ⟨x, hx, e⟩ := List.mem_map.mp hv
  have := h.mem q hq x hx
  unfold renF at e
  by_cases e1 : x = (n : Int)
  · rw [if_pos e1, if_neg (by omega)] at e
    omega
  · rw [if_neg e1] at e
    split at e <;> omega
local macro_rules | `(tactic| walk_at "pl") => `(tactic| ((repeat' (first | exact pl_int _ _ | exact pl_none _ | exact PlAll.nil _ | assumption | refine pl_list ?_ | refine pl_tuple ?_ | refine PlAll.cons ?_ ?_ | refine PlAll.app ?_ ?_ | refine PlAll.map (fun _ => ?_))); done))
local macro_rules | `(tactic| walk_at "len") => `(tactic| first
  | omega
  | (simp only [List.length_map, List.length_append, List.length_cons, List.length_nil, List.length_reverse, List.length_range, List.length_replicate, cut_length] at *; omega))
local macro_rules | `(tactic| walk_at "e") => `(tactic| first
  | with_reducible refine w_op ?_
  | with_reducible refine w_cb ?_
  | with_reducible refine w_call ?_
  | with_reducible refine w_cons ?_
  | with_reducible refine w_nil ?_
  | with_reducible refine w_int ?_
  | with_reducible refine w_bl ?_
  | with_reducible refine w_str ?_
  | with_reducible refine w_none ?_
  | with_reducible refine w_ty ?_
  | with_reducible refine w_ref ?_
  | with_reducible refine w_un ?_
  | with_reducible refine w_if ?_
  | with_reducible refine t_yes ?_
  | (with_reducible refine t_test ?_)
  | (with_reducible refine t_B ?_)
  | with_reducible refine t_and ?_
  | with_reducible refine t_or ?_
  | with_reducible refine t_not ?_
  | with_reducible refine w_andV ?_
  | with_reducible refine w_orV ?_
  | with_reducible refine w_notV ?_
  | with_reducible refine w_chain ?_
  | with_reducible refine i_none ?_
  | with_reducible refine i_some ?_
  | with_reducible refine w_sl ?_
  | ((with_reducible show EvW _ (tVar _) _ _ _); refine w_vD rfl ?_)
  | ((with_reducible show EvW _ (tVar _) _ _ _); refine w_vA rfl ?_)
  | ((with_reducible show EvW _ (tVar _) _ _ _); refine w_vS rfl ?_)
  | ((with_reducible show EvW _ (tVar _) _ _ _); refine w_exc rfl ?_)
  | ((with_reducible show EvW _ (tVar _) _ _ _); refine w_vDic rfl ?_)
  | with_reducible refine g_isX (ExS.is (by assumption)) (by assumption) ?_
  | with_reducible refine g_isXT (ExS.is (by assumption)) (by assumption) ?_
  | ((with_reducible show OpW _ (rOr _ _) (SD.dic _) (SD.dic _) _ _); first | refine o_orR (o_neDic1 rfl ?_) | refine o_orR (o_neDic (fun p hp => by simp only [List.mem_cons, List.not_mem_nil, or_false] at hp; cases hp <;> (subst_vars; exact (Eq.refl true))) (by decide) ?_))
  | ((with_reducible show OpW _ (rOr _ _) (SD.dat _) (SD.dat _) _ _); refine o_orL ?_)
  | ((with_reducible refine i_Dic (b := true) ?hh ?_); (case hh => decide +kernel))
  | ((with_reducible refine i_Dic (b := false) ?hh ?_); (case hh => decide +kernel))
  | with_reducible refine w_xf ?_
  | ((with_reducible show EvW _ (tFs _ _) _ _ _); refine w_fs (by decide) ?_)
  | with_reducible refine w_revT ?_
  | with_reducible refine w_js ?_
  | with_reducible refine j_str ?_
  | with_reducible refine j_fmt ?_
  | with_reducible refine j_nil ?_
  | with_reducible refine w_xv0 ?_
  | with_reducible refine w_xvI ?_
  | with_reducible refine w_xvf ?_
  | ((with_reducible show EvW _ (tVar _) _ _ _); refine w_xob rfl ?_)
  | with_reducible refine g_isV (by assumption) (by assumption) ?_
  | with_reducible refine g_isVT (by assumption) (by assumption) ?_
  | with_reducible refine w_dic1 (fun _ => ?_)
  | with_reducible refine w_dic2 (fun _ _ => rfl) (fun _ => ?_)
  | with_reducible refine w_bm ?_
  | ((with_reducible refine m_app0 ?hh ?_); (case hh => walk_at "len"))
  | ((with_reducible refine m_app1 ?hh ?_); (case hh => walk_at "len"))
  | ((with_reducible refine m_app2 ?hh ?_); (case hh => walk_at "len"))
  | refine ⟨ty_own List.mem_cons_self, ?_⟩
  | refine ⟨ty_own (List.mem_cons_of_mem _ List.mem_cons_self), ?_⟩
  | refine ⟨ty_own (List.mem_cons_of_mem _ (List.mem_cons_of_mem _ List.mem_cons_self)), ?_⟩
  | ((with_reducible show EvW _ (tVar _) _ _ _); refine w_vX rfl (by assumption) ?_)
  | with_reducible refine o_add ?_
  | with_reducible refine o_sub ?_
  | with_reducible refine o_pow18 ?_
  | with_reducible refine o_lt ?_
  | with_reducible refine o_le ?_
  | with_reducible refine o_gt ?_
  | with_reducible refine o_ge ?_
  | with_reducible refine o_eqI ?_
  | with_reducible refine o_neI ?_
  | with_reducible refine o_eqB ?_
  | with_reducible refine o_neB ?_
  | with_reducible refine o_notN (b := true) rfl ?_
  | with_reducible refine o_notN (b := false) rfl ?_
  | with_reducible refine o_isN (b := true) rfl ?_
  | with_reducible refine o_isN (b := false) rfl ?_
  | with_reducible refine o_isB ?_
  | with_reducible refine o_notB ?_
  | with_reducible refine u_neg ?_
  | ((with_reducible refine o_mul ?hh ?_); (case hh => first | exact cmul_l (by omega) (by omega) | exact cmul_r (by omega) (by omega)))
  | ((with_reducible refine o_modB ?hh ?_); (case hh => first | omega | (simp only [List.length_map] at *; omega)); intro _ _ _ _)
  | ((with_reducible refine o_fdiv ?hh ?_); (case hh => constructor <;> omega))
  | ((with_reducible show OpW _ (rIxL _) (SD.ad _) _ _ _); first | refine o_ixO List.mem_cons_self rfl ?_ | refine o_ixO (List.mem_cons_of_mem _ List.mem_cons_self) rfl ?_)
  | (with_reducible refine w_lst ?_)
  | (with_reducible refine w_tup ?_)
  | refine ⟨_, Dats.nil, sz_ok rfl, ?_⟩
  | refine ⟨_, (Dats.cons Dats.nil), sz_ok rfl, ?_⟩
  | refine ⟨_, (Dats.cons (Dats.cons Dats.nil)), sz_ok rfl, ?_⟩
  | refine ⟨_, (Dats.cons (Dats.cons (Dats.cons Dats.nil))), sz_ok rfl, ?_⟩
  | refine ⟨_, (Dats.cons (Dats.cons (Dats.cons (Dats.cons Dats.nil)))), sz_ok rfl, ?_⟩
  | refine ⟨_, (Dats.cons (Dats.cons (Dats.cons (Dats.cons (Dats.cons Dats.nil))))), sz_ok rfl, ?_⟩
  | refine ⟨_, (Dats.cons (Dats.cons (Dats.cons (Dats.cons (Dats.cons (Dats.cons Dats.nil)))))), sz_ok rfl, ?_⟩
  | refine ⟨_, (Dats.cons (Dats.cons (Dats.cons (Dats.cons (Dats.cons (Dats.cons (Dats.cons Dats.nil))))))), sz_ok rfl, ?_⟩
  | refine ⟨_, (Dats.cons (Dats.cons (Dats.cons (Dats.cons (Dats.cons (Dats.cons (Dats.cons (Dats.cons Dats.nil)))))))), sz_ok rfl, ?_⟩
  | refine ⟨_, (Dats.cons (Dats.cons (Dats.cons (Dats.cons (Dats.cons (Dats.cons (Dats.cons (Dats.cons (Dats.cons Dats.nil))))))))), sz_ok rfl, ?_⟩
  | refine ⟨_, (Dats.cons (Dats.cons (Dats.cons (Dats.cons (Dats.cons (Dats.cons (Dats.cons (Dats.cons (Dats.cons (Dats.cons Dats.nil)))))))))), sz_ok rfl, ?_⟩
  | refine ⟨_, (Dats.cons (Dats.cons (Dats.cons (Dats.cons (Dats.cons (Dats.cons (Dats.cons (Dats.cons (Dats.cons (Dats.cons (Dats.cons Dats.nil))))))))))), sz_ok rfl, ?_⟩
  | refine ⟨_, (Dats.cons (Dats.cons (Dats.cons (Dats.cons (Dats.cons (Dats.cons (Dats.cons (Dats.cons (Dats.cons (Dats.cons (Dats.cons (Dats.cons Dats.nil)))))))))))), sz_ok rfl, ?_⟩
  | ((with_reducible refine o_nthL ?h1 ?h2 ?_); (case h1 => omega); (case h2 => walk_at "len"))
  | ((with_reducible refine o_nthT ?h1 ?h2 ?_); (case h1 => omega); (case h2 => walk_at "len"))
  | ((with_reducible refine o_pickM ?h1 ?h2 ?h3 ?_); (case h1 => rfl); (case h2 => omega); (case h3 => walk_at "len"); intro v hv; simp only [List.map_cons, List.map_nil, intOf, List.mem_cons, List.not_mem_nil, or_false] at hv)
  | ((with_reducible refine g_cat .d .d ?hh ?_); (case hh => walk_at "len"))
  | ((with_reducible refine g_catT ?hh ?_); (case hh => walk_at "len"))
  | ((with_reducible show OpW _ (rIxT _) (SD.dat (PyData.tuple _)) (SD.dat (PyData.int _)) _ _); refine o_ixT rfl ?_)
  | ((with_reducible show OpW _ (rIxL _) (SD.dat (PyData.list _)) (SD.dat (PyData.int _)) _ _); refine o_ixL rfl ?_)
  | ((with_reducible refine o_nthS ?h1 ?h2 ?_); (case h1 => omega); (case h2 => walk_at "len"))
  | ((with_reducible refine o_nthG (by assumption) ?h1 ?h2 ?_); (case h1 => omega); (case h2 => walk_at "len"))
  | ((with_reducible refine o_nthST ?h1 ?h2 ?_); (case h1 => omega); (case h2 => walk_at "len"))
  | ((with_reducible refine g_rep2 ?h1 ?h2 ?_); (case h1 => omega); (case h2 => omega))
  | ((with_reducible refine sl_S ?hh ?_); (case hh => walk_at "len"))
  | ((with_reducible refine o_addS ?hh ?_); (case hh => walk_at "len"))
  | ((with_reducible refine o_mulS ?h1 ?h2 ?_); (case h1 => omega); (case h2 => omega))
  | with_reducible refine o_eqT ?_
  | with_reducible refine o_neT ?_
  | with_reducible refine w_m1 ?_
  | with_reducible refine g_rev ?_
  | with_reducible refine g_list .d ?_
  | with_reducible refine ⟨_, Lst.d, ?_⟩
  | ((with_reducible refine g_lenStr ?hh ?_); (case hh => walk_at "len"))
  | with_reducible refine g_lenT ?_
  | with_reducible refine g_lenS ?_
  | with_reducible refine g_len .d ?_
  | with_reducible refine g_len (by assumption) ?_
  | with_reducible refine g_max2 ?_
  | with_reducible refine g_min2 ?_
  | with_reducible refine g_int ?_
  | with_reducible refine g_intB ?_
  | with_reducible refine g_tup .d ?_
  | with_reducible refine g_sumT ?_
  | with_reducible refine g_sum .d ?_
  | ((with_reducible show CbW _ (Wk.rLen _) [SD.ad _] _ _); first | refine g_lenO List.mem_cons_self ?_ | refine g_lenO (List.mem_cons_of_mem _ List.mem_cons_self) ?_ | refine g_lenO (List.mem_cons_of_mem _ (List.mem_cons_of_mem _ List.mem_cons_self)) ?_)
  | ((with_reducible show OpW _ (rIxT _) (SD.ad _) (SD.dat (PyData.int _)) _ _); refine o_ixTO List.mem_cons_self rfl ?_)
  | ((with_reducible show CbW _ (rIsi _) [SD.ad _, SD.ty _] _ _); first | refine i_TO (b := true) List.mem_cons_self (by decide +kernel) ?_ | refine i_TO (b := false) List.mem_cons_self (by decide +kernel) ?_ | refine i_O (b := true) (List.mem_cons_of_mem _ (List.mem_cons_of_mem _ List.mem_cons_self)) (by decide +kernel) ?_ | refine i_O (b := true) List.mem_cons_self (by decide +kernel) ?_ | refine i_O (b := true) (List.mem_cons_of_mem _ List.mem_cons_self) (by decide +kernel) ?_ | refine i_O (b := false) List.mem_cons_self (by decide +kernel) ?_ | refine i_O (b := false) (List.mem_cons_of_mem _ List.mem_cons_self) (by decide +kernel) ?_)
  | ((with_reducible refine i_B (b := true) ?hh ?_); (case hh => decide +kernel))
  | ((with_reducible refine i_B (b := false) ?hh ?_); (case hh => decide +kernel))
  | ((with_reducible refine i_I (b := true) ?hh ?_); (case hh => decide +kernel))
  | ((with_reducible refine i_I (b := false) ?hh ?_); (case hh => decide +kernel))
  | ((with_reducible refine i_T (b := true) ?hh ?_); (case hh => decide +kernel))
  | ((with_reducible refine i_T (b := false) ?hh ?_); (case hh => decide +kernel))
  | ((with_reducible refine i_L (b := true) ?hh ?_); (case hh => decide +kernel))
  | ((with_reducible refine i_L (b := false) ?hh ?_); (case hh => decide +kernel))
  | ((with_reducible refine i_N (b := true) ?hh ?_); (case hh => decide +kernel))
  | ((with_reducible refine i_N (b := false) ?hh ?_); (case hh => decide +kernel))
  | with_reducible refine g_sl .d ?_
  | with_reducible refine sl_T ?_
  | ((with_reducible refine o_eqP ?h1 ?h2 ?_); (case h1 => walk_at "pl"); (case h2 => walk_at "pl"); intro _ _)
  | ((with_reducible refine o_neP ?h1 ?h2 ?_); (case h1 => walk_at "pl"); (case h2 => walk_at "pl"); intro _ _)
  | refine b_dec (fun hd => ?_) (fun hd => ?_)
  | refine b_ndec (fun hd => ?_) (fun hd => ?_)
  | refine b_true ?_
  | refine b_false ?_
  | with_reducible refine b_any (fun hd => ?_) (fun hd => ?_)
  | with_reducible refine ⟨_, rfl, log_ok (by omega) (by omega), ?_⟩
  | with_reducible refine ⟨_, rfl, ?_⟩
  | with_reducible refine ⟨_, _, rfl, rfl, ?_⟩
  | with_reducible refine ⟨rfl, ?_⟩
  | fail "walk")
local macro_rules | `(tactic| walk_at "w") => `(tactic| first
  | with_reducible refine s_seq ?_
  | with_reducible refine s_next ?_
  | with_reducible refine s_asg ?_
  | with_reducible refine s_ret ?_
  | with_reducible refine s_retN ?_
  | with_reducible refine s_drop ?_
  | with_reducible refine s_if ?_
  | with_reducible refine s_setL ?_
  | ((with_reducible show StW _ (tAug _ _ _) _ _ _); refine s_aug ⟨_, rfl, ?_⟩)
  | ((with_reducible show StW _ (tRz1 _ _ _) _ _ _); refine s_rz1 (fun _ hx => hx) ?_)
  | ((with_reducible show StW _ (tRz _ _) _ _ _); refine s_rz (fun _ hx => hx) ?_)
  | ((with_reducible show StW _ (tRzI _ _ _ _) _ _ _); refine s_rzI (fun _ hx => hx) ?_)
  | walk_at "e")
local macro_rules | `(tactic| walk_at "no") => `(tactic| first
  | (rename_i hf; exact absurd rfl hf)
  | (rename_i hf; exact Bool.noConfusion hf)
  | (rename_i hq hf; exact (no_neB hq rfl hf).elim))
def topS (i : Nat) : Stmt := PySem.Challenge.pw_walkhands_k20_whole_words_and_pairs.main.body.getD i (.Pass ⟨0, 0, 0, 0⟩)
section
variable {P : Program} {w : World} {K : PySem.W.Frag} {mg : Str → Option Value} {base : Heap}
def pre_law_draw : Pre := fun rs O Q => ∃ (ts : List Int) (at_ many : Int), rs = [.dat (lI ts), iV at_, iV many] ∧ TapeOk ts ∧ 0 ≤ at_ ∧ at_ ≤ 10000000 ∧ 0 < many ∧ ∀ n : Int, 0 ≤ n → n < many → Q (iV n) O
theorem len_law_draw (rs : List SD) (O : Own) (Q : SD → Own → Prop) (h : pre_law_draw rs O Q) : rs.length = 3 := by
  obtain ⟨ts, a, m, rfl, _⟩ := h
  rfl
abbrev s_law_draw : Stmt := topS 17
theorem sc_law_draw : FnScope ["tape", "at", "many", "number"] ["tape", "at", "many"] (defScope s_law_draw) := ⟨rfl, rfl, rfl, by decide +kernel, rfl, by decide +kernel, by decide +kernel⟩
set_option maxHeartbeats 4000000 in
theorem ok_law_draw  (D : Def K mg "_law_draw" s_law_draw) (m_int : mg "int" = none) (m_len : mg "len" = none) : Callee P w K mg base "_law_draw" ["tape", "at", "many"] 1 pre_law_draw := by
  obtain ⟨f, fd, F, hmg⟩ := D
  refine ⟨f, fd, fn_ok F sc_law_draw len_law_draw fun cdv A outer s H E hr => ⟨_, (pss_cons (ps_if (pt_cmpR op_lt (pv 1) (pe_callB (kLen K) (by rfl) m_len PySem.boot_len (pa_cons (pv 0) pa_nil)) (nomark _)) (pss_one (ps_ret (pe_op op_mod (pe_callTy kInt1 (by rfl) m_int (by decide +kernel) (pa_cons (pe_ix (ixL K) (pv 0) (pv 1) (fun _ _ => rfl)) pa_nil)) (pv 2)))) pss_nil)
      (pss_cons (ps_set (i := 3) sc_law_draw.nd rfl (.inl rfl) pe_int)
      (pss_cons (ps_if (pt_cmpR op_gt (pe_callB (kLen K) (by rfl) m_len PySem.boot_len (pa_cons (pv 0) pa_nil)) pe_int (nomark _)) (pss_one (ps_set (i := 3) sc_law_draw.nd rfl (.inl rfl) (pe_ix (ixL K) (pv 0) (pe_op op_mod (pe_callTy kInt1 (by rfl) m_int (by decide +kernel) (pa_cons (pv 1) pa_nil)) (pe_callB (kLen K) (by rfl) m_len PySem.boot_len (pa_cons (pv 0) pa_nil))) (fun _ _ => rfl)))) pss_nil)
      (pss_one (ps_ret (pe_op op_mod (pe_op op_mod (pe_callTy kInt1 (by rfl) m_int (by decide +kernel) (pa_cons (pe_op op_add (pe_op op_mul (pe_op op_mul (pe_op op_add (pv 3) (pv 1)) (pe_op op_add (pv 1) pe_int)) pe_int) (pe_op op_mul (pv 1) pe_int)) pa_nil)) pe_int) (pv 2))))))), ?_⟩, hmg, F.kp, F.binds fun _ _ _ _ _ _ us hl => match us, hl with | [_, _, _], _ => rfl, Wk.Fun.lk F⟩
  intro rs O Q h
  obtain ⟨ts, a, m, rfl, ht, h0, h1, hm, q⟩ := h
  show StW K _ O [.dat (lI ts), iV a, iV m, .non] _
  repeat' walk_at "w"
  all_goals (apply q <;> assumption)
def pre_law_take : Pre := fun rs O Q => ∃ (st : Addr) (ts : List Int) (k many : Int) (O' : Own), rs = [.ad st, iV many] ∧ O = Sta st ts k :: O' ∧ TapeOk ts ∧ 0 ≤ k ∧ k < 1000000 ∧ 0 < many ∧ ∀ n : Int, 0 ≤ n → n < many → Q (iV n) (Sta st ts (k + 1) :: O')
theorem len_law_take (rs : List SD) (O : Own) (Q : SD → Own → Prop) (h : pre_law_take rs O Q) : rs.length = 2 := by
  obtain ⟨ts, a, m, x, y, rfl, _⟩ := h
  rfl
local macro_rules | `(tactic| walk_at "e") => `(tactic| ((with_reducible show pre_law_take _ _ _); refine ⟨_, _, _, _, _, rfl, rfl, by assumption, by omega, by omega, by omega, ?_⟩; intro _ _ _))
abbrev s_law_take : Stmt := topS 18
theorem sc_law_take : FnScope ["state", "many"] ["state", "many"] (defScope s_law_take) := ⟨rfl, rfl, rfl, by decide +kernel, rfl, by decide +kernel, by decide +kernel⟩
set_option maxHeartbeats 4000000 in
theorem ok_law_take  (D : Def K mg "_law_take" s_law_take) (C_law_draw : Callee P w K mg base "_law_draw" ["tape", "at", "many"] 1 pre_law_draw) : Callee P w K mg base "_law_take" ["state", "many"] 2 pre_law_take := by
  obtain ⟨f, fd, F, hmg⟩ := D
  obtain ⟨f_law_draw, fd_law_draw, G_law_draw, g_law_draw, kp_law_draw, b_law_draw, _⟩ := C_law_draw
  refine ⟨f, fd, fn_ok F sc_law_take len_law_take fun cdv A outer s H E hr => ⟨_, (pss_cons (ps_asg (pe_op op_add (pe_ix (ixL K) (pv 0) pe_int (fun _ _ => rfl)) pe_int) (pg_sub (pv 0) pe_int set_list))
      (pss_one (ps_ret (pe_call G_law_draw (hr.mono (by decide)) (by rfl) g_law_draw kp_law_draw b_law_draw .nil pass0 (pa_cons (pe_ix (ixL K) (pv 0) pe_int (fun _ _ => rfl)) (pa_cons (pe_ix (ixL K) (pv 0) pe_int (fun _ _ => rfl)) (pa_cons (pv 1) pa_nil))))))), ?_⟩, hmg, F.kp, F.binds fun _ _ _ _ _ _ us hl => match us, hl with | [_, _], _ => rfl, Wk.Fun.lk F⟩
  intro rs O Q h
  obtain ⟨st, ts, k, m, O', rfl, rfl, ht, h0, h1, hm, q⟩ := h
  show StW K _ (Sta st ts k :: O') [.ad st, iV m] _
  repeat' walk_at "w"
  refine ⟨st, 1, _, 1, O', _, rfl, rfl, .refl _, rfl, .refl _, ?_⟩
  repeat' walk_at "w"
  exact ⟨ts, k + 1, m, rfl, ht, by omega, by omega, hm, fun n a b => q n a b⟩
def pre_law_word : Pre := fun rs O Q => ∃ (st : Addr) (ts : List Int) (k most : Int) (O' : Own), rs = [.ad st, iV most] ∧ O = Sta st ts k :: O' ∧ TapeOk ts ∧ 0 ≤ k ∧ k < 900000 ∧ 1 ≤ most ∧ most ≤ 60 ∧ ∀ (w : List Int) (k2 : Int), WordOk most.toNat w → k ≤ k2 → k2 ≤ k + 70 → Q (.dat (lI w)) (Sta st ts k2 :: O')
theorem len_law_word (rs : List SD) (O : Own) (Q : SD → Own → Prop) (h : pre_law_word rs O Q) : rs.length = 2 := by
  obtain ⟨st, ts, k, most, O', rfl, _⟩ := h
  rfl
local macro_rules | `(tactic| walk_at "e") => `(tactic| ((with_reducible show pre_law_word _ _ _); refine ⟨_, _, _, _, _, rfl, rfl, by assumption, by omega, by omega, by omega, by omega, ?_⟩; intro _ _ _ _ _))
abbrev s_law_word : Stmt := topS 21
theorem sc_law_word : FnScope ["state", "most", "size", "k"] ["state", "most"] (defScope s_law_word) := ⟨rfl, rfl, rfl, by decide +kernel, rfl, by decide +kernel, by decide +kernel⟩
set_option maxHeartbeats 4000000 in
theorem ok_law_word  (D : Def K mg "_law_word" s_law_word) (C_law_take : Callee P w K mg base "_law_take" ["state", "many"] 2 pre_law_take) (m_range : mg "range" = none) : Callee P w K mg base "_law_word" ["state", "most"] 3 pre_law_word := by
  obtain ⟨f, fd, F, hmg⟩ := D
  obtain ⟨f_law_take, fd_law_take, G_law_take, g_law_take, kp_law_take, b_law_take, _⟩ := C_law_take
  refine ⟨f, fd, fn_ok F sc_law_word len_law_word fun cdv A outer s H E hr => ⟨_, (pss_cons (ps_set (i := 2) sc_law_word.nd rfl (.inr rfl) (pe_ix (ixL K) (pe_lst (pa_cons pe_int (pa_cons pe_int (pa_cons pe_int (pa_cons pe_int (pa_cons pe_int pa_nil)))))) (pe_call G_law_take (hr.mono (by decide)) (by rfl) g_law_take kp_law_take b_law_take .nil pass0 (pa_cons (pv 0) (pa_cons pe_int pa_nil))) (fun _ _ => rfl)))
      (pss_one (ps_ret (pe_lc (own := [("k", 3)]) (g := gName 3) rfl sc_law_word.nd (pi_range1 (by rfl) m_range (pa_cons (pe_call G_law_take (hr.mono (by decide)) (by rfl) g_law_take kp_law_take b_law_take .nil pass0 (pa_cons (pv 0) (pa_cons (pe_op op_add (pv 1) pe_int) pa_nil))) pa_nil)) (blkOk_by (own := [("k", 3)]) (N := ["state", "most", "size", "k"]) (by first | (show blkC _ (defScope s_law_word) _ _ = true; decide +kernel) | kernel_rfl | rfl)) (fun _ _ _ _ _ => pg_name (i := 3) sc_law_word.nd rfl (by first | exact Or.inl rfl | exact Or.inr rfl)) (fun _ _ _ _ _ => pts_nil) (fun _ _ _ _ _ => (pe_op op_add pe_int (pe_call G_law_take (hr.mono (by decide)) (by rfl) g_law_take kp_law_take b_law_take .nil pass0 (pa_cons (pv 0) (pa_cons (pv 2) pa_nil))))))))), ?_⟩, hmg, F.kp, F.binds fun _ _ _ _ _ _ us hl => match us, hl with | [_, _], _ => rfl, Wk.Fun.lk F⟩
  intro rs O Q h
  obtain ⟨st, ts, k, most, O', rfl, rfl, ht, h0, h1, hm0, hm1, q⟩ := h
  show StW K _ (Sta st ts k :: O') [.ad st, iV most, .non, .non] _
  refine s_seq (s_asg ?_)
  repeat' walk_at "e"
  rename_i size hsz
  refine s_ret (w_frz (w_lc1 ?_))
  repeat' walk_at "e"
  rename_i n hn0 hn1
  refine ⟨by omega, by omega, fun j acc O2 => ∃ (us : List Int) (k4 : Int), acc = us.map (fun n => iV n) ∧ us.length = j ∧ (∀ v ∈ us, 1 ≤ v ∧ v ≤ 60) ∧ k + 2 ≤ k4 ∧ k4 ≤ k + 2 + j ∧ O2 = Sta st ts k4 :: O', ⟨[], k + 1 + 1, rfl, rfl, fun _ h => absurd h List.not_mem_nil, by omega, by omega, rfl⟩, fun j acc O2 hj hl hI => ?_, fun acc O2 Dl hI => ?_⟩
  · obtain ⟨us, k4, rfl, hu, hp, h3, h4, rfl⟩ := hI
    refine LcTurn1.to fun Dl => ?_
    repeat' walk_at "e"
    rename_i v hv0 hv1
    refine ⟨_, _, rfl, us ++ [1 + v], k4 + 1, by rw [List.map_append]; rfl, by rw [List.length_append, hu]; rfl, fun x hx => ?_, by omega, by omega, rfl⟩
    rcases List.mem_append.mp hx with hx | hx
    · exact hp x hx
    · rw [List.mem_singleton.mp hx]
      omega
  · obtain ⟨us, k4, rfl, hu, hp, h3, h4, rfl⟩ := hI
    refine ⟨Dl, _, _, _, rfl, .refl _, Dats.ints us, ?_⟩
    exact q us k4 ⟨by omega, hp⟩ (by omega) (by omega)
def pre_first_greater : Pre := fun rs O Q => ∃ (r : List Int) (x : Int), rs = [.dat (tI r), iV x] ∧ r.length ≤ 100000 ∧ Q (iV (fg r x : Nat)) O
theorem len_first_greater (rs : List SD) (O : Own) (Q : SD → Own → Prop) (h : pre_first_greater rs O Q) : rs.length = 2 := by
  obtain ⟨r, x, rfl, _⟩ := h
  rfl
local macro_rules | `(tactic| walk_at "e") => `(tactic| ((with_reducible show pre_first_greater _ _ _); refine ⟨_, _, rfl, by omega, ?_⟩))
abbrev s_first_greater : Stmt := topS 9
theorem sc_first_greater : FnScope ["row", "letter", "at"] ["row", "letter"] (defScope s_first_greater) := ⟨rfl, rfl, rfl, by decide +kernel, rfl, by decide +kernel, by decide +kernel⟩
set_option maxHeartbeats 4000000 in
theorem ok_first_greater  (D : Def K mg "_first_greater" s_first_greater) (m_len : mg "len" = none) : Callee P w K mg base "_first_greater" ["row", "letter"] 1 pre_first_greater := by
  obtain ⟨f, fd, F, hmg⟩ := D
  refine ⟨f, fd, fn_ok F sc_first_greater len_first_greater fun cdv A outer s H E hr => ⟨_, (pss_cons (ps_set (i := 2) sc_first_greater.nd rfl (.inl rfl) pe_int)
      (pss_cons (ps_while PassesOwn.never (PW.pt (pw_and (pt_cmpR op_lt (pv 2) (pe_callB (kLen K) (by rfl) m_len PySem.boot_len (pa_cons (pv 0) pa_nil)) (nomark _)) (pw_and1 (pt_cmpR op_le (pe_ix (ixT K) (pv 0) (pv 2) (fun _ _ => rfl)) (pv 1) (nomark _))))) (pss_one (ps_aug (i := 2) sc_first_greater.nd rfl (.inl rfl) pe_int ip_add)))
      (pss_one (ps_ret (pv 2))))), ?_⟩, hmg, F.kp, F.binds fun _ _ _ _ _ _ us hl => match us, hl with | [_, _], _ => rfl, Wk.Fun.lk F⟩
  intro rs O Q h
  obtain ⟨r, x, rfl, hn, q⟩ := h
  show StW K _ O [.dat (tI r), iV x, .non] _
  have hle := fg_le r x
  walk_at "w"
  repeat' walk_at "w"
  refine s_while (fun m O2 ds2 => ∃ n : Nat, m + n = r.length ∧ n ≤ fg r x ∧ O2 = O ∧ ds2 = [.dat (tI r), iV x, iV (n : Int)]) ⟨r.length, 0, by omega, by omega, rfl, rfl⟩ fun m O2 ds2 hI => ?_
  obtain ⟨n, h1, h2, rfl, rfl⟩ := hI
  repeat' walk_at "e"
  · rename_i hd he
    intro B hB
    rw [List.length_map] at hd
    repeat' walk_at "w"
    refine hB.nx (m - 1) _ _ (by omega) ⟨n + 1, by omega, ?_, rfl, rfl⟩
    rw [Int.toNat_natCast] at he
    rcases Nat.lt_or_ge n (fg r x) with z | z
    · exact z
    · have e : fg r x = n := by omega
      have := fg_at (r := r) (x := x) (by omega)
      rw [e] at this
      omega
  · rename_i hd he
    rw [List.length_map] at hd
    rw [Int.toNat_natCast] at he
    have := fg_of (r := r) (x := x) (i := n) (by omega) (by omega)
    have e : n = fg r x := by omega
    subst e
    repeat' walk_at "w"
    exact q
  · rename_i hd
    rw [List.length_map] at hd
    have e : n = fg r x := by omega
    subst e
    repeat' walk_at "w"
    exact q
def pre_inserted : Pre := fun rs O Q => ∃ (T : List (List Int)) (x : Int), rs = [.dat (tS T), iV x] ∧ Sm 90000 90000 T ∧ Q (.dat (.tuple [tS (insT T x).1, .int ((insT T x).2 : Nat)])) O
theorem len_inserted (rs : List SD) (O : Own) (Q : SD → Own → Prop) (h : pre_inserted rs O Q) : rs.length = 2 := by
  obtain ⟨r, x, rfl, _⟩ := h
  rfl
local macro_rules | `(tactic| walk_at "e") => `(tactic| ((with_reducible show pre_inserted _ _ _); refine ⟨_, _, rfl, by assumption, ?_⟩))
abbrev s_inserted : Stmt := topS 8
theorem sc_inserted : FnScope ["tableau", "letter", "rows", "moving", "r", "row", "at"] ["tableau", "letter"] (defScope s_inserted) := ⟨rfl, rfl, rfl, by decide +kernel, rfl, by decide +kernel, by decide +kernel⟩
set_option maxHeartbeats 4000000 in
theorem ok_inserted  (D : Def K mg "_inserted" s_inserted) (C_first_greater : Callee P w K mg base "_first_greater" ["row", "letter"] 1 pre_first_greater) (m_enumerate : mg "enumerate" = none) (m_len : mg "len" = none) (m_list : mg "list" = none) (m_tuple : mg "tuple" = none) : Callee P w K mg base "_inserted" ["tableau", "letter"] 2 pre_inserted := by
  obtain ⟨f, fd, F, hmg⟩ := D
  obtain ⟨f_first_greater, fd_first_greater, G_first_greater, g_first_greater, kp_first_greater, b_first_greater, _⟩ := C_first_greater
  refine ⟨f, fd, fn_ok F sc_inserted len_inserted fun cdv A outer s H E hr => ⟨_, (pss_cons (ps_set (i := 2) sc_inserted.nd rfl (.inl rfl) (pe_callTy (kListOf K) (by rfl) m_list (by decide +kernel) (pa_cons (pv 0) pa_nil)))
      (pss_cons (ps_set (i := 3) sc_inserted.nd rfl (.inl rfl) (pv 1))
      (pss_cons (ps_for PassesOwn.never rfl (pi_enumT K (by rfl) m_enumerate (pa_cons (pv 0) pa_nil)) (pgTup K rfl (pgs_cons (pg_name (i := 4) sc_inserted.nd rfl (.inl rfl)) (pgs_cons (pg_name (i := 5) sc_inserted.nd rfl (.inl rfl)) pgs_nil))) (pss_cons (ps_set (i := 6) sc_inserted.nd rfl (.inl rfl) (pe_call G_first_greater (hr.mono (by decide)) (by rfl) g_first_greater kp_first_greater b_first_greater .nil pass0 (pa_cons (pv 5) (pa_cons (pv 3) pa_nil))))
      (pss_cons (ps_asg (pe_op (kCatT K) (pe_op (kCatT K) (pe_slice (slT K) (pv 5) po_none (po_some (pv 6))) (pe_tup (pa_cons (pv 3) pa_nil))) (pe_slice (slT K) (pv 5) (po_some (pe_op op_add (pv 6) pe_int)) po_none)) (pg_sub (pv 2) (pv 4) set_list))
      (pss_cons (ps_if (pt_cmpR op_eq (pv 6) (pe_callB (kLen K) (by rfl) m_len PySem.boot_len (pa_cons (pv 5) pa_nil)) (nomark _)) (pss_one (ps_ret (pe_tup (pa_cons (pe_callTy (kTupOf K) (by rfl) m_tuple (by decide +kernel) (pa_cons (pv 2) pa_nil)) (pa_cons (pe_op op_add (pv 4) pe_int) pa_nil))))) pss_nil)
      (pss_one (ps_set (i := 3) sc_inserted.nd rfl (.inl rfl) (pe_ix (ixT K) (pv 5) (pv 6) (fun _ _ => rfl))))))))
      (pss_cons (psApp K (ps_expr (pe_bm PySem.F.plainAttrs_list PySem.F.slot_list_append PySem.F.type_list_append mt_append (pv 2) (pa_cons (pe_tup (pa_cons (pv 3) pa_nil)) pa_nil))))
      (pss_one (ps_ret (pe_tup (pa_cons (pe_callTy (kTupOf K) (by rfl) m_tuple (by decide +kernel) (pa_cons (pv 2) pa_nil)) (pa_cons (pe_callB (kLen K) (by rfl) m_len PySem.boot_len (pa_cons (pv 2) pa_nil)) pa_nil))))))))), ?_⟩, hmg, F.kp, F.binds fun _ _ _ _ _ _ us hl => match us, hl with | [_, _], _ => rfl, Wk.Fun.lk F⟩
  intro rs O Q h
  obtain ⟨T, x, rfl, hT, q⟩ := h
  have hT1 := hT.len
  show StW K _ O [.dat (tS T), iV x, .non, .non, .non, .non, .non] _
  refine s_seq (s_asg (w_cb ?_))
  repeat' walk_at "e"
  refine c_listTO fun p => ?_
  rw [tS_dat]
  walk_at "w"
  repeat' walk_at "w"
  refine s_forET ?_
  repeat' walk_at "e"
  refine ⟨fun k O2 ds2 => ∃ (fd : List (List Int)) (y : Int) (a b c : SD), InsAt T x k fd y ∧ O2 = (p, .lst ((fd ++ T.drop k).map fun c => .dat (tI c))) :: O ∧ ds2 = [.dat (tS T), iV x, .ad p, iV y, a, b, c], ⟨[], x, _, _, _, .zero T x, rfl, rfl⟩, fun k d O2 ds2 hd hI B hB => ?_, fun O2 ds2 hI => ?_⟩
  · obtain ⟨fd, y, a, b, c, hi, rfl, rfl⟩ := hI
    obtain ⟨v, hv, rfl⟩ := map_get hd
    obtain ⟨hk, hkv⟩ := List.getElem?_eq_some_iff.mp hv
    have ev : T.getD k [] = v := by rw [List.getD_eq_getElem?_getD, hv]; rfl
    have hvl := hT.get k
    rw [ev] at hvl
    have hle := fg_le v y
    have hlen : (fd ++ T.drop k).length = T.length := by
      rw [List.length_append, hi.len, List.length_drop]
      omega
    refine s_seq (s_asg ?_)
    repeat' walk_at "e"
    refine s_seq (s_setL ?_)
    repeat' walk_at "e"
    refine ⟨p, (k : Int), _, k, O, _, rfl, rfl, .refl _, ?_, .refl _, ?_⟩
    · rw [List.length_map, hlen]
      exact ixN_in (by omega) (by omega)
    have hset : ∀ r : List Int, ((fd ++ T.drop k).map fun c => SD.dat (tI c)).set k (.dat (tI r)) = (fd ++ [r] ++ T.drop (k + 1)).map fun c => SD.dat (tI c) := fun r => by
      rw [← hi.set hk r, List.map_set]
    refine s_seq (s_if ?_)
    repeat' walk_at "e"
    · rename_i he
      rw [List.length_map] at he
      have he2 : fg v y = v.length := by omega
      rw [tI_cut' v y he2, hset]
      refine s_frz (i := 2) rfl (.refl _) (tS_dats _) ?_
      repeat' walk_at "w"
      refine hB.rt _ _ ?_
      have := hi.full hk (by rw [ev]; exact he2)
      rw [this, ev] at q
      exact q
    · rename_i he
      rw [List.length_map] at he
      have he2 : fg v y < v.length := by omega
      rw [tI_cut v y he2, hset]
      repeat' walk_at "w"
      have hn := hi.next hk (by rw [ev]; exact he2)
      rw [ev] at hn
      exact hB.nx _ _ ⟨_, _, _, _, _, hn, rfl, rfl⟩
  · obtain ⟨fd, y, a, b, c, hi, rfl, rfl⟩ := hI
    rw [List.length_map] at hi
    have hlen : (fd ++ T.drop T.length).length = T.length := by
      rw [List.length_append, hi.len, List.length_drop]
      omega
    rw [List.length_map]
    walk_at "w"
    walk_at "w"
    repeat' walk_at "e"
    refine s_frz (i := 2) rfl (.refl _) (.append (tS_dats _) (.cons .nil)) ?_
    repeat' walk_at "w"
    rw [hi.done] at q
    rw [List.drop_eq_nil_of_le (Nat.le_refl _), List.append_nil, show (fd.map fun c => tI c) ++ [PyData.tuple [PyData.int y]] = (fd ++ [[y]]).map fun c => tI c from by rw [List.map_append]; rfl]
    have e2 : ((((fd ++ [[y]]).map fun c => tI c).length : Nat) : Int) = ((T.length + 1 : Nat) : Int) := by rw [List.length_map, List.length_append, hi.len]; rfl
    rw [e2]
    exact q
theorem cat3 (T : List (List Int)) (k : Nat) (r : List Int) : PyData.tuple (cut (T.map fun c => tI c) none (some (k : Int)) ++ [tI r] ++ cut (T.map fun c => tI c) (some ((k : Int) + 1)) none) = tS (T.take k ++ [r] ++ T.drop (k + 1)) := by
  rw [cut_hi _ (by omega), cut_lo _ (by omega), Int.toNat_natCast, show ((k : Int) + 1).toNat = k + 1 by omega, ← List.map_take, ← List.map_drop, show [tI r] = [r].map fun c => tI c from rfl, ← List.map_append, ← List.map_append]
def pre_one_longer : Pre := fun rs O Q => ∃ (T : List (List Int)) (k : Nat) (n : Int), rs = [.dat (tS T), iV ((k : Int) + 1), iV n] ∧ Sm 90000 90000 T ∧ k ≤ T.length ∧ Q (.dat (tS (onL T k n))) O
theorem len_one_longer (rs : List SD) (O : Own) (Q : SD → Own → Prop) (h : pre_one_longer rs O Q) : rs.length = 3 := by
  obtain ⟨T, k, n, rfl, _⟩ := h
  rfl
abbrev s_one_longer : Stmt := topS 13
theorem sc_one_longer : FnScope ["tableau", "row", "number", "held"] ["tableau", "row", "number"] (defScope s_one_longer) := ⟨rfl, rfl, rfl, by decide +kernel, rfl, by decide +kernel, by decide +kernel⟩
set_option maxHeartbeats 4000000 in
theorem ok_one_longer  (D : Def K mg "_one_longer" s_one_longer) (m_len : mg "len" = none) : Callee P w K mg base "_one_longer" ["tableau", "row", "number"] 1 pre_one_longer := by
  obtain ⟨f, fd, F, hmg⟩ := D
  refine ⟨f, fd, fn_ok F sc_one_longer len_one_longer fun cdv A outer s H E hr => ⟨_, (pss_cons (ps_set (i := 3) sc_one_longer.nd rfl (.inl rfl) (pe_ifExp (pt_cmpR op_le (pv 1) (pe_callB (kLen K) (by rfl) m_len PySem.boot_len (pa_cons (pv 0) pa_nil)) (nomark _)) (pe_ix (ixT K) (pv 0) (pe_op op_sub (pv 1) pe_int) (fun _ _ => rfl)) (pe_tup pa_nil)))
      (pss_one (ps_ret (pe_op (kCatT K) (pe_op (kCatT K) (pe_slice (slT K) (pv 0) po_none (po_some (pe_op op_sub (pv 1) pe_int))) (pe_tup (pa_cons (pe_op (kCatT K) (pv 3) (pe_tup (pa_cons (pv 2) pa_nil))) pa_nil))) (pe_slice (slT K) (pv 0) (po_some (pv 1)) po_none))))), ?_⟩, hmg, F.kp, F.binds fun _ _ _ _ _ _ us hl => match us, hl with | [_, _, _], _ => rfl, Wk.Fun.lk F⟩
  intro rs O Q h
  obtain ⟨T, k, n, rfl, hT, hk, q⟩ := h
  have hT1 := hT.len
  have hv := hT.get k
  have ek : ((k : Int) + 1 - 1).toNat = k := by omega
  rw [onL_set T k n hk] at q
  show StW K _ O [.dat (tS T), iV ((k : Int) + 1), iV n, .non] _
  refine s_cut (fun O1 ds1 => O1 = O ∧ ds1 = [.dat (tS T), iV ((k : Int) + 1), iV n, .dat (tI (T.getD k []))]) ?_ ?_
  · refine s_asg ?_
    repeat' walk_at "e"
    · rw [ek]
      rfl
    · rename_i hd
      rw [List.length_map] at hd
      have e : T.getD k [] = [] := by
        rw [List.getD_eq_getElem?_getD, List.getElem?_eq_none (by omega)]
        rfl
      rw [e]
      rfl
  rintro _ _ ⟨rfl, rfl⟩
  refine s_ret ?_
  repeat' walk_at "e"
  rw [map_app1, show (k : Int) + 1 - 1 = (k : Int) by omega, cat3]
  exact q
def pre_pair_of : Pre := fun rs O Q => ∃ w : List Int, rs = [.dat (lI w)] ∧ w.length ≤ 1000 ∧ Q (.dat (.tuple [tS (pairT w).1, tS (pairT w).2])) O
theorem len_pair_of (rs : List SD) (O : Own) (Q : SD → Own → Prop) (h : pre_pair_of rs O Q) : rs.length = 1 := by
  obtain ⟨T, rfl, _⟩ := h
  rfl
local macro_rules | `(tactic| walk_at "e") => `(tactic| ((with_reducible show pre_pair_of _ _ _); refine ⟨_, rfl, by omega, ?_⟩))
abbrev s_pair_of : Stmt := topS 12
theorem sc_pair_of : FnScope ["word", "first", "second", "k", "letter", "row"] ["word"] (defScope s_pair_of) := ⟨rfl, rfl, rfl, by decide +kernel, rfl, by decide +kernel, by decide +kernel⟩
set_option maxHeartbeats 4000000 in
theorem ok_pair_of  (D : Def K mg "pair_of" s_pair_of) (C_inserted : Callee P w K mg base "_inserted" ["tableau", "letter"] 2 pre_inserted) (C_one_longer : Callee P w K mg base "_one_longer" ["tableau", "row", "number"] 1 pre_one_longer) (m_enumerate : mg "enumerate" = none) : Callee P w K mg base "pair_of" ["word"] 3 pre_pair_of := by
  obtain ⟨f, fd, F, hmg⟩ := D
  obtain ⟨f_inserted, fd_inserted, G_inserted, g_inserted, kp_inserted, b_inserted, _⟩ := C_inserted
  obtain ⟨f_one_longer, fd_one_longer, G_one_longer, g_one_longer, kp_one_longer, b_one_longer, _⟩ := C_one_longer
  refine ⟨f, fd, fn_ok F sc_pair_of len_pair_of fun cdv A outer s H E hr => ⟨_, (pss_cons (ps_set (i := 1) sc_pair_of.nd rfl (.inl rfl) (pe_tup pa_nil))
      (pss_cons (ps_set (i := 2) sc_pair_of.nd rfl (.inl rfl) (pe_tup pa_nil))
      (pss_cons (ps_for PassesOwn.never rfl (pi_enumL K (by rfl) m_enumerate (pa_cons (pv 0) pa_nil)) (pgTup K rfl (pgs_cons (pg_name (i := 3) sc_pair_of.nd rfl (.inl rfl)) (pgs_cons (pg_name (i := 4) sc_pair_of.nd rfl (.inl rfl)) pgs_nil))) (pss_cons (ps_asg (pe_call G_inserted (hr.mono (by decide)) (by rfl) g_inserted kp_inserted b_inserted .nil pass0 (pa_cons (pv 1) (pa_cons (pv 4) pa_nil))) (pgTup K rfl (pgs_cons (pg_name (i := 1) sc_pair_of.nd rfl (.inl rfl)) (pgs_cons (pg_name (i := 5) sc_pair_of.nd rfl (.inl rfl)) pgs_nil))))
      (pss_one (ps_set (i := 2) sc_pair_of.nd rfl (.inl rfl) (pe_call G_one_longer (hr.mono (by decide)) (by rfl) g_one_longer kp_one_longer b_one_longer .nil pass0 (pa_cons (pv 2) (pa_cons (pv 5) (pa_cons (pe_op op_add (pv 3) pe_int) pa_nil))))))))
      (pss_one (ps_ret (pe_tup (pa_cons (pv 1) (pa_cons (pv 2) pa_nil)))))))), ?_⟩, hmg, F.kp, F.binds fun _ _ _ _ _ _ us hl => match us, hl with | [_], _ => rfl, Wk.Fun.lk F⟩
  intro rs O Q h
  obtain ⟨w, rfl, hw, q⟩ := h
  show StW K _ O [.dat (lI w), .non, .non, .non, .non, .non] _
  refine s_seq (s_asg ?_)
  repeat' walk_at "e"
  refine s_seq (s_asg ?_)
  repeat' walk_at "e"
  refine s_seq (s_forEL ?_)
  repeat' walk_at "e"
  refine ⟨fun k O2 ds2 => ∃ a b c : SD, O2 = O ∧ ds2 = [.dat (lI w), .dat (tS (pairT (w.take k)).1), .dat (tS (pairT (w.take k)).2), a, b, c], ⟨_, _, _, rfl, rfl⟩, fun k d O2 ds2 hd hI B hB => ?_, fun O2 ds2 hI => ?_⟩
  · obtain ⟨a, b, c, rfl, rfl⟩ := hI
    obtain ⟨v, hv, rfl⟩ := map_get hd
    have hk : k < w.length := (List.getElem?_eq_some_iff.mp hv).1
    have hok := pairT_ok (w.take k)
    have hwl : (w.take k).length = k := by rw [List.length_take]; omega
    have sn := pairT_snoc (w.take k) v
    rw [← take_next hv, hwl] at sn
    rw [hwl] at hok
    generalize pairT (w.take k) = R at *
    have s1 := hok.szp
    have s2 := hok.szq
    have hsm : Sm 90000 90000 R.1 := hok.tp.sm.up (by omega) (by omega)
    have hsm2 : Sm 90000 90000 R.2 := hok.tq.sm.up (by omega) (by omega)
    have hno := insT_no R.1 v
    have hl := hok.len
    obtain ⟨m, hm⟩ : ∃ m, (insT R.1 v).2 = m + 1 := ⟨_, (Nat.sub_add_cancel hno.1).symm⟩
    refine s_seq (s_unp2 ?_)
    repeat' walk_at "e"
    refine ⟨_, _, rfl, ?_⟩
    refine s_asg (w_call ?_)
    repeat' walk_at "e"
    rw [hm] at sn ⊢
    refine ⟨R.2, m, _, rfl, hsm2, by omega, ?_⟩
    refine hB.nx _ _ ⟨iV (k : Int), iV v, iV ((m + 1 : Nat) : Int), rfl, ?_⟩
    rw [sn]
    rfl
  · obtain ⟨a, b, c, rfl, rfl⟩ := hI
    rw [List.length_map, List.take_length]
    repeat' walk_at "w"
    exact q
def pre_size : Pre := fun rs O Q => ∃ T : List (List Int), rs = [.dat (tS T)] ∧ T.length ≤ 100000 ∧ Q (iV (szT T : Nat)) O
theorem len_size (rs : List SD) (O : Own) (Q : SD → Own → Prop) (h : pre_size rs O Q) : rs.length = 1 := by
  obtain ⟨T, rfl, _⟩ := h
  rfl
theorem lens_sum (T : List (List Int)) : (T.map fun r => (r.length : Int)).sum = (szT T : Nat) := by
  induction T with
  | nil => rfl
  | cons r t ih =>
    rw [List.map_cons, List.sum_cons, ih]
    show _ = (((r.length + szT t : Nat)) : Int)
    omega
local macro_rules | `(tactic| walk_at "e") => `(tactic| ((with_reducible show pre_size _ _ _); refine ⟨_, rfl, by omega, ?_⟩))
abbrev s_size : Stmt := topS 6
theorem sc_size : FnScope ["rows", "row"] ["rows"] (defScope s_size) := ⟨rfl, rfl, rfl, by decide +kernel, rfl, by decide +kernel, by decide +kernel⟩
set_option maxHeartbeats 4000000 in
theorem ok_size  (D : Def K mg "_size" s_size) (m_len : mg "len" = none) (m_sum : mg "sum" = none) : Callee P w K mg base "_size" ["rows"] 1 pre_size := by
  obtain ⟨f, fd, F, hmg⟩ := D
  refine ⟨f, fd, fn_ok F sc_size len_size fun cdv A outer s H E hr => ⟨_, (pss_one (ps_ret (pe_callB (kSum K rfl) (by rfl) m_sum (by decide +kernel) (pa_cons (pe_lc (own := [("row", 1)]) (g := gName 1) rfl sc_size.nd (piT K (pv 0)) (blkOk_by (own := [("row", 1)]) (N := ["rows", "row"]) (by first | (show blkC _ (defScope s_size) _ _ = true; decide +kernel) | kernel_rfl | rfl)) (fun _ _ _ _ _ => pg_name (i := 1) sc_size.nd rfl (by first | exact Or.inl rfl | exact Or.inr rfl)) (fun _ _ _ _ _ => pts_nil) (fun _ _ _ _ _ => (pe_callB (kLen K) (by rfl) m_len PySem.boot_len (pa_cons (pv 1) pa_nil)))) pa_nil)))), ?_⟩, hmg, F.kp, F.binds fun _ _ _ _ _ _ us hl => match us, hl with | [_], _ => rfl, Wk.Fun.lk F⟩
  intro rs O Q h
  obtain ⟨T, rfl, hn, q⟩ := h
  show StW K _ O [.dat (tS T), .non] _
  refine s_ret (w_cb (w_cons (w_frz (w_lcT ?_))))
  repeat' walk_at "e"
  refine ⟨by rw [List.length_map]; omega, fun i acc O2 => acc = ((T.take i).map fun r => (r.length : Int)).map (fun n => iV n) ∧ O2 = O, ⟨rfl, rfl⟩, fun i d acc O2 hd hl hI Dl => ?_, fun acc O2 Dl hI => ?_⟩
  · obtain ⟨rfl, rfl⟩ := hI
    obtain ⟨v, hv, rfl⟩ := map_get hd
    repeat' walk_at "e"
    refine ⟨_, .refl _, ?_, rfl⟩
    rw [take_next hv, List.map_append, List.map_append, List.length_map]
    rfl
  · obtain ⟨rfl, rfl⟩ := hI
    refine ⟨Dl, _, _, _, rfl, .refl _, Dats.ints _, ?_⟩
    rw [List.length_map, List.take_length]
    repeat' walk_at "e"
    rw [lens_sum]
    exact q
def pre_shape : Pre := fun rs O Q => ∃ T : List (List Int), rs = [.dat (tS T)] ∧ T.length ≤ 100000 ∧ Q (.dat (tI (T.map fun r => (r.length : Int)))) O
theorem len_shape (rs : List SD) (O : Own) (Q : SD → Own → Prop) (h : pre_shape rs O Q) : rs.length = 1 := by
  obtain ⟨T, rfl, _⟩ := h
  rfl
local macro_rules | `(tactic| walk_at "e") => `(tactic| ((with_reducible show pre_shape _ _ _); refine ⟨_, rfl, by omega, ?_⟩))
abbrev s_shape : Stmt := topS 7
theorem sc_shape : FnScope ["tableau", "row"] ["tableau"] (defScope s_shape) := ⟨rfl, rfl, rfl, by decide +kernel, rfl, by decide +kernel, by decide +kernel⟩
set_option maxHeartbeats 4000000 in
theorem ok_shape  (D : Def K mg "_shape" s_shape) (m_len : mg "len" = none) (m_tuple : mg "tuple" = none) : Callee P w K mg base "_shape" ["tableau"] 1 pre_shape := by
  obtain ⟨f, fd, F, hmg⟩ := D
  refine ⟨f, fd, fn_ok F sc_shape len_shape fun cdv A outer s H E hr => ⟨_, (pss_one (ps_ret (pe_callTy (kTupOf K) (by rfl) m_tuple (by decide +kernel) (pa_cons (pe_lc (own := [("row", 1)]) (g := gName 1) rfl sc_shape.nd (piT K (pv 0)) (blkOk_by (own := [("row", 1)]) (N := ["tableau", "row"]) (by first | (show blkC _ (defScope s_shape) _ _ = true; decide +kernel) | kernel_rfl | rfl)) (fun _ _ _ _ _ => pg_name (i := 1) sc_shape.nd rfl (by first | exact Or.inl rfl | exact Or.inr rfl)) (fun _ _ _ _ _ => pts_nil) (fun _ _ _ _ _ => (pe_callB (kLen K) (by rfl) m_len PySem.boot_len (pa_cons (pv 1) pa_nil)))) pa_nil)))), ?_⟩, hmg, F.kp, F.binds fun _ _ _ _ _ _ us hl => match us, hl with | [_], _ => rfl, Wk.Fun.lk F⟩
  intro rs O Q h
  obtain ⟨T, rfl, hT, q⟩ := h
  show StW K _ O [.dat (tS T), .non] _
  refine s_ret (w_cb (w_cons (w_frz (w_lcT ?_))))
  repeat' walk_at "e"
  refine ⟨by rw [List.length_map]; omega, fun i acc O2 => acc = ((T.take i).map fun r => (r.length : Int)).map (fun n => iV n) ∧ O2 = O, ⟨rfl, rfl⟩, fun i d acc O2 hd hl hI Dl => ?_, fun acc O2 Dl hI => ?_⟩
  · obtain ⟨rfl, rfl⟩ := hI
    obtain ⟨v, hv, rfl⟩ := map_get hd
    repeat' walk_at "e"
    refine ⟨_, .refl _, ?_, rfl⟩
    rw [take_next hv, List.map_append, List.map_append, List.length_map]
    rfl
  · obtain ⟨rfl, rfl⟩ := hI
    refine ⟨Dl, _, _, _, rfl, .refl _, Dats.ints _, ?_⟩
    rw [List.length_map, List.take_length]
    repeat' walk_at "e"
    exact q
def pre_last_less : Pre := fun rs O Q => ∃ (r : List Int) (x : Int), rs = [.dat (tI r), iV x] ∧ r.length ≤ 100000 ∧ (∃ i, i < r.length ∧ r.getD i 0 < x) ∧ Q (iV (ll r x (r.length - 1) : Nat)) O
theorem len_last_less (rs : List SD) (O : Own) (Q : SD → Own → Prop) (h : pre_last_less rs O Q) : rs.length = 2 := by
  obtain ⟨r, x, rfl, _⟩ := h
  rfl
local macro_rules | `(tactic| walk_at "e") => `(tactic| ((with_reducible show pre_last_less _ _ _); refine ⟨_, _, rfl, by omega, by assumption, ?_⟩))
abbrev s_last_less : Stmt := topS 11
theorem sc_last_less : FnScope ["row", "letter", "at"] ["row", "letter"] (defScope s_last_less) := ⟨rfl, rfl, rfl, by decide +kernel, rfl, by decide +kernel, by decide +kernel⟩
set_option maxHeartbeats 4000000 in
theorem ok_last_less  (D : Def K mg "_last_less" s_last_less) (m_len : mg "len" = none) : Callee P w K mg base "_last_less" ["row", "letter"] 1 pre_last_less := by
  obtain ⟨f, fd, F, hmg⟩ := D
  refine ⟨f, fd, fn_ok F sc_last_less len_last_less fun cdv A outer s H E hr => ⟨_, (pss_cons (ps_set (i := 2) sc_last_less.nd rfl (.inl rfl) (pe_op op_sub (pe_callB (kLen K) (by rfl) m_len PySem.boot_len (pa_cons (pv 0) pa_nil)) pe_int))
      (pss_cons (ps_while PassesOwn.never (pt_cmpR op_ge (pe_ix (ixT K) (pv 0) (pv 2) (fun _ _ => rfl)) (pv 1) (nomark _)) (pss_one (ps_aug (i := 2) sc_last_less.nd rfl (.inl rfl) pe_int ip_sub)))
      (pss_one (ps_ret (pv 2))))), ?_⟩, hmg, F.kp, F.binds fun _ _ _ _ _ _ us hl => match us, hl with | [_, _], _ => rfl, Wk.Fun.lk F⟩
  intro rs O Q h
  obtain ⟨r, x, rfl, hn, ⟨i, hi, hx⟩, q⟩ := h
  show StW K _ O [.dat (tI r), iV x, .non] _
  walk_at "w"
  walk_at "w"
  repeat' walk_at "e"
  refine s_seq (s_while (fun m O2 ds2 => ∃ n : Nat, m = n ∧ n < r.length ∧ i ≤ n ∧ ll r x n = ll r x (r.length - 1) ∧ O2 = O ∧ ds2 = [.dat (tI r), iV x, iV (n : Int)]) ⟨_, r.length - 1, rfl, by omega, by omega, rfl, rfl, by rw [List.length_map, show ((r.length : Int)) - 1 = ((r.length - 1 : Nat) : Int) by omega]; rfl⟩ fun m O2 ds2 hI => ?_)
  obtain ⟨n, h1, h2, h3, h4, rfl, rfl⟩ := hI
  repeat' walk_at "e"
  · rename_i he
    intro B hB
    repeat' walk_at "w"
    rw [Int.toNat_natCast] at he
    obtain ⟨n', rfl⟩ : ∃ n', n = n' + 1 := ⟨n - 1, by
      rcases Nat.eq_zero_or_pos n with z | z
      · subst z
        have e : i = 0 := by omega
        subst e
        omega
      · omega⟩
    have hin : i ≤ n' := by
      rcases Nat.lt_or_ge n' i with z | z
      · have e : i = n' + 1 := by omega
        subst e
        omega
      · exact z
    refine hB.nx n' _ _ (by omega) ⟨n', rfl, by omega, hin, ?_, rfl, ?_⟩
    · rw [← h4]
      conv => rhs; unfold ll
      rw [if_neg (by omega)]
    · show [SD.dat (tI r), iV x, iV (((n' + 1 : Nat) : Int) - 1)] = _
      rw [show ((n' + 1 : Nat) : Int) - 1 = (n' : Int) by omega]
  · rename_i he
    rw [Int.toNat_natCast] at he
    repeat' walk_at "w"
    have e : ll r x (r.length - 1) = n := by
      rw [← h4]
      exact ll_eq (Nat.le_refl _) (by omega) fun k h5 h6 => by omega
    rw [e] at q
    exact q
def pre_take_out (C : Addr) : PreX := fun rs O Q Qx => ∃ (T : List (List Int)) (n : Int), rs = [.dat (tS T), iV n] ∧ Sm 90000 90000 T ∧ Tab T ∧ -(2 ^ 60) ≤ n ∧ n ≤ 2 ^ 60 ∧ (¬ CanOut T n → Qx C none O) ∧ (CanOut T n → Q (.dat (.tuple [tS (outT T (n - 1).toNat).1, .int (outT T (n - 1).toNat).2])) O)
theorem len_take_out {C : Addr} (rs : List SD) (O : Own) (Q : SD → Own → Prop) (Qx : Addr → Option (Str × PyData) → Own → Prop) (h : pre_take_out C rs O Q Qx) : rs.length = 2 := by
  obtain ⟨mu, nu, rfl, _⟩ := h
  rfl
abbrev s_take_out : Stmt := topS 10
theorem sc_take_out : FnScope ["tableau", "row", "rows", "moving", "r", "above", "at", "held"] ["tableau", "row"] (defScope s_take_out) := ⟨rfl, rfl, rfl, by decide +kernel, rfl, by decide +kernel, by decide +kernel⟩
set_option maxHeartbeats 4000000 in
theorem ok_take_out  {C_NoSuchRow : Addr} (D : Def K mg "take_out" s_take_out) (C_last_less : Callee P w K mg base "_last_less" ["row", "letter"] 1 pre_last_less) (m_len : mg "len" = none) (m_list : mg "list" = none) (m_range : mg "range" = none) (m_tuple : mg "tuple" = none) (N_NoSuchRow : ExN K mg "NoSuchRow" C_NoSuchRow) : CalleeX P w K mg base "take_out" ["tableau", "row"] 2 (pre_take_out C_NoSuchRow) := by
  obtain ⟨f, fd, F, hmg⟩ := D
  obtain ⟨f_last_less, fd_last_less, G_last_less, g_last_less, kp_last_less, b_last_less, _⟩ := C_last_less
  refine ⟨f, fd, fnx_ok F sc_take_out len_take_out fun cdv A outer s H E hr => ⟨_, (pss_cons (ps_if (PW.pt (pw_or (pt_cmpR op_lt (pv 1) pe_int (nomark _)) (pw_or1 (pt_cmpR op_gt (pv 1) (pe_callB (kLen K) (by rfl) m_len PySem.boot_len (pa_cons (pv 0) pa_nil)) (nomark _))))) (pss_one (psRz1 (K := K) N_NoSuchRow rfl (by exact takes_of rfl rfl rfl rfl : Takes _ (wE E)) rfl (psFs pe_str (pe_fmt (pv 1))))) pss_nil)
      (pss_cons (ps_if (PW.pt (pw_and (pt_cmpR op_lt (pv 1) (pe_callB (kLen K) (by rfl) m_len PySem.boot_len (pa_cons (pv 0) pa_nil)) (nomark _)) (pw_and1 (pt_cmpR op_le (pe_callB (kLen K) (by rfl) m_len PySem.boot_len (pa_cons (pe_ix (ixT K) (pv 0) (pe_op op_sub (pv 1) pe_int) (fun _ _ => rfl)) pa_nil)) (pe_callB (kLen K) (by rfl) m_len PySem.boot_len (pa_cons (pe_ix (ixT K) (pv 0) (pv 1) (fun _ _ => rfl)) pa_nil)) (nomark _))))) (pss_one (psRz1 (K := K) N_NoSuchRow rfl (by exact takes_of rfl rfl rfl rfl : Takes _ (wE E)) rfl (psJf (.cons pe_str (.cons (pe_fmt (pv 1)) (.cons pe_str .nil)))))) pss_nil)
      (pss_cons (ps_set (i := 2) sc_take_out.nd rfl (.inl rfl) (pe_callTy (kListOf K) (by rfl) m_list (by decide +kernel) (pa_cons (pv 0) pa_nil)))
      (pss_cons (ps_set (i := 3) sc_take_out.nd rfl (.inl rfl) (pe_ix (ixT K) (pe_ix (ixL K) (pv 2) (pe_op op_sub (pv 1) pe_int) (fun _ _ => rfl)) (pe_un un_neg pe_int) (fun _ _ => rfl)))
      (pss_cons (ps_asg (pe_slice (slT K) (pe_ix (ixL K) (pv 2) (pe_op op_sub (pv 1) pe_int) (fun _ _ => rfl)) po_none (po_some (pe_un un_neg pe_int))) (pg_sub (pv 2) (pe_op op_sub (pv 1) pe_int) set_list))
      (pss_cons (ps_for (passes_of rfl) rfl (pi_range3 (by rfl) m_range (pa_cons (pe_op op_sub (pv 1) pe_int) (pa_cons (pe_un un_neg pe_int) (pa_cons (pe_un un_neg pe_int) pa_nil)))) (pg_name (i := 4) sc_take_out.nd rfl (.inl rfl)) (pss_cons (ps_set (i := 5) sc_take_out.nd rfl (.inl rfl) (pe_ix (ixL K) (pv 2) (pv 4) (fun _ _ => rfl)))
      (pss_cons (ps_set (i := 6) sc_take_out.nd rfl (.inl rfl) (pe_call G_last_less (hr.mono (by decide)) (by rfl) g_last_less kp_last_less b_last_less .nil pass0 (pa_cons (pv 5) (pa_cons (pv 3) pa_nil))))
      (pss_cons (ps_asg (pe_op (kCatT K) (pe_op (kCatT K) (pe_slice (slT K) (pv 5) po_none (po_some (pv 6))) (pe_tup (pa_cons (pv 3) pa_nil))) (pe_slice (slT K) (pv 5) (po_some (pe_op op_add (pv 6) pe_int)) po_none)) (pg_sub (pv 2) (pv 4) set_list))
      (pss_one (ps_set (i := 3) sc_take_out.nd rfl (.inl rfl) (pe_ix (ixT K) (pv 5) (pv 6) (fun _ _ => rfl))))))))
      (pss_one (ps_ret (pe_tup (pa_cons (pe_callTy (kTupOf K) (by rfl) m_tuple (by decide +kernel) (pa_cons (pe_lc (own := [("held", 7)]) (g := gName 7) rfl sc_take_out.nd (piL K (pv 2)) (blkOk_by (own := [("held", 7)]) (N := ["tableau", "row", "rows", "moving", "r", "above", "at", "held"]) (by first | (show blkC _ (defScope s_take_out) _ _ = true; decide +kernel) | kernel_rfl | rfl)) (fun _ _ _ _ _ => pg_name (i := 7) sc_take_out.nd rfl (by first | exact Or.inl rfl | exact Or.inr rfl)) (fun _ _ _ _ _ => (pts_one (pt_cmpR op_gt (pe_callB (kLen K) (by rfl) m_len PySem.boot_len (pa_cons (pv 7) pa_nil)) pe_int (nomark _)))) (fun _ _ _ _ _ => (pv 7))) pa_nil)) (pa_cons (pv 3) pa_nil))))))))))), ?_⟩, hmg, F.kp, F.binds fun _ _ _ _ _ _ us hl => match us, hl with | [_, _], _ => rfl, Wk.Fun.lk F⟩
  intro rs O Q Qx h
  obtain ⟨T, n, rfl, hT, ht, hn1, hn2, qx, q⟩ := h
  have hT1 := hT.len
  show StW K _ O [.dat (tS T), iV n, .non, .non, .non, .non, .non, .non] _
  refine s_seq (s_if ?_)
  repeat' walk_at "e"
  · rename_i hd
    repeat' walk_at "w"
    exact fun _ => qx fun z => by have := z.1; omega
  · rename_i hd hd2
    rw [List.length_map] at hd2
    repeat' walk_at "w"
    exact fun _ => qx fun z => by have := z.2.1; omega
  rename_i hd hd2
  rw [List.length_map] at hd2
  with_reducible refine s_next ?_
  obtain ⟨k, rfl⟩ : ∃ k : Nat, n = (k : Int) + 1 := ⟨(n - 1).toNat, by omega⟩
  have hk : k < T.length := by omega
  have ek : ((k : Int) + 1 - 1).toNat = k := by omega
  have ek1 : ((k : Int) + 1).toNat = k + 1 := by omega
  have s1 := hT.get k
  have s2 := hT.get (k + 1)
  refine s_cut (fun O1 ds1 => O1 = O ∧ Cor T k ∧ ds1 = [.dat (tS T), iV ((k : Int) + 1), .non, .non, .non, .non, .non, .non]) ?_ ?_
  · refine s_if ?_
    repeat' walk_at "e"
    · rename_i he hle
      simp only [ek, ek1, List.length_map] at hle
      repeat' walk_at "w"
      exact fun _ => qx fun z => by
        have := z.2.2
        rw [ek] at this
        omega
    · rename_i he hle
      simp only [ek, ek1, List.length_map] at hle
      with_reducible refine s_next ?_
      exact ⟨rfl, ⟨hk, by omega⟩, rfl⟩
    · rename_i he
      rw [List.length_map] at he
      with_reducible refine s_next ?_
      have hr := ((rows_iff T).mpr : _)
      refine ⟨rfl, ⟨hk, ?_⟩, rfl⟩
      have e : T.getD (k + 1) [] = [] := by
        rw [List.getD_eq_getElem?_getD, List.getElem?_eq_none (by omega)]
        rfl
      rw [e]
      have hd := ht.drop k
      rw [drop_step hk []] at hd
      rcases Nat.eq_zero_or_pos (T.getD k []).length with z | z
      · exact absurd (List.length_eq_zero_iff.mp z) hd.1
      · exact z
  rintro O5 ds5 ⟨e5, hc, rfl⟩
  replace e5 := e5.symm
  subst e5
  replace q := q ⟨by omega, by rw [ek]; exact hc⟩
  rw [ek] at q
  have hk0 : 0 < (T.getD k []).length := by have := hc.2; omega
  refine s_seq (s_asg (w_cb ?_))
  repeat' walk_at "e"
  refine c_listTO fun p => ?_
  rw [tS_dat]
  have hL : ∀ (cs : List (List Int)), Lst ((p, OD.lst (cs.map fun c => .dat (tI c))) :: O) (.ad p) (cs.map fun c => tI c) := fun cs => .o List.mem_cons_self (tS_dats cs)
  have hL0 := hL T
  refine s_seq (s_asg ?_)
  repeat' walk_at "e"
  rw [ek]
  refine o_lastT hk0 ?_
  refine s_seq (s_setL ?_)
  repeat' walk_at "e"
  rw [ek, tI_init]
  refine ⟨p, _, _, k, O, _, rfl, rfl, .refl _, ?_, .refl _, ?_⟩
  · rw [List.length_map, ixN_in (by omega) (by omega), ek]
  refine s_seq (s_for3N ?_)
  repeat' walk_at "e"
  have hrl : ∀ i, i ≤ k → (outR (T.drop (k - i)) i).1.length = T.length - (k - i) := fun i hi => by
    induction i with
    | zero =>
      rw [Nat.sub_zero, drop_step hk []]
      show (T.drop (k + 1)).length + 1 = _
      rw [List.length_drop]
      omega
    | succ i ih =>
      have := ih (by omega)
      rw [outR_step (by omega), show k - (i + 1) + 1 = k - i by omega, List.length_cons, this]
      omega
  refine ⟨_, _, rfl, ⟨by omega, by omega, by omega, by omega⟩, fun i O2 ds2 => ∃ (a b c : SD), O2 = (p, .lst ((T.take (k - i) ++ (outR (T.drop (k - i)) i).1).map fun c => .dat (tI c))) :: O ∧ ds2 = [.dat (tS T), iV ((k : Int) + 1), .ad p, iV (outR (T.drop (k - i)) i).2, a, b, c, .non], ⟨.non, .non, .non, ?_, ?_⟩, fun i O2 ds2 hi hI B hB => ?_, fun O2 ds2 hI => ?_⟩
  · rw [Nat.sub_zero, drop_step hk []]
    show (p, OD.lst ((T.map fun c => SD.dat (tI c)).set k (.dat (tI (T.getD k []).dropLast)))) :: O = (p, OD.lst ((T.take k ++ (T.getD k []).dropLast :: T.drop (k + 1)).map fun c => .dat (tI c))) :: O
    have e : T.take k ++ (T.getD k []).dropLast :: T.drop (k + 1) = T.set k (T.getD k []).dropLast := by rw [List.set_eq_take_append_cons_drop, if_pos hk]
    rw [e, List.map_set]
  · rw [Nat.sub_zero, drop_step hk []]
    rfl
  · obtain ⟨a, b, c, rfl, rfl⟩ := hI
    obtain ⟨m, hm⟩ : ∃ m, k - i = m + 1 := ⟨k - i - 1, by omega⟩
    have hmk : m + 1 + i = k := by omega
    have hcm : Cor T (m + 1 + i) := by rw [hmk]; exact hc
    obtain ⟨i0, hi0, hx0⟩ := out_less ht hcm
    have hcd := hc.drop (j := m + 1) (by omega)
    rw [show k - (m + 1) = i by omega] at hcd
    have heq := outR_eq (ht.drop (m + 1)) hcd
    have hstep := outR_step (T := T) (j := m) (k := i) (by omega)
    have hget := take_get (T := T) (X := (outR (T.drop (m + 1)) i).1) (j := m) (by omega)
    have hset := fun r => take_set (T := T) (X := (outR (T.drop (m + 1)) i).1) (j := m) (by omega) r
    have hlen := hrl i (by omega)
    rw [hm] at hlen ⊢
    rw [← heq.1] at hx0
    have hll := ll_ok (T.getD m []) (outR (T.drop (m + 1)) i).2 ((T.getD m []).length - 1) i0 (by omega) hx0
    have hsm := hT.get m
    have hrows : (T.take (m + 1) ++ (outR (T.drop (m + 1)) i).1).length = T.length := by
      rw [List.length_append, List.length_take, hlen]
      omega
    have hv : (k : Int) + 1 - 2 - (i : Int) = (m : Int) := by omega
    rw [hv]
    have hL1 := hL (T.take (m + 1) ++ (outR (T.drop (m + 1)) i).1)
    generalize hX : outR (T.drop (m + 1)) i = X at *
    generalize hrw : T.take (m + 1) ++ X.1 = R at *
    generalize hT2 : T.getD m [] = v at *
    have hex : ∃ i, i < v.length ∧ v.getD i 0 < X.2 := ⟨i0, hi0, hx0⟩
    refine s_seq (s_asg ?_)
    repeat' walk_at "e"
    rw [Int.toNat_natCast, hget]
    refine s_seq (s_asg ?_)
    repeat' walk_at "e"
    refine s_seq (s_setL ?_)
    repeat' walk_at "e"
    rw [tI_cut v X.2 (by omega)]
    refine ⟨p, _, _, m, O, _, rfl, rfl, .refl _, ?_, .refl _, ?_⟩
    · rw [List.length_map, hrows, ixN_in (by omega) (by omega), Int.toNat_natCast]
    refine s_asg ?_
    repeat' walk_at "e"
    refine hB.nx _ _ ⟨iV (m : Int), .dat (tI v), iV (ll v X.2 (v.length - 1) : Nat), ?_, ?_⟩
    · rw [show k - (i + 1) = m by omega, hstep]
      rw [← hset, List.map_set]
    · rw [show k - (i + 1) = m by omega, hstep]
      rfl
  · obtain ⟨a, b, c, rfl, rfl⟩ := hI
    rw [show ((k : Int) + 1 - 2 - -1).toNat = k by omega, Nat.sub_self, List.take_zero, List.drop_zero, List.nil_append]
    have hcd := hc.drop (j := 0) (by omega)
    rw [List.drop_zero, Nat.sub_zero] at hcd
    have heq := outR_eq ht hc
    have hlen := hrl k (by omega)
    rw [Nat.sub_self, List.drop_zero, Nat.sub_zero] at hlen
    rw [← heq.1, ← heq.2] at q
    generalize outR T k = X at *
    refine s_frz (i := 2) rfl (.refl _) (tS_dats _) ?_
    refine s_ret (w_tup (w_cons (w_cb (w_cons (w_frz (w_lcL ?_))))))
    repeat' walk_at "e"
    refine ⟨by rw [List.length_map]; omega, fun i acc O2 => acc = (fullR (X.1.take i)).map (fun c => .dat (tI c)) ∧ O2 = O, ⟨rfl, rfl⟩, fun i d acc O2 hd hl hI Dl => ?_, fun acc O2 Dl hI => ?_⟩
    · obtain ⟨rfl, rfl⟩ := hI
      obtain ⟨v, hv, rfl⟩ := map_get hd
      repeat' walk_at "e"
      · rename_i hne
        rw [List.length_map] at hne
        refine ⟨_, .refl _, ?_, rfl⟩
        rw [take_next hv, full_snoc, if_pos (by omega), List.map_append]
        rfl
      · rename_i he
        rw [List.length_map] at he
        refine ⟨_, .refl _, ?_, rfl⟩
        rw [take_next hv, full_snoc, if_neg (by omega), List.append_nil]
    · obtain ⟨rfl, rfl⟩ := hI
      refine ⟨Dl, _, _, _, rfl, .refl _, tS_dats _, ?_⟩
      rw [List.length_map, List.take_length]
      repeat' walk_at "e"
      exact q
def pre_word_of (CP CR : Addr) : PreX := fun rs O Q Qx => ∃ (T U : List (List Int)), rs = [.dat (tS T), .dat (tS U)] ∧ Sm 900 900 T ∧ Sm 900 900 U ∧ (BadP T U → Qx CP none O) ∧ (¬ BadP T U → ∃ w, pairT w = (T, U) ∧ Q (.dat (lI w)) O)
theorem len_word_of {CP CR : Addr} (rs : List SD) (O : Own) (Q : SD → Own → Prop) (Qx : Addr → Option (Str × PyData) → Own → Prop) (h : pre_word_of CP CR rs O Q Qx) : rs.length = 2 := by
  obtain ⟨T, U, rfl, _⟩ := h
  rfl
theorem sz_bnd {m : Nat} : ∀ {T : List (List Int)}, (∀ r ∈ T, r.length ≤ m) → szT T ≤ T.length * m
  | [], _ => Nat.zero_le _
  | r :: t, h => by
    have h1 := sz_bnd (T := t) fun q hq => h q (List.mem_cons_of_mem _ hq)
    have h2 := h r List.mem_cons_self
    show r.length + szT t ≤ (t.length + 1) * m
    rw [Nat.add_mul, Nat.one_mul]
    omega
abbrev s_word_of : Stmt := topS 14
theorem sc_word_of : FnScope ["first", "second", "many", "number", "row_of", "word", "left", "letter", "r", "row"] ["first", "second"] (defScope s_word_of) := ⟨rfl, rfl, rfl, by decide +kernel, rfl, by decide +kernel, by decide +kernel⟩
set_option maxHeartbeats 4000000 in
theorem ok_word_of  {C_NoSuchRow : Addr} {C_NotAPair : Addr} (D : Def K mg "word_of" s_word_of) (C_size : Callee P w K mg base "_size" ["rows"] 1 pre_size) (C_shape : Callee P w K mg base "_shape" ["tableau"] 1 pre_shape) (C_take_out : CalleeX P w K mg base "take_out" ["tableau", "row"] 2 (pre_take_out C_NoSuchRow)) (m_enumerate : mg "enumerate" = none) (m_list : mg "list" = none) (m_range : mg "range" = none) (m_sorted : mg "sorted" = none) (N_NotAPair : ExN K mg "NotAPair" C_NotAPair) {t_LONGEST_WORD : Tok} (m_LONGEST_WORD : mg "LONGEST_WORD" = some (.int 60 t_LONGEST_WORD)) : CalleeX P w K mg base "word_of" ["first", "second"] 3 (pre_word_of C_NotAPair C_NoSuchRow) := by
  obtain ⟨f, fd, F, hmg⟩ := D
  obtain ⟨f_size, fd_size, G_size, g_size, kp_size, b_size, _⟩ := C_size
  obtain ⟨f_shape, fd_shape, G_shape, g_shape, kp_shape, b_shape, _⟩ := C_shape
  obtain ⟨f_take_out, fd_take_out, G_take_out, g_take_out, kp_take_out, b_take_out, _⟩ := C_take_out
  refine ⟨f, fd, fnx_ok F sc_word_of len_word_of fun cdv A outer s H E hr => ⟨_, (pss_cons (ps_set (i := 2) sc_word_of.nd rfl (.inl rfl) (pe_call G_size (hr.mono (by decide)) (by rfl) g_size kp_size b_size .nil pass0 (pa_cons (pv 1) pa_nil)))
      (pss_cons (psSetDc2 (i := 4) rfl rfl (swD_true rfl rfl rfl (by decide +kernel)) (own := [("r", 8), ("row", 9), ("number", 3)]) (vs1 := [3]) rfl sc_word_of.nd (pi_enumT K (by rfl) m_enumerate (pa_cons (pv 1) pa_nil)) (blkOk_by (own := [("r", 8), ("row", 9), ("number", 3)]) (N := ["first", "second", "many", "number", "row_of", "word", "left", "letter", "r", "row"]) (by first | (show blkC _ (defScope s_word_of) _ _ = true; decide +kernel) | kernel_rfl | rfl)) (by decide) (fun _ _ _ _ _ => pgTup (n := 2) K rfl (pgs_cons (pg_name (i := 8) sc_word_of.nd rfl (by first | exact Or.inl rfl | exact Or.inr rfl)) (pgs_cons (pg_name (i := 9) sc_word_of.nd rfl (by first | exact Or.inl rfl | exact Or.inr rfl)) pgs_nil))) (fun _ _ _ _ _ => (piT K (pv 9))) (fun _ _ _ _ _ => (pg_name (i := 3) sc_word_of.nd rfl (by first | exact Or.inl rfl | exact Or.inr rfl))) (fun _ _ _ _ _ => (pv 3)) (fun _ _ _ _ _ => (pe_op op_add (pv 8) pe_int)))
      (pss_cons (ps_if (pt_cmpR op_gt (pv 2) (pe_glob (v := .int 60) rfl m_LONGEST_WORD ⟨_, rfl⟩) (nomark _)) (pss_one (psRz1 (K := K) N_NotAPair rfl (by exact takes_of rfl rfl rfl rfl : Takes _ (wE E)) rfl (psJf (.cons pe_str (.cons (pe_fmt (pv 2)) (.cons pe_str .nil)))))) pss_nil)
      (pss_cons (ps_if (pt_cmpR (kNeD K hr.units) (pe_callB (kSortedD rfl) (by rfl) m_sorted (by decide +kernel) (pa_cons (pv 4) pa_nil)) (pe_listRg rfl (by rfl) m_list (prg_2 (by rfl) m_range pe_int (pe_op op_add (pv 2) pe_int))) (nomark _)) (pss_one (psRz1 (K := K) N_NotAPair rfl (by exact takes_of rfl rfl rfl rfl : Takes _ (wE E)) rfl (psJf (.cons pe_str (.cons (pe_fmt (pv 2)) (.cons pe_str .nil)))))) pss_nil)
      (pss_cons (ps_if (pt_cmpR (kNeD K hr.units) (pe_call G_shape (hr.mono (by decide)) (by rfl) g_shape kp_shape b_shape .nil pass0 (pa_cons (pv 0) pa_nil)) (pe_call G_shape (hr.mono (by decide)) (by rfl) g_shape kp_shape b_shape .nil pass0 (pa_cons (pv 1) pa_nil)) (nomark _)) (pss_one (psRz (K := K) N_NotAPair rfl (by exact takes_of rfl rfl rfl rfl : Takes _ (wE E)) rfl)) pss_nil)
      (pss_cons (ps_set (i := 5) sc_word_of.nd rfl (.inl rfl) (pe_lst pa_nil))
      (pss_cons (ps_set (i := 6) sc_word_of.nd rfl (.inl rfl) (pv 0))
      (pss_cons (ps_for (passes_of rfl) rfl (pi_range3 (by rfl) m_range (pa_cons (pv 2) (pa_cons pe_int (pa_cons (pe_un un_neg pe_int) pa_nil)))) (pg_name (i := 3) sc_word_of.nd rfl (.inl rfl)) (pss_cons (ps_asg (by exact (pe_callS G_take_out (hr.mono (by decide)) (by rfl) g_take_out kp_take_out b_take_out (fun σ => passAt (by exact takes_of rfl rfl rfl rfl : Takes _ (wE E)) σ) (pa_cons (pv 6) (pa_cons (pe_dget (Nat.lt_of_le_of_lt (Nat.add_le_add_left (by decide : 1 ≤ 64) _) hr.units) (pv 4) (pv 3) (fun _ _ => rfl)) pa_nil)))) (pgTup K rfl (pgs_cons (pg_name (i := 6) sc_word_of.nd rfl (.inl rfl)) (pgs_cons (pg_name (i := 7) sc_word_of.nd rfl (.inl rfl)) pgs_nil))))
      (pss_one (psApp K (ps_expr (pe_bm PySem.F.plainAttrs_list PySem.F.slot_list_append PySem.F.type_list_append mt_append (pv 5) (pa_cons (pv 7) pa_nil)))))))
      (pss_one (ps_ret (peRev K (pv 5)))))))))))), ?_⟩, hmg, F.kp, F.binds fun _ _ _ _ _ _ us hl => match us, hl with | [_, _], _ => rfl, Wk.Fun.lk F⟩
  intro rs O Q Qx h
  obtain ⟨T, U, rfl, hT, hU, qx, q⟩ := h
  show StW K _ O [.dat (tS T), .dat (tS U), .non, .non, .non, .non, .non, .non, .non, .non] _
  have hTl := hT.len
  have hUl := hU.len
  have hUs : szT U ≤ 810000 := Nat.le_trans (sz_bnd hU.row) (Nat.mul_le_mul_right 900 hUl)
  refine s_seq (s_asg ?_)
  repeat' walk_at "e"
  refine s_seq (s_asg (w_rowD (by decide) (by decide) (by decide) (Nat.le_of_ble_eq_true rfl) (Nat.le_of_ble_eq_true rfl) (Nat.le_of_ble_eq_true rfl) ?_))
  repeat' walk_at "e"
  refine ⟨by omega, fun r hr => Nat.le_trans (hU.row r hr) (by decide), fun D => ?_⟩
  refine s_seq (s_if ?_)
  repeat' walk_at "e"
  · rename_i hd
    refine s_cv (Cv.sub (List.sublist_cons_self ..)) ?_
    repeat' walk_at "w"
    exact fun _ => qx (.inl (by omega))
  rename_i hd
  have h60 : szT U ≤ 60 := by omega
  obtain ⟨ks, hk1, hk2, hk3⟩ := rowK_keys U U.length (Nat.le_refl _)
  have hkl : ks.length < 64 := by
    have h1 := rowK_sz U U.length (Nat.le_refl _)
    rw [List.take_length] at h1
    have h2 := congrArg List.length hk1
    rw [List.length_map, List.length_map] at h2
    omega
  have hkm : ∀ v, v ∈ ks ↔ ∃ r ∈ U, v ∈ r := fun v => (hk3 v).trans mem_getD.symm
  refine s_next ?_
  refine s_seq (s_if ?_)
  repeat' walk_at "e"
  refine g_sortedD List.mem_cons_self hk1 hkl fun ms hms hmp => ?_
  repeat' walk_at "e"
  refine w_lstRg2 ?_
  repeat' walk_at "e"
  refine ⟨RgOk.of_le (by decide) (by omega) (by decide) (by omega), ?_⟩
  rw [rg_numsW]
  repeat' walk_at "e"
  · rename_i bb hbb hd
    have hne : ms ≠ nums (szT U) := fun z => by
      rw [hbb.mpr (by rw [z])] at hd
      cases hd
    refine s_cv (Cv.sub (List.sublist_cons_self ..)) ?_
    repeat' walk_at "w"
    exact fun _ => qx (.inr (.inl fun hiff => hne (sorted_eq (hms.trans ((List.perm_ext_iff_of_nodup hk2 (nums_nodup _)).mpr fun v => (hkm v).trans ((hiff v).trans mem_nums.symm))) hmp (nums_pair _))))
  rename_i bb hbb hd
  have hms2 : ms = nums (szT U) := by
    have hb : bb = true := by
      cases bb with
      | true => rfl
      | false => cases hd
    have := hbb.mp hb
    injection this with this
    exact (List.map_inj_right fun a b h => by injection h).mp this
  have hiff : ∀ v : Int, (∃ r ∈ U, v ∈ r) ↔ 1 ≤ v ∧ v ≤ szT U := fun v => by rw [← hkm, ← hms.mem_iff, hms2, mem_nums]
  refine s_next ?_
  refine s_seq (s_if ?_)
  repeat' walk_at "e"
  · rename_i b2 hb2 hd2
    refine s_cv (Cv.sub (List.sublist_cons_self ..)) ?_
    repeat' walk_at "w"
    refine qx (.inr (.inr fun z => ?_))
    rw [hb2.mpr (by rw [lensT_int, lensT_int, z])] at hd2
    cases hd2
  rename_i b2 hb2 hd2
  have hle : lensT T = lensT U := by
    have hb : b2 = true := by
      cases b2 with
      | true => rfl
      | false => cases hd2
    have := hb2.mp hb
    injection this with this
    have := (List.map_inj_right (fun a b h => by injection h)).mp this
    rw [lensT_int, lensT_int] at this
    exact int_inj this
  obtain ⟨w, hw, q2⟩ := q fun z => by
    rcases z with z | z | z
    · omega
    · exact z hiff
    · exact z hle
  have hok := pairT_ok w
  rw [hw] at hok
  have hwl : szT U = w.length := hok.szq
  refine s_next ?_
  refine s_seq (s_asg (w_lstO ?_))
  repeat' walk_at "e"
  refine ⟨sz_ok rfl, fun p => ?_⟩
  refine s_seq (s_asg ?_)
  repeat' walk_at "e"
  refine s_seq (s_for3N ?_)
  repeat' walk_at "e"
  have hU2 : (pairT w).2 = U := by rw [hw]
  refine ⟨_, _, rfl, ⟨by omega, by omega, by omega, by omega⟩, fun i O2 ds2 => ∃ (x3 x7 x8 x9 : SD), O2 = (p, .lst (((w.drop (w.length - i)).reverse).map fun v => iV v)) :: (D, diO (rowK U U.length)) :: O ∧ ds2 = [.dat (tS T), .dat (tS U), iV (szT U : Nat), x3, .ad D, .ad p, .dat (tS (pairT (w.take (w.length - i))).1), x7, x8, x9], ⟨.non, .non, .non, .non, ?_, ?_⟩, fun i O2 ds2 hi hI B hB => ?_, fun O2 ds2 hI => ?_⟩
  · rw [Nat.sub_zero, List.drop_length]
    rfl
  · rw [Nat.sub_zero, List.take_length, hw]
    rfl
  · obtain ⟨x3, x7, x8, x9, rfl, rfl⟩ := hI
    obtain ⟨m, hm⟩ : ∃ m, w.length - i = m + 1 := ⟨w.length - i - 1, by omega⟩
    have hmw : m < w.length := by omega
    obtain ⟨hv, hcan, hout⟩ := word_step w hmw
    rw [hU2] at hv hcan hout
    have hokm := pairT_ok (w.take (m + 1))
    have hlm : (w.take (m + 1)).length = m + 1 := by rw [List.length_take]; omega
    rw [hlm] at hokm
    have hsp := hokm.szp
    have hsm : Sm 90000 90000 (pairT (w.take (m + 1))).1 := hokm.tp.sm.up (by omega) (by omega)
    rw [hm, show (szT U : Int) - (i : Int) = (m : Int) + 1 by omega]
    refine s_seq (sx_unp2 (fun Hk hx => hB.xt Hk hx) (x_call ?_))
    repeat' walk_at "e"
    have hrl := (rowOf_lt U _ (hok.has (v := m + 1) (by omega) (by omega))).1
    rw [show ((m + 1 : Nat) : Int) = (m : Int) + 1 from rfl] at hrl
    refine w_dgetI ?_
    repeat' walk_at "e"
    refine ⟨D, _, _, _, rfl, List.mem_cons_of_mem _ List.mem_cons_self, rfl, hv, ?_⟩
    refine w_nil ?_
    refine ⟨_, _, rfl, hsm, hokm.tp, by omega, by omega, fun z => absurd hcan z, fun _ => ?_⟩
    rw [show ((rowOf U ((m : Int) + 1) : Nat) + 1 - 1 : Int).toNat = rowOf U ((m : Int) + 1) by omega, hout]
    refine ⟨_, _, rfl, ?_⟩
    have hdl : (((w.drop (m + 1)).reverse).map fun v => iV v).length ≤ 100 := by rw [List.length_map, List.length_reverse, List.length_drop]; omega
    refine s_drop (w_bm ?_)
    repeat' walk_at "e"
    have em : w.length - (i + 1) = m := by omega
    refine hB.nx _ _ ⟨iV ((m : Int) + 1), iV (w.getD m 0), x8, x9, ?_, ?_⟩
    · rw [em, List.drop_eq_getElem_cons hmw, List.reverse_cons, List.map_append, List.getD_eq_getElem?_getD, List.getElem?_eq_getElem hmw]
      rfl
    · rw [em]
      rfl
  · obtain ⟨x3, x7, x8, x9, rfl, rfl⟩ := hI
    rw [show w.length - ((szT U : Int) - 0).toNat = 0 by omega, List.drop_zero]
    refine s_frz (i := 5) rfl (.refl _) (Dats.ints _) ?_
    refine s_cv (Cv.sub (List.sublist_cons_self ..)) ?_
    refine s_ret ?_
    repeat' walk_at "e"
    rw [← List.map_reverse, List.reverse_reverse]
    exact q2
def pre_law_tape : Pre := fun rs O Q => ∃ ns : List Int, rs = [.scr ns] ∧ ns.length ≤ 63 ∧ ∀ ts : List Int, TapeOk ts → ts.length ≤ 40 * ns.length → Q (.dat (lI ts)) O
theorem len_law_tape (rs : List SD) (O : Own) (Q : SD → Own → Prop) (h : pre_law_tape rs O Q) : rs.length = 1 := by
  obtain ⟨ns, rfl, _⟩ := h
  rfl
abbrev s_law_tape : Stmt := topS 16
theorem sc_law_tape : FnScope ["script", "tape", "cell", "number", "k", "first"] ["script"] (defScope s_law_tape) := ⟨rfl, rfl, rfl, by decide +kernel, rfl, by decide +kernel, by decide +kernel⟩
set_option maxHeartbeats 4000000 in
theorem ok_law_tape  (D : Def K mg "_law_tape" s_law_tape) (m_int : mg "int" = none) (m_range : mg "range" = none) : Callee P w K mg base "_law_tape" ["script"] 1 pre_law_tape := by
  obtain ⟨f, fd, F, hmg⟩ := D
  refine ⟨f, fd, fn_ok F sc_law_tape len_law_tape fun cdv A outer s H E hr => ⟨_, (pss_cons (ps_set (i := 1) sc_law_tape.nd rfl (.inl rfl) (pe_lst pa_nil))
      (pss_cons (ps_for PassesOwn.never rfl (piL K (pv 0)) (pg_name (i := 2) sc_law_tape.nd rfl (.inl rfl)) (pss_cons (ps_set (i := 3) sc_law_tape.nd rfl (.inl rfl) (pe_op op_mul pe_int (pe_callTy kInt1 (by rfl) m_int (by decide +kernel) (pa_cons (pv 2) pa_nil))))
      (pss_cons (ps_if (pt_cmpR op_lt (pv 3) pe_int (nomark _)) (pss_one (ps_set (i := 3) sc_law_tape.nd rfl (.inl rfl) (pe_op op_sub (pe_un un_neg pe_int) (pv 3)))) pss_nil)
      (pss_one (ps_if (pt_cmpR op_ge (pv 3) (pe_op op_pow pe_int pe_int) (nomark _)) (pss_one (ps_for PassesOwn.never rfl (pi_range1 (by rfl) m_range (pa_cons pe_int pa_nil)) (pg_name (i := 4) sc_law_tape.nd rfl (.inl rfl)) (pss_one (ps_if (pt_cmpR op_gt (pv 3) pe_int (nomark _)) (pss_cons (psApp K (ps_expr (pe_bm PySem.F.plainAttrs_list PySem.F.slot_list_append PySem.F.type_list_append mt_append (pv 1) (pa_cons (pe_op op_mod (pe_callTy kInt1 (by rfl) m_int (by decide +kernel) (pa_cons (pv 3) pa_nil)) pe_int) pa_nil))))
      (pss_one (ps_set (i := 3) sc_law_tape.nd rfl (.inl rfl) (pe_op op_fdiv (pv 3) pe_int)))) pss_nil)))) (pss_one (ps_for PassesOwn.never rfl (pi_range1 (by rfl) m_range (pa_cons pe_int pa_nil)) (pg_name (i := 4) sc_law_tape.nd rfl (.inl rfl)) (pss_cons (ps_set (i := 5) sc_law_tape.nd rfl (.inl rfl) (pe_op op_mod (pe_callTy kInt1 (by rfl) m_int (by decide +kernel) (pa_cons (pe_op op_add (pe_op op_add (pe_op op_mul (pv 3) pe_int) (pe_op op_mul (pv 4) pe_int)) pe_int) pa_nil)) pe_int))
      (pss_one (psApp K (ps_expr (pe_bm PySem.F.plainAttrs_list PySem.F.slot_list_append PySem.F.type_list_append mt_append (pv 1) (pa_cons (pe_op op_mod (pe_callTy kInt1 (by rfl) m_int (by decide +kernel) (pa_cons (pe_op op_add (pe_op op_mul (pv 5) pe_int) (pe_op op_fdiv (pv 5) pe_int)) pa_nil)) pe_int) pa_nil)))))))))))))
      (pss_one (ps_ret (pv 1))))), ?_⟩, hmg, F.kp, F.binds fun _ _ _ _ _ _ us hl => match us, hl with | [_], _ => rfl, Wk.Fun.lk F⟩
  intro rs O Q h
  obtain ⟨ns, rfl, hn, q⟩ := h
  show StW K _ O [.scr ns, .non, .non, .non, .non, .non] _
  walk_at "w"
  refine s_asg (w_lstO (w_nil ⟨by decide, fun p => ?_⟩))
  walk_at "w"
  refine s_forS (w_vS rfl ⟨ns, rfl, fun i O2 ds2 => ∃ (ts : List Int) (a b c d : SD), O2 = (p, .lst (ts.map fun n => iV n)) :: O ∧ ds2 = [.scr ns, .ad p, a, b, c, d] ∧ TapeOk ts ∧ ts.length ≤ 40 * i, ⟨[], .non, .non, .non, .non, rfl, rfl, (fun _ h => nomatch h), Nat.le_refl _⟩, fun i d O2 ds2 hd hI B hB => ?_, fun O2 ds2 hI => ?_⟩)
  · obtain ⟨ts, a, b, c, e, rfl, rfl, ht, hl⟩ := hI
    have hi : i < ns.length := (List.getElem?_eq_some_iff.mp hd).1
    refine s_seq (s_asg ?_)
    repeat' walk_at "e"
    refine s_cut (fun O1 ds1 => ∃ n : Int, 0 ≤ n ∧ O1 = (p, .lst (ts.map fun n => iV n)) :: O ∧ ds1 = [.scr ns, .ad p, iV d, iV n, c, e]) ?_ ?_
    · repeat' walk_at "w"
      · exact ⟨-1 - 2 * d, by omega, rfl, rfl⟩
      · exact ⟨2 * d, by omega, rfl, rfl⟩
    · rintro _ _ ⟨n, hn0, rfl, rfl⟩
      refine s_if ?_
      repeat' walk_at "e"
      · refine s_for1 ?_
        repeat' walk_at "e"
        refine ⟨by decide, by decide, fun j O2 ds2 => ∃ (us : List Int) (m : Int) (z : SD), 0 ≤ m ∧ O2 = (p, .lst (us.map fun n => iV n)) :: O ∧ ds2 = [.scr ns, .ad p, iV d, iV m, z, e] ∧ TapeOk us ∧ us.length ≤ 40 * i + j, ⟨ts, n, c, hn0, rfl, rfl, ht, hl⟩, fun j O2 ds2 hj hI B2 hB2 => ?_, fun O2 ds2 hI => ?_⟩
        · obtain ⟨us, m, z, hm0, rfl, rfl, hu, hul⟩ := hI
          repeat' walk_at "w"
          · rename_i hv0 hv1 hv
            refine hB2.nx _ _ ⟨us ++ [_], m / 1000, _, by omega, by rw [List.map_append]; rfl, rfl, hu.snoc hv0 (by omega), by rw [List.length_append]; simp; omega⟩
          · exact hB2.nx _ _ ⟨us, m, _, hm0, rfl, rfl, hu, by omega⟩
        · obtain ⟨us, m, z, hm0, rfl, rfl, hu, hul⟩ := hI
          exact hB.nx _ _ ⟨us, _, _, _, _, rfl, rfl, hu, by simp only [show (40 : Int).toNat = 40 from rfl] at hul; omega⟩
      · refine s_for1 ?_
        repeat' walk_at "e"
        refine ⟨by decide, by decide, fun j O2 ds2 => ∃ (us : List Int) (z z2 : SD), O2 = (p, .lst (us.map fun n => iV n)) :: O ∧ ds2 = [.scr ns, .ad p, iV d, iV n, z, z2] ∧ TapeOk us ∧ us.length ≤ 40 * i + j, ⟨ts, c, e, rfl, rfl, ht, hl⟩, fun j O2 ds2 hj hI B2 hB2 => ?_, fun O2 ds2 hI => ?_⟩
        · obtain ⟨us, z, z2, rfl, rfl, hu, hul⟩ := hI
          repeat' walk_at "w"
          rename_i hv0 hv1 hv
          refine hB2.nx _ _ ⟨us ++ [_], _, _, by rw [List.map_append]; rfl, rfl, hu.snoc hv0 (by omega), by rw [List.length_append]; simp; omega⟩
        · obtain ⟨us, z, z2, rfl, rfl, hu, hul⟩ := hI
          exact hB.nx _ _ ⟨us, _, _, _, _, rfl, rfl, hu, by simp only [show (3 : Int).toNat = 3 from rfl] at hul; omega⟩
  · obtain ⟨ts, a, b, c, e, rfl, rfl, ht, hl⟩ := hI
    refine s_ret (w_frz (w_vA rfl ⟨p, _, _, O, rfl, .refl _, Dats.ints ts, ?_⟩))
    exact q ts ht hl
def pre_law_put : Pre := fun rs O Q => ∃ (T : List (List Int)) (x : Int), rs = [.dat (lS T), iV x] ∧ Sm 1000 1000 T ∧ Q (.dat (.tuple [lS (insT T x).1, .int ((insT T x).2 : Nat)])) O
theorem len_law_put (rs : List SD) (O : Own) (Q : SD → Own → Prop) (h : pre_law_put rs O Q) : rs.length = 2 := by
  obtain ⟨T, x, rfl, _⟩ := h
  rfl
local macro_rules | `(tactic| walk_at "e") => `(tactic| ((with_reducible show pre_law_put _ _ _); refine ⟨_, _, rfl, by assumption, ?_⟩))
theorem lS_app (a b : List (List Int)) : (a.map fun c => tI c) ++ (b.map fun c => tI c) = (a ++ b).map fun c => tI c := (List.map_append).symm
abbrev s_law_put : Stmt := topS 19
theorem sc_law_put : FnScope ["rows", "letter", "found", "k", "row", "greater", "at", "j"] ["rows", "letter"] (defScope s_law_put) := ⟨rfl, rfl, rfl, by decide +kernel, rfl, by decide +kernel, by decide +kernel⟩
set_option maxHeartbeats 4000000 in
theorem ok_law_put  (D : Def K mg "_law_put" s_law_put) (m_len : mg "len" = none) (m_range : mg "range" = none) : Callee P w K mg base "_law_put" ["rows", "letter"] 1 pre_law_put := by
  obtain ⟨f, fd, F, hmg⟩ := D
  refine ⟨f, fd, fn_ok F sc_law_put len_law_put fun cdv A outer s H E hr => ⟨_, (pss_cons (ps_set (i := 2) sc_law_put.nd rfl (.inl rfl) (pe_lst pa_nil))
      (pss_cons (ps_for PassesOwn.never rfl (pi_range1 (by rfl) m_range (pa_cons (pe_callB (kLen K) (by rfl) m_len PySem.boot_len (pa_cons (pv 0) pa_nil)) pa_nil)) (pg_name (i := 3) sc_law_put.nd rfl (.inl rfl)) (pss_cons (ps_set (i := 4) sc_law_put.nd rfl (.inr rfl) (pe_ix (ixL K) (pv 0) (pv 3) (fun _ _ => rfl)))
      (pss_cons (ps_setLc (i := 5) (own := [("j", 7)]) (g := gName 7) rfl sc_law_put.nd rfl rfl (sw_true rfl rfl rfl (by decide +kernel)) (pi_range1 (by rfl) m_range (pa_cons (pe_callB (kLen K) (by rfl) m_len PySem.boot_len (pa_cons (pv 4) pa_nil)) pa_nil)) (blkOk_by (own := [("j", 7)]) (N := ["rows", "letter", "found", "k", "row", "greater", "at", "j"]) (by first | (show blkC _ (defScope s_law_put) _ _ = true; decide +kernel) | kernel_rfl | rfl)) (fun _ _ _ _ _ => pg_name (i := 7) sc_law_put.nd rfl (by first | exact Or.inl rfl | exact Or.inr rfl)) (fun _ _ _ _ _ => (pts_one (pt_cmpR op_gt (pe_ix (ixT K) (pv 4) (pv 7) (fun _ _ => rfl)) (pv 1) (nomark _)))) (fun _ _ _ _ _ => (pv 7)))
      (pss_cons (ps_if (pt_cmpR op_eq (pe_callB (kLen K) (by rfl) m_len PySem.boot_len (pa_cons (pv 5) pa_nil)) pe_int (nomark _)) (pss_one (ps_ret (pe_tup (pa_cons (pe_op op_cat (pe_op op_cat (pv 2) (pe_lst (pa_cons (pe_op (kCatT K) (pv 4) (pe_tup (pa_cons (pv 1) pa_nil))) pa_nil))) (pe_slice (slL K) (pv 0) (po_some (pe_op op_add (pv 3) pe_int)) po_none)) (pa_cons (pe_op op_add (pv 3) pe_int) pa_nil))))) pss_nil)
      (pss_cons (ps_set (i := 6) sc_law_put.nd rfl (.inl rfl) (pe_ix (ixL K) (pv 5) pe_int (fun _ _ => rfl)))
      (pss_cons (psApp K (ps_expr (pe_bm PySem.F.plainAttrs_list PySem.F.slot_list_append PySem.F.type_list_append mt_append (pv 2) (pa_cons (pe_op (kCatT K) (pe_op (kCatT K) (pe_slice (slT K) (pv 4) po_none (po_some (pv 6))) (pe_tup (pa_cons (pv 1) pa_nil))) (pe_slice (slT K) (pv 4) (po_some (pe_op op_add (pv 6) pe_int)) po_none)) pa_nil))))
      (pss_one (ps_set (i := 1) sc_law_put.nd rfl (.inr rfl) (pe_ix (ixT K) (pv 4) (pv 6) (fun _ _ => rfl))))))))))
      (pss_one (ps_ret (pe_tup (pa_cons (pe_op op_cat (pv 2) (pe_lst (pa_cons (pe_tup (pa_cons (pv 1) pa_nil)) pa_nil))) (pa_cons (pe_op op_add (pe_callB (kLen K) (by rfl) m_len PySem.boot_len (pa_cons (pv 0) pa_nil)) pe_int) pa_nil))))))), ?_⟩, hmg, F.kp, F.binds fun _ _ _ _ _ _ us hl => match us, hl with | [_, _], _ => rfl, Wk.Fun.lk F⟩
  intro rs O Q h
  obtain ⟨T, x, rfl, hT, q⟩ := h
  have hT1 := hT.len
  show StW K _ O [.dat (lS T), iV x, .non, .non, .non, .non, .non, .non] _
  refine s_seq (s_asg (w_lstO (w_nil ⟨sz_ok rfl, fun p => ?_⟩)))
  refine s_seq (s_for1 ?_)
  repeat' walk_at "e"
  simp only [List.length_map]
  refine ⟨by omega, by omega, fun k O2 ds2 => ∃ (fd : List (List Int)) (y : Int) (a b c d e : SD), InsAt T x k fd y ∧ O2 = (p, .lst (fd.map fun c => .dat (tI c))) :: O ∧ ds2 = [.dat (lS T), iV y, .ad p, a, b, c, d, e], ⟨[], x, _, _, _, _, _, .zero T x, rfl, rfl⟩, fun k O2 ds2 hk hI B hB => ?_, fun O2 ds2 hI => ?_⟩
  · obtain ⟨fd, y, a, b, c, d, e, hi, rfl, rfl⟩ := hI
    have hk2 : k < T.length := by omega
    have hvl := hT.get k
    have hfl := hi.len
    refine s_seq (s_asg ?_)
    repeat' walk_at "e"
    rw [Int.toNat_natCast]
    generalize ev : T.getD k [] = v at *
    have hle := fg_le v y
    refine s_seq (s_asg (w_frz (w_lc1 ?_)))
    repeat' walk_at "e"
    simp only [List.length_map]
    refine ⟨by omega, by omega, fun j acc O2 => acc = (gtL v y j).map (fun n => iV n) ∧ O2 = (p, .lst (fd.map fun c => .dat (tI c))) :: O, ⟨rfl, rfl⟩, fun j acc O2 hj hl hI Dl => ?_, fun acc O2 Dl hI => ?_⟩
    · obtain ⟨rfl, rfl⟩ := hI
      repeat' walk_at "e"
      · rename_i hgt
        refine ⟨_, .refl _, ?_, rfl⟩
        rw [Int.toNat_natCast] at hgt
        show _ = List.map _ (gtL v y j ++ if y < v.getD j 0 then [(j : Int)] else [])
        rw [if_pos hgt, List.map_append]
        rfl
      · rename_i hgt
        refine ⟨_, .refl _, ?_, rfl⟩
        rw [Int.toNat_natCast] at hgt
        show _ = List.map _ (gtL v y j ++ if y < v.getD j 0 then [(j : Int)] else [])
        rw [if_neg hgt, List.append_nil]
    · obtain ⟨rfl, rfl⟩ := hI
      refine ⟨Dl, _, _, _, rfl, .refl _, Dats.ints _, ?_⟩
      rw [show ((v.length : Int)).toNat = v.length by omega]
      have hgl := gtL_len v y v.length
      refine s_seq (s_if ?_)
      repeat' walk_at "e"
      · rename_i he
        rw [List.length_map] at he
        have he2 : fg v y = v.length := by
          rcases Nat.lt_or_ge (fg v y) v.length with z | z
          · obtain ⟨t, ht⟩ := gtL_some z (n := v.length) z
            rw [ht, List.length_cons] at he
            omega
          · omega
        refine s_frz (i := 2) rfl (.refl _) (tS_dats _) ?_
        repeat' walk_at "w"
        refine hB.rt _ _ ?_
        rw [hi.full hk2 (by rw [ev]; exact he2), ev] at q
        rw [cut_lo _ (by omega), show ((k : Int) + 1).toNat = k + 1 by omega, ← List.map_drop, map_app1, show [PyData.tuple ((v ++ [y]).map PyData.int)] = [v ++ [y]].map fun c => tI c from rfl, lS_app, lS_app]
        exact q
      · rename_i he
        rw [List.length_map] at he
        have he2 : fg v y < v.length := by
          rcases Nat.lt_or_ge (fg v y) v.length with z | z
          · exact z
          · rw [gtL_none z] at he
            exact absurd rfl he
        obtain ⟨t, ht⟩ := gtL_some he2 (n := v.length) he2
        rw [ht]
        with_reducible refine s_next ?_
        refine s_seq (s_asg ?_)
        repeat' walk_at "e"
        repeat' walk_at "e"
        rw [show ((fg v y : Int) :: t).getD (Int.toNat 0) 0 = (fg v y : Int) from rfl]
        repeat' walk_at "w"
        have hn := hi.next hk2 (by rw [ev]; exact he2)
        rw [ev] at hn
        refine hB.nx _ _ ⟨_, v.getD (fg v y) 0, _, _, _, _, _, hn, ?_, rfl⟩
        rw [tI_cut v y he2, tS_snoc]
  · obtain ⟨fd, y, a, b, c, d, e, hi, rfl, rfl⟩ := hI
    have hfl := hi.len
    rw [show ((T.length : Int)).toNat = T.length by omega] at hi hfl
    refine s_frz (i := 2) rfl (.refl _) (tS_dats _) ?_
    repeat' walk_at "w"
    rw [hi.done] at q
    rw [List.length_map, show [PyData.tuple [PyData.int y]] = [[y]].map fun c => tI c from rfl, lS_app]
    exact q
def pre_law_made : Pre := fun rs O Q => ∃ w : List Int, rs = [.dat (lI w)] ∧ WordOk 60 w ∧ Q (.dat (tS (madeT w))) O
theorem len_law_made (rs : List SD) (O : Own) (Q : SD → Own → Prop) (h : pre_law_made rs O Q) : rs.length = 1 := by
  obtain ⟨T, rfl, _⟩ := h
  rfl
abbrev s_law_made : Stmt := topS 20
theorem sc_law_made : FnScope ["word", "rows", "letter"] ["word"] (defScope s_law_made) := ⟨rfl, rfl, rfl, by decide +kernel, rfl, by decide +kernel, by decide +kernel⟩
set_option maxHeartbeats 4000000 in
theorem ok_law_made  (D : Def K mg "_law_made" s_law_made) (C_law_put : Callee P w K mg base "_law_put" ["rows", "letter"] 1 pre_law_put) (m_tuple : mg "tuple" = none) : Callee P w K mg base "_law_made" ["word"] 2 pre_law_made := by
  obtain ⟨f, fd, F, hmg⟩ := D
  obtain ⟨f_law_put, fd_law_put, G_law_put, g_law_put, kp_law_put, b_law_put, _⟩ := C_law_put
  refine ⟨f, fd, fn_ok F sc_law_made len_law_made fun cdv A outer s H E hr => ⟨_, (pss_cons (ps_set (i := 1) sc_law_made.nd rfl (.inl rfl) (pe_lst pa_nil))
      (pss_cons (ps_for PassesOwn.never rfl (piL K (pv 0)) (pg_name (i := 2) sc_law_made.nd rfl (.inl rfl)) (pss_one (ps_set (i := 1) sc_law_made.nd rfl (.inl rfl) (pe_ix (ixT K) (pe_call G_law_put (hr.mono (by decide)) (by rfl) g_law_put kp_law_put b_law_put .nil pass0 (pa_cons (pv 1) (pa_cons (pv 2) pa_nil))) pe_int (fun _ _ => rfl)))))
      (pss_one (ps_ret (pe_callTy (kTupOf K) (by rfl) m_tuple (by decide +kernel) (pa_cons (pv 1) pa_nil)))))), ?_⟩, hmg, F.kp, F.binds fun _ _ _ _ _ _ us hl => match us, hl with | [_], _ => rfl, Wk.Fun.lk F⟩
  intro rs O Q h
  obtain ⟨w, rfl, hw, q⟩ := h
  show StW K _ O [.dat (lI w), .non, .non] _
  refine s_seq (s_asg ?_)
  repeat' walk_at "e"
  refine s_seq (s_forL ?_)
  repeat' walk_at "e"
  refine ⟨fun k O2 ds2 => ∃ a : SD, O2 = O ∧ ds2 = [.dat (lI w), .dat (lS (madeT (w.take k))), a], ⟨_, rfl, rfl⟩, fun k d O2 ds2 hd hI B hB => ?_, fun O2 ds2 hI => ?_⟩
  · obtain ⟨a, rfl, rfl⟩ := hI
    obtain ⟨v, hv, rfl⟩ := map_get hd
    have hwt : ∀ v ∈ w.take k, 1 ≤ v ∧ v ≤ 60 := fun v hv => hw.2 v (List.mem_of_mem_take hv)
    obtain ⟨h1, h2, h3⟩ := made_ok (w.take k) hwt
    have hl : (w.take k).length ≤ 60 := by rw [List.length_take]; have := hw.1; omega
    have hsm : Sm 1000 1000 (madeT (w.take k)) := h1.sm.up (by omega) (by omega)
    repeat' walk_at "w"
    refine hB.nx _ _ ⟨iV v, rfl, ?_⟩
    rw [take_next hv, made_snoc]
    rfl
  · obtain ⟨a, rfl, rfl⟩ := hI
    rw [List.length_map, List.take_length]
    repeat' walk_at "w"
    exact q
def pre_law_second : Pre := fun rs O Q => ∃ (st : Addr) (ts : List Int) (k : Int) (T : List (List Int)) (O' : Own), rs = [.ad st, .dat (tS T)] ∧ O = Sta st ts k :: O' ∧ TapeOk ts ∧ 0 ≤ k ∧ k < 900000 ∧ Tab T ∧ szT T ≤ 100 ∧ ∀ (U : List (List Int)) (k2 : Int), PairOk (szT T) T U → k ≤ k2 → k2 ≤ k + 100 → Q (.dat (tS U)) (Sta st ts k2 :: O')
theorem len_law_second (rs : List SD) (O : Own) (Q : SD → Own → Prop) (h : pre_law_second rs O Q) : rs.length = 2 := by
  obtain ⟨st, ts, k, T, O', rfl, _⟩ := h
  rfl
abbrev lN (ls : List Nat) : List Int := ls.map fun (n : Nat) => (n : Int)
abbrev CorL (ls : List Nat) (k : Nat) : Prop := 0 < ls.getD k 0 ∧ (k + 1 = ls.length ∨ ls.getD (k + 1) 0 < ls.getD k 0)
theorem lN_sum (ls : List Nat) : (lN ls).sum = (ls.sum : Nat) := by
  induction ls with
  | nil => rfl
  | cons l ls ih =>
    show (l : Int) + (lN ls).sum = ((l + ls.sum : Nat) : Int)
    rw [ih]
    omega
theorem lN_at {ls : List Nat} {k : Nat} (h : k < ls.length) : ((lN ls).map fun n => iV n)[k]? = some (iV (ls.getD k 0 : Nat)) := by
  rw [List.getElem?_map, List.getElem?_map, List.getElem?_eq_getElem h, List.getD_eq_getElem?_getD, List.getElem?_eq_getElem h]
  rfl
theorem at_nthW {α : Type} {xs : List α} {x : α} {i : Int} (h0 : 0 ≤ i) (h : xs[i.toNat]? = some x) : atI xs i = some x := by
  unfold atI
  have := (List.getElem?_eq_some_iff.mp h).1
  rw [ixN_in h0 (by omega)]
  exact h
theorem lN_snoc (fs : List Nat) (j : Nat) : ((lN (fs ++ [j])).map fun n => iV n) = ((lN fs).map fun n => iV n) ++ [iV (j : Int)] := by
  unfold lN
  rw [List.map_append, List.map_append]
  rfl
theorem rep_flat2 (n : Nat) : ((List.replicate n [PyData.tuple []]).flatten).map SD.dat = (List.replicate n ([] : List Int)).map fun c => SD.dat (tI c) := by
  induction n with
  | zero => rfl
  | succ n ih =>
    rw [List.replicate_succ, List.replicate_succ, List.flatten_cons, List.map_append, ih]
    rfl
abbrev s_law_second : Stmt := topS 23
theorem sc_law_second : FnScope ["state", "first", "lengths", "rows", "number", "fits", "k", "at", "row"] ["state", "first"] (defScope s_law_second) := ⟨rfl, rfl, rfl, by decide +kernel, rfl, by decide +kernel, by decide +kernel⟩
set_option maxHeartbeats 4000000 in
theorem ok_law_second  (D : Def K mg "_law_second" s_law_second) (C_law_take : Callee P w K mg base "_law_take" ["state", "many"] 2 pre_law_take) (m_len : mg "len" = none) (m_range : mg "range" = none) (m_sum : mg "sum" = none) (m_tuple : mg "tuple" = none) : Callee P w K mg base "_law_second" ["state", "first"] 3 pre_law_second := by
  obtain ⟨f, fd, F, hmg⟩ := D
  obtain ⟨f_law_take, fd_law_take, G_law_take, g_law_take, kp_law_take, b_law_take, _⟩ := C_law_take
  refine ⟨f, fd, fn_ok F sc_law_second len_law_second fun cdv A outer s H E hr => ⟨_, (pss_cons (ps_setLc (i := 2) (own := [("row", 8)]) (g := gName 8) rfl sc_law_second.nd rfl rfl (sw_true rfl rfl rfl (by decide +kernel)) (piT K (pv 1)) (blkOk_by (own := [("row", 8)]) (N := ["state", "first", "lengths", "rows", "number", "fits", "k", "at", "row"]) (by first | (show blkC _ (defScope s_law_second) _ _ = true; decide +kernel) | kernel_rfl | rfl)) (fun _ _ _ _ _ => pg_name (i := 8) sc_law_second.nd rfl (by first | exact Or.inl rfl | exact Or.inr rfl)) (fun _ _ _ _ _ => pts_nil) (fun _ _ _ _ _ => (pe_callB (kLen K) (by rfl) m_len PySem.boot_len (pa_cons (pv 8) pa_nil))))
      (pss_cons (ps_set (i := 3) sc_law_second.nd rfl (.inl rfl) (pe_op op_rep (pe_lst (pa_cons (pe_tup pa_nil) pa_nil)) (pe_callB (kLen K) (by rfl) m_len PySem.boot_len (pa_cons (pv 1) pa_nil))))
      (pss_cons (ps_for PassesOwn.never rfl (pi_range3 (by rfl) m_range (pa_cons (pe_callB (kSum K rfl) (by rfl) m_sum (by decide +kernel) (pa_cons (pv 2) pa_nil)) (pa_cons pe_int (pa_cons (pe_un un_neg pe_int) pa_nil)))) (pg_name (i := 4) sc_law_second.nd rfl (.inl rfl)) (pss_cons (ps_set (i := 5) sc_law_second.nd rfl (.inl rfl) (pe_lst pa_nil))
      (pss_cons (ps_for PassesOwn.never rfl (pi_range1 (by rfl) m_range (pa_cons (pe_callB (kLen K) (by rfl) m_len PySem.boot_len (pa_cons (pv 2) pa_nil)) pa_nil)) (pg_name (i := 6) sc_law_second.nd rfl (.inl rfl)) (pss_one (ps_if (PW.pt (pw_and (pt_cmpR op_gt (pe_ix (ixL K) (pv 2) (pv 6) (fun _ _ => rfl)) pe_int (nomark _)) (pw_and1 (PW.pt (pw_or (pt_cmpR op_eq (pe_op op_add (pv 6) pe_int) (pe_callB (kLen K) (by rfl) m_len PySem.boot_len (pa_cons (pv 2) pa_nil)) (nomark _)) (pw_or1 (pt_cmpR op_lt (pe_ix (ixL K) (pv 2) (pe_op op_add (pv 6) pe_int) (fun _ _ => rfl)) (pe_ix (ixL K) (pv 2) (pv 6) (fun _ _ => rfl)) (nomark _)))))))) (pss_one (psApp K (ps_expr (pe_bm PySem.F.plainAttrs_list PySem.F.slot_list_append PySem.F.type_list_append mt_append (pv 5) (pa_cons (pv 6) pa_nil))))) pss_nil)))
      (pss_cons (ps_set (i := 7) sc_law_second.nd rfl (.inl rfl) (pe_ix (ixL K) (pv 5) (pe_call G_law_take (hr.mono (by decide)) (by rfl) g_law_take kp_law_take b_law_take .nil pass0 (pa_cons (pv 0) (pa_cons (pe_callB (kLen K) (by rfl) m_len PySem.boot_len (pa_cons (pv 5) pa_nil)) pa_nil))) (fun _ _ => rfl)))
      (pss_cons (ps_asg (pe_op (kCatT K) (pe_tup (pa_cons (pv 4) pa_nil)) (pe_ix (ixL K) (pv 3) (pv 7) (fun _ _ => rfl))) (pg_sub (pv 3) (pv 7) set_list))
      (pss_one (ps_asg (pe_op op_sub (pe_ix (ixL K) (pv 2) (pv 7) (fun _ _ => rfl)) pe_int) (pg_sub (pv 2) (pv 7) set_list))))))))
      (pss_one (ps_ret (pe_callTy (kTupOf K) (by rfl) m_tuple (by decide +kernel) (pa_cons (pv 3) pa_nil))))))), ?_⟩, hmg, F.kp, F.binds fun _ _ _ _ _ _ us hl => match us, hl with | [_, _], _ => rfl, Wk.Fun.lk F⟩
  intro rs O Q h
  obtain ⟨st, ts, k, T, O', rfl, rfl, hts, hk0, hk1, hT, hsz, q⟩ := h
  have hTl : T.length ≤ 100 := by
    have := hT.sm.len
    omega
  have hlT : (lensT T).length = T.length := List.length_map _
  show StW K _ (Sta st ts k :: O') [.ad st, .dat (tS T), .non, .non, .non, .non, .non, .non, .non] _
  refine s_seq (s_asg (w_lcT ?_))
  repeat' walk_at "e"
  refine ⟨by rw [List.length_map]; omega, fun i acc O2 => acc = (lN (lensT (T.take i))).map (fun n => iV n) ∧ O2 = Sta st ts k :: O', ⟨rfl, rfl⟩, fun i d acc O2 hd hl hI Dl => ?_, fun acc O2 p1 hI => ?_⟩
  · obtain ⟨rfl, rfl⟩ := hI
    obtain ⟨v, hv, rfl⟩ := map_get hd
    repeat' walk_at "e"
    refine ⟨_, .refl _, ?_, rfl⟩
    rw [take_next hv, lensT, lensT, List.map_append, lN, lN, List.map_append, List.map_append, List.length_map]
    rfl
  obtain ⟨rfl, e0⟩ := hI
  rw [e0, List.length_map, List.take_length]
  clear e0
  refine s_seq (s_asg ?_)
  repeat' walk_at "e"
  rw [List.length_map]
  refine g_repO .d (by omega) (by omega) (by decide) fun p2 => ?_
  rw [Int.toNat_natCast, rep_flat2]
  refine s_cv (Cv.perm (List.perm_middle (l₁ := [_, _]))) ?_
  refine s_seq (s_for3N ?_)
  repeat' walk_at "e"
  refine g_sum (.o (List.mem_cons_of_mem _ (List.mem_cons_of_mem _ List.mem_cons_self)) (Dats.ints _)) ?_
  repeat' walk_at "e"
  rw [lN_sum]
  have hs0 : (lensT T).sum = szT T := rfl
  rw [hs0]
  refine ⟨_, _, rfl, ⟨by omega, by omega, by omega, by omega⟩, fun i O2 ds2 => ∃ (ls : List Nat) (R : List (List Int)) (k2 : Int) (x4 x5 x6 x7 x8 : SD), ls.length = T.length ∧ R.length = T.length ∧ Desc ls ∧ ls.sum = szT T - i ∧ Fill T (szT T) (szT T - i) ls R ∧ (∀ r ∈ R, r.length ≤ i) ∧ k ≤ k2 ∧ k2 ≤ k + i ∧ O2 = Sta st ts k2 :: (p2, .lst (R.map fun c => .dat (tI c))) :: (p1, .lst ((lN ls).map fun n => iV n)) :: O' ∧ ds2 = [.ad st, .dat (tS T), .ad p1, .ad p2, x4, x5, x6, x7, x8], ⟨lensT T, List.replicate T.length [], k, _, _, _, _, _, hlT, List.length_replicate, hT.desc, by rw [hs0, Nat.sub_zero], by rw [Nat.sub_zero]; exact fill_0 hT, fun r hr => by rw [(List.mem_replicate.mp hr).2]; exact Nat.le_refl _, by omega, by omega, rfl, rfl⟩, fun i O2 ds2 hi hI B hB => ?_, fun O2 ds2 hI => ?_⟩
  · obtain ⟨ls, R, k2, x4, x5, x6, x7, x8, hll, hRl, hd, hsum, hF, hRr, hk2, hk3, rfl, rfl⟩ := hI
    have hlm : ((lN ls).map fun n => iV n).length = ls.length := by rw [List.length_map, List.length_map]
    obtain ⟨m, hm⟩ : ∃ m, szT T - i = m + 1 := ⟨szT T - i - 1, by omega⟩
    rw [show (szT T : Int) - (i : Int) = ((m + 1 : Nat) : Int) by omega]
    rw [hm] at hsum hF
    refine s_seq (s_asg (w_lstO ?_))
    repeat' walk_at "e"
    refine ⟨sz_ok rfl, fun pf => ?_⟩
    refine s_seq (s_for1 ?_)
    repeat' walk_at "e"
    have m4 : ∀ {a b c d : Addr × OD} {X : Own}, d ∈ a :: b :: c :: d :: X := fun {a b c d X} => List.mem_cons_of_mem _ (List.mem_cons_of_mem _ (List.mem_cons_of_mem _ List.mem_cons_self))
    refine g_lenO m4 ?_
    repeat' walk_at "e"
    rw [hlm]
    refine ⟨by omega, by omega, fun j O2 ds2 => ∃ (fs : List Nat) (x6 : SD), (∀ f ∈ fs, f < j ∧ CorL ls f) ∧ (∀ f, f < j → CorL ls f → f ∈ fs) ∧ fs.length ≤ j ∧ O2 = (pf, .lst ((lN fs).map fun n => iV n)) :: Sta st ts k2 :: (p2, .lst (R.map fun c => .dat (tI c))) :: (p1, .lst ((lN ls).map fun n => iV n)) :: O' ∧ ds2 = [.ad st, .dat (tS T), .ad p1, .ad p2, iV ((m + 1 : Nat) : Int), .ad pf, x6, x7, x8], ⟨[], x6, fun _ h => absurd h List.not_mem_nil, fun _ h => absurd h (Nat.not_lt_zero _), Nat.le_refl _, rfl, rfl⟩, fun j O2 ds2 hj hJ B2 hB2 => ?_, fun O2 ds2 hJ => ?_⟩
    · obtain ⟨fs, x6, hf1, hf2, hf3, rfl, rfl⟩ := hJ
      have hfl : ((lN fs).map fun n => iV n).length ≤ 1000 := by rw [List.length_map, List.length_map]; omega
      have skip : ¬ CorL ls j → B2.nx ((pf, .lst ((lN fs).map fun n => iV n)) :: Sta st ts k2 :: (p2, .lst (R.map fun c => .dat (tI c))) :: (p1, .lst ((lN ls).map fun n => iV n)) :: O') [.ad st, .dat (tS T), .ad p1, .ad p2, iV ((m + 1 : Nat) : Int), .ad pf, iV (j : Int), x7, x8] := fun hno =>
        hB2.nx _ _ ⟨fs, _, fun f hf => ⟨by have := (hf1 f hf).1; omega, (hf1 f hf).2⟩, fun f hf hc => by
          by_cases e : f = j
          · subst e; exact absurd hc hno
          · exact hf2 f (by omega) hc, by omega, rfl, rfl⟩
      have take : CorL ls j → B2.nx ((pf, .lst (((lN fs).map fun n => iV n) ++ [iV (j : Int)])) :: Sta st ts k2 :: (p2, .lst (R.map fun c => .dat (tI c))) :: (p1, .lst ((lN ls).map fun n => iV n)) :: O') [.ad st, .dat (tS T), .ad p1, .ad p2, iV ((m + 1 : Nat) : Int), .ad pf, iV (j : Int), x7, x8] := fun hyes =>
        hB2.nx _ _ ⟨fs ++ [j], _, fun f hf => by
          rcases List.mem_append.mp hf with h | h
          · exact ⟨by have := (hf1 f h).1; omega, (hf1 f h).2⟩
          · rw [List.mem_singleton.mp h]
            exact ⟨by omega, hyes⟩, fun f hf hc => by
          by_cases e : f = j
          · subst e; exact List.mem_append_right _ List.mem_cons_self
          · exact List.mem_append_left _ (hf2 f (by omega) hc), by rw [List.length_append]; simp only [List.length_cons, List.length_nil]; omega, by rw [lN_snoc], rfl⟩
      refine s_if ?_
      repeat' walk_at "e"
      refine o_ixO m4 (at_nthW (by omega) (by rw [Int.toNat_natCast]; exact lN_at (by omega))) ?_
      repeat' walk_at "e"
      · rename_i h0
        refine g_lenO m4 ?_
        repeat' walk_at "e"
        · rename_i he
          rw [hlm] at he
          refine s_drop (w_bm ?_)
          repeat' walk_at "e"
          exact take ⟨by omega, .inl (by omega)⟩
        rename_i he
        rw [hlm] at he
        refine o_ixO m4 (at_nthW (by omega) (by rw [show ((j : Int) + 1).toNat = j + 1 by omega]; exact lN_at (by omega))) ?_
        repeat' walk_at "e"
        refine o_ixO m4 (at_nthW (by omega) (by rw [Int.toNat_natCast]; exact lN_at (by omega))) ?_
        repeat' walk_at "e"
        · rename_i he2
          refine s_drop (w_bm ?_)
          repeat' walk_at "e"
          exact take ⟨by omega, .inr (by omega)⟩
        · rename_i he2
          refine s_next ?_
          exact skip fun z => by
            rcases z.2 with z | z <;> omega
      · rename_i h0
        refine s_next ?_
        exact skip fun z => by have := z.1; omega
    obtain ⟨fs, x6, hf1, hf2, hf3, rfl, rfl⟩ := hJ
    rw [Int.toNat_natCast] at hf1 hf2 hf3
    obtain ⟨c0, hc1, hc2, hc3⟩ := corner_of hsum
    have hfp : 0 < fs.length := List.length_pos_iff.mpr fun z => by
      have := hf2 c0 hc1 ⟨hc2, hc3⟩
      rw [z] at this
      exact absurd this List.not_mem_nil
    refine s_frz (i := 5) rfl (.refl _) (Dats.ints _) ?_
    have hfL : ((lN fs).map PyData.int).length = fs.length := by rw [List.length_map, List.length_map]
    refine s_seq (s_asg ?_)
    repeat' walk_at "e"
    rename_i z hz0 hz1
    rw [hfL] at hz1
    obtain ⟨c, hcm, hce⟩ : ∃ c, c ∈ fs ∧ (lN fs).getD z.toNat 0 = (c : Int) := by
      refine ⟨fs[z.toNat], List.getElem_mem (by omega), ?_⟩
      rw [List.getD_eq_getElem?_getD, List.getElem?_map, List.getElem?_eq_getElem (by omega)]
      rfl
    obtain ⟨hcl, hc0, hcn⟩ := hf1 c hcm
    rw [hce]
    clear hce
    have hcn2 : ls.getD (c + 1) 0 < ls.getD c 0 := hcn.elim (fun e => by rw [getD_none 0 (by omega)]; exact hc0) id
    obtain ⟨hF2, hd2⟩ := fill_step hF hd (by omega) hRl hcl hc0 hcn2
    have hRc : (R.map fun c => SD.dat (tI c))[((c : Nat) : Int).toNat]? = some (SD.dat (tI (R.getD c []))) := by
      rw [Int.toNat_natCast, List.getElem?_map, List.getD_eq_getElem?_getD, List.getElem?_eq_getElem (by omega)]
      rfl
    have hRcl : (R.getD c []).length ≤ i := by
      rw [List.getD_eq_getElem?_getD, List.getElem?_eq_getElem (show c < R.length by omega)]
      exact hRr _ (List.getElem_mem _)
    refine s_seq (s_setL ?_)
    repeat' walk_at "e"
    refine o_ixO (List.mem_cons_of_mem _ List.mem_cons_self) (at_nthW (by omega) hRc) ?_
    repeat' walk_at "e"
    refine ⟨p2, _, _, c, Sta st ts (k2 + 1) :: (p1, .lst ((lN ls).map fun n => iV n)) :: O', Sta st ts (k2 + 1) :: (p2, .lst ((R.set c (((m + 1 : Nat) : Int) :: R.getD c [])).map fun c => .dat (tI c))) :: (p1, .lst ((lN ls).map fun n => iV n)) :: O', rfl, rfl, .swap .., ?_, ?_, ?_⟩
    · rw [List.length_map, ixN_in (by omega) (by omega), Int.toNat_natCast]
    · rw [List.map_set]
      exact .swap ..
    refine s_setL ?_
    repeat' walk_at "e"
    refine o_ixO (List.mem_cons_of_mem _ (List.mem_cons_of_mem _ List.mem_cons_self)) (at_nthW (by omega) (by rw [Int.toNat_natCast]; exact lN_at hcl)) ?_
    repeat' walk_at "e"
    have hLs : ((lN ls).map fun n => iV n).set c (iV ((ls.getD c 0 : Int) - 1)) = (lN (ls.set c (ls.getD c 0 - 1))).map fun n => iV n := by
      rw [lN, lN, List.map_set, List.map_set, show ((ls.getD c 0 - 1 : Nat) : Int) = (ls.getD c 0 : Int) - 1 by omega]
    refine ⟨p1, _, _, c, Sta st ts (k2 + 1) :: (p2, .lst ((R.set c (((m + 1 : Nat) : Int) :: R.getD c [])).map fun c => .dat (tI c))) :: O', Sta st ts (k2 + 1) :: (p2, .lst ((R.set c (((m + 1 : Nat) : Int) :: R.getD c [])).map fun c => .dat (tI c))) :: (p1, .lst ((lN (ls.set c (ls.getD c 0 - 1))).map fun n => iV n)) :: O', rfl, rfl, List.perm_middle (l₁ := [_, _]), ?_, ?_, ?_⟩
    · rw [hlm, ixN_in (by omega) (by omega), Int.toNat_natCast]
    · rw [hLs]
      exact (List.perm_middle (l₁ := [_, _])).symm
    have hs2 := sum_setL hcl hc0
    have hmi : szT T - (i + 1) = m := by omega
    refine hB.nx _ _ ⟨_, _, k2 + 1, _, _, _, _, _, by rw [List.length_set]; exact hll, by rw [List.length_set]; exact hRl, hd2, by omega, by rw [hmi]; exact hF2, fun r hr => ?_, by omega, by omega, rfl, rfl⟩
    rcases List.mem_or_eq_of_mem_set hr with h | h
    · have := hRr r h
      omega
    · rw [h, List.length_cons]
      omega
  · obtain ⟨ls, R, k2, x4, x5, x6, x7, x8, hll, hRl, hd, hsum, hF, hRr, hk2, hk3, rfl, rfl⟩ := hI
    have hz : szT T - ((szT T : Int) - 0).toNat = 0 := by omega
    rw [hz] at hsum hF
    have hok := fill_end hF (zero_of_sum hsum) hRl
    refine s_frz (i := 3) rfl (.swap ..) (tS_dats _) ?_
    refine s_cv (Cv.sub (O' := Sta st ts k2 :: O') (.cons₂ _ (.cons _ (.refl _)))) ?_
    refine s_ret ?_
    repeat' walk_at "e"
    exact q R k2 hok (by omega) (by omega)
def pre_law_refused : Pre := fun rs O Q => ∃ (T U : List (List Int)), rs = [.dat (tS T), .dat (tS U)] ∧ Sm 900 900 T ∧ Sm 900 900 U ∧ BadP T U ∧ Q (bV true) O
theorem len_law_refused (rs : List SD) (O : Own) (Q : SD → Own → Prop) (h : pre_law_refused rs O Q) : rs.length = 2 := by
  obtain ⟨T, U, rfl, _⟩ := h
  rfl
abbrev s_law_refused : Stmt := topS 24
theorem sc_law_refused : FnScope ["first", "second", "e"] ["first", "second"] (defScope s_law_refused) := ⟨rfl, rfl, rfl, by decide +kernel, rfl, by decide +kernel, by decide +kernel⟩
set_option maxHeartbeats 4000000 in
theorem ok_law_refused  {C_NoSuchRow : Addr} {C_NotAPair : Addr} {C_WalkhandsError : Addr} (D : Def K mg "_law_refused" s_law_refused) (C_word_of : CalleeX P w K mg base "word_of" ["first", "second"] 3 (pre_word_of C_NotAPair C_NoSuchRow)) (m_ValueError : mg "ValueError" = none) (m_isinstance : mg "isinstance" = none) (S_NoSuchRow : ExS K mg "NoSuchRow" C_NoSuchRow) (S_NotAPair : ExS K mg "NotAPair" C_NotAPair) (S_WalkhandsError : ExS K mg "WalkhandsError" C_WalkhandsError) (q_NotAPair_NotAPair : PySem.W.kitOne K (.ref C_NotAPair) (.ref C_NotAPair) = some true) (q_NotAPair_ValueError : PySem.W.kitOne K (.ref C_NotAPair) (.type "ValueError") = some true) (q_NotAPair_NoSuchRow : PySem.W.kitOne K (.ref C_NotAPair) (.ref C_NoSuchRow) = some false) (e_NotAPair_WalkhandsError : PySem.W.exmOne K (.ref C_NotAPair) (.ref C_WalkhandsError) = some true) : Callee P w K mg base "_law_refused" ["first", "second"] 4 pre_law_refused := by
  obtain ⟨f, fd, F, hmg⟩ := D
  obtain ⟨f_word_of, fd_word_of, G_word_of, g_word_of, kp_word_of, b_word_of, _⟩ := C_word_of
  refine ⟨f, fd, fn_ok F sc_law_refused len_law_refused fun cdv A outer s H E hr => ⟨_, (pss_cons (psTry (K := K) (i := 2) (fun W pn xe tk => (pss_one (ps_expr (by exact (pe_callS G_word_of (hr.mono (by decide)) (by rfl) g_word_of kp_word_of b_word_of (fun σ => passAt tk σ) (pa_cons (pv 0) (pa_cons (pv 1) pa_nil))))))) (fun a oe cls d pn hz hf => (pss_one (ps_ret (pe_and (pe_callB (kIsX (K := K) hz hf) (by rfl) m_isinstance (by decide +kernel) (pa_cons (pv 2) (pa_cons (pe_glob (v := .ref C_NotAPair) rfl S_NotAPair.g rfl) pa_nil))) (pe_and (pe_callB (kIsX (K := K) hz hf) (by rfl) m_isinstance (by decide +kernel) (pa_cons (pv 2) (pa_cons (pe_bltn (v := .ty "ValueError") (by rfl) m_ValueError (by decide +kernel) rfl) pa_nil))) (pe_one (pe_not (pe_callB (kIsX (K := K) hz hf) (by rfl) m_isinstance (by decide +kernel) (pa_cons (pv 2) (pa_cons (pe_glob (v := .ref C_NoSuchRow) rfl S_NoSuchRow.g rfl) pa_nil)))))))))) rfl rfl sc_law_refused.nd rfl rfl (S_WalkhandsError.names rfl rfl (by decide)) takes0)
      (pss_one (ps_ret pe_bl))), ?_⟩, hmg, F.kp, F.binds fun _ _ _ _ _ _ us hl => match us, hl with | [_, _], _ => rfl, Wk.Fun.lk F⟩
  intro rs O Q h
  obtain ⟨T, U, rfl, hT, hU, hb, q⟩ := h
  show StW K _ O [.dat (tS T), .dat (tS U), .non] _
  refine s_seq (s_try (fun C fs O2 ds2 => O2 = O ∧ ds2 = [.dat (tS T), .dat (tS U), .non] ∧ C = C_NotAPair ∧ fs = none) (fun W => ?_) ?_)
  · refine s_seq (sx_drop (fun _ hx => hx) (x_call ?_))
    repeat' walk_at "e"
    exact ⟨T, U, rfl, hT, hU, fun _ => ⟨rfl, rfl, rfl, rfl⟩, fun z => absurd hb z⟩
  · rintro C fs O2 ds2 ⟨rfl, rfl, rfl, rfl⟩
    refine ⟨e_NotAPair_WalkhandsError, fun a cls d B nx rt bk ct => ?_⟩
    show StW K _ O2 [.dat (tS T), .dat (tS U), .exc a cls d C none] _
    repeat' walk_at "w"
    exact rt _ _ q
def pre_law_tableau : Pre := fun rs O Q => ∃ T : List (List Int), rs = [.dat (tS T)] ∧ Sm 90000 90000 T ∧ ∀ b : Bool, (b = true ↔ TabOk T) → Q (bV b) O
theorem len_law_tableau (rs : List SD) (O : Own) (Q : SD → Own → Prop) (h : pre_law_tableau rs O Q) : rs.length = 1 := by
  obtain ⟨T, rfl, _⟩ := h
  rfl
local macro_rules | `(tactic| walk_at "e") => `(tactic| ((with_reducible show pre_law_tableau _ _ _); refine ⟨_, rfl, by assumption, ?_⟩; intro _ _))
abbrev s_law_tableau : Stmt := topS 22
theorem sc_law_tableau : FnScope ["rows", "count", "k", "row", "j"] ["rows"] (defScope s_law_tableau) := ⟨rfl, rfl, rfl, by decide +kernel, rfl, by decide +kernel, by decide +kernel⟩
set_option maxHeartbeats 4000000 in
theorem ok_law_tableau  (D : Def K mg "_law_tableau" s_law_tableau) (m_len : mg "len" = none) (m_range : mg "range" = none) : Callee P w K mg base "_law_tableau" ["rows"] 1 pre_law_tableau := by
  obtain ⟨f, fd, F, hmg⟩ := D
  refine ⟨f, fd, fn_ok F sc_law_tableau len_law_tableau fun cdv A outer s H E hr => ⟨_, (pss_cons (ps_set (i := 1) sc_law_tableau.nd rfl (.inl rfl) pe_int)
      (pss_cons (ps_for PassesOwn.never rfl (pi_range1 (by rfl) m_range (pa_cons (pe_callB (kLen K) (by rfl) m_len PySem.boot_len (pa_cons (pv 0) pa_nil)) pa_nil)) (pg_name (i := 2) sc_law_tableau.nd rfl (.inl rfl)) (pss_cons (ps_set (i := 3) sc_law_tableau.nd rfl (.inl rfl) (pe_ix (ixT K) (pv 0) (pv 2) (fun _ _ => rfl)))
      (pss_cons (ps_set (i := 1) sc_law_tableau.nd rfl (.inl rfl) (pe_op op_add (pv 1) (pe_callB (kLen K) (by rfl) m_len PySem.boot_len (pa_cons (pv 3) pa_nil))))
      (pss_cons (ps_if (PW.pt (pw_or (pt_cmpR op_eq (pe_callB (kLen K) (by rfl) m_len PySem.boot_len (pa_cons (pv 3) pa_nil)) pe_int (nomark _)) (pw_or1 (PW.pt (pw_and (pt_cmpR op_gt (pv 2) pe_int (nomark _)) (pw_and1 (pt_cmpR op_gt (pe_callB (kLen K) (by rfl) m_len PySem.boot_len (pa_cons (pv 3) pa_nil)) (pe_callB (kLen K) (by rfl) m_len PySem.boot_len (pa_cons (pe_ix (ixT K) (pv 0) (pe_op op_sub (pv 2) pe_int) (fun _ _ => rfl)) pa_nil)) (nomark _)))))))) (pss_one (ps_ret pe_bl)) pss_nil)
      (pss_one (ps_for PassesOwn.never rfl (pi_range1 (by rfl) m_range (pa_cons (pe_callB (kLen K) (by rfl) m_len PySem.boot_len (pa_cons (pv 3) pa_nil)) pa_nil)) (pg_name (i := 4) sc_law_tableau.nd rfl (.inl rfl)) (pss_cons (ps_if (PW.pt (pw_or (pt_cmpR op_lt (pe_ix (ixT K) (pv 3) (pv 4) (fun _ _ => rfl)) pe_int (nomark _)) (pw_or (pt_cmpR op_gt (pe_ix (ixT K) (pv 3) (pv 4) (fun _ _ => rfl)) pe_int (nomark _)) (pw_or1 (PW.pt (pw_and (pt_cmpR op_gt (pv 4) pe_int (nomark _)) (pw_and1 (pt_cmpR op_lt (pe_ix (ixT K) (pv 3) (pv 4) (fun _ _ => rfl)) (pe_ix (ixT K) (pv 3) (pe_op op_sub (pv 4) pe_int) (fun _ _ => rfl)) (nomark _))))))))) (pss_one (ps_ret pe_bl)) pss_nil)
      (pss_one (ps_if (PW.pt (pw_and (pt_cmpR op_gt (pv 2) pe_int (nomark _)) (pw_and1 (pt_cmpR op_le (pe_ix (ixT K) (pv 3) (pv 4) (fun _ _ => rfl)) (pe_ix (ixT K) (pe_ix (ixT K) (pv 0) (pe_op op_sub (pv 2) pe_int) (fun _ _ => rfl)) (pv 4) (fun _ _ => rfl)) (nomark _))))) (pss_one (ps_ret pe_bl)) pss_nil)))))))))
      (pss_one (ps_ret (pe_cmpR op_le (pv 1) pe_int (nomark _)))))), ?_⟩, hmg, F.kp, F.binds fun _ _ _ _ _ _ us hl => match us, hl with | [_], _ => rfl, Wk.Fun.lk F⟩
  intro rs O Q h
  obtain ⟨T, rfl, hT, q⟩ := h
  have hT1 := hT.len
  show StW K _ O [.dat (tS T), .non, .non, .non, .non] _
  walk_at "w"
  repeat' walk_at "w"
  refine s_for1 ?_
  repeat' walk_at "e"
  simp only [List.length_map]
  refine ⟨by omega, by omega, fun i O2 ds2 => ∃ (a b c : SD), (∀ j, j < i → RowGood T j) ∧ O2 = O ∧ ds2 = [.dat (tS T), iV (szT (T.take i) : Nat), a, b, c], ⟨_, _, _, fun _ h => absurd h (Nat.not_lt_zero _), rfl, rfl⟩, fun i O2 ds2 hi hI B hB => ?_, fun O2 ds2 hI => ?_⟩
  · obtain ⟨a, b, c, h1, rfl, rfl⟩ := hI
    have hi2 : i < T.length := by omega
    have hv : T[i]? = some (T.getD i []) := by rw [List.getD_eq_getElem?_getD, List.getElem?_eq_getElem hi2]; rfl
    have hvl := hT.get i
    have hsz := szT_take hv
    have hbad : ¬ RowGood T i → B.rt (bV false) O2 := fun hb => by
      refine hB.rt _ _ (q false ⟨fun z => (nomatch z), fun z => ?_⟩)
      exact (hb (((tabOk_iff T).mp z).1 i hi2)).elim
    have hpl := hT.get (i - 1)
    have eq1 : ((i : Int) - 1).toNat = i - 1 := by omega
    refine s_seq (s_asg ?_)
    repeat' walk_at "e"
    rw [Int.toNat_natCast]
    generalize ev : T.getD i [] = v at *
    generalize ep : T.getD (i - 1) [] = u at *
    refine s_seq (s_asg ?_)
    repeat' walk_at "e"
    rw [show (szT (T.take i) : Int) + ((v.map PyData.int).length : Nat) = ((szT (T.take (i + 1)) : Nat) : Int) by rw [hsz, List.length_map]; omega]
    refine s_cut (fun O1 ds1 => O1 = O2 ∧ 0 < v.length ∧ (0 < i → v.length ≤ u.length) ∧ ds1 = [.dat (tS T), iV (szT (T.take (i + 1)) : Nat), iV (i : Int), .dat (tI v), c]) ?_ ?_
    · repeat' walk_at "w"
      · rename_i hd
        rw [List.length_map] at hd
        exact hbad fun z => by
          unfold RowGood at z
          rw [ev] at z
          exact z.1.1 (List.length_eq_zero_iff.mp (by omega))
      · rename_i hd hp hx
        rw [eq1, ep] at hx
        simp only [List.length_map] at hx
        exact hbad fun z => by
          unfold RowGood at z
          rw [ev, ep] at z
          have := (z.2 (by omega)).1
          omega
      · rename_i hd hp hx
        rw [eq1, ep] at hx
        simp only [List.length_map] at hx hd
        exact ⟨by omega, fun _ => by omega, rfl⟩
      · rename_i hd hp
        simp only [List.length_map] at hd
        exact ⟨by omega, fun z => by omega, rfl⟩
    · rintro O5 ds5 ⟨e5, hv0, huv, rfl⟩
      replace e5 := e5.symm
      subst e5
      refine s_for1 ?_
      repeat' walk_at "e"
      simp only [List.length_map]
      refine ⟨by omega, by omega, fun j O3 ds3 => ∃ (c : SD), RowTo v j ∧ (0 < i → ∀ m, m < j → u.getD m 0 < v.getD m 0) ∧ O3 = O2 ∧ ds3 = [.dat (tS T), iV (szT (T.take (i + 1)) : Nat), iV (i : Int), .dat (tI v), c], ⟨_, fun _ h => absurd h (Nat.not_lt_zero _), fun _ _ h => absurd h (Nat.not_lt_zero _), rfl, rfl⟩, fun j O3 ds3 hj hI C hC => ?_, fun O3 ds3 hI => ?_⟩
      · obtain ⟨c, g1, g2, e6, rfl⟩ := hI
        replace e6 := e6.symm
        subst e6
        have hj2 : j < v.length := by omega
        have e2 : ((j : Int) - 1).toNat = j - 1 := by omega
        have hbad2 : ¬ (((1 ≤ v.getD j 0 ∧ v.getD j 0 ≤ 60) ∧ (0 < j → v.getD (j - 1) 0 ≤ v.getD j 0)) ∧ (0 < i → u.getD j 0 < v.getD j 0)) → C.rt (bV false) O2 := fun hb => by
          refine hC.rt _ _ (hbad fun z => hb ?_)
          unfold RowGood at z
          rw [ev, ep] at z
          exact ⟨RowTo.of z.1.2.1 z.1.2.2 j hj2, fun hp => (z.2 hp).2 j hj2⟩
        refine s_cut (fun O1 ds1 => O1 = O2 ∧ ((1 ≤ v.getD j 0 ∧ v.getD j 0 ≤ 60) ∧ (0 < j → v.getD (j - 1) 0 ≤ v.getD j 0)) ∧ ds1 = [.dat (tS T), iV (szT (T.take (i + 1)) : Nat), iV (i : Int), .dat (tI v), iV (j : Int)]) ?_ ?_
        · repeat' walk_at "w"
          all_goals simp only [Int.toNat_natCast, e2] at *
          · exact hbad2 fun z => by omega
          · exact hbad2 fun z => by omega
          · rename_i hp hx
            exact hbad2 fun z => by
              have := z.1.2 (by omega)
              omega
          · exact ⟨⟨by omega, fun _ => by omega⟩, rfl⟩
          · exact ⟨⟨by omega, fun _ => by omega⟩, rfl⟩
        · rintro O7 ds7 ⟨e7, g3, rfl⟩
          replace e7 := e7.symm
          subst e7
          have hnext : (0 < i → u.getD j 0 < v.getD j 0) → C.nx O2 [.dat (tS T), iV (szT (T.take (i + 1)) : Nat), iV (i : Int), .dat (tI v), iV (j : Int)] := fun hq => by
            refine hC.nx _ _ ⟨_, fun m hm => ?_, fun hp m hm => ?_, rfl, rfl⟩
            · rcases Nat.lt_or_ge m j with z | z
              · exact g1 m z
              · have e : m = j := by omega
                subst e
                exact g3
            · rcases Nat.lt_or_ge m j with z | z
              · exact g2 hp m z
              · have e : m = j := by omega
                subst e
                exact hq hp
          have hlu : 0 < i → j < (T.getD ((i : Int) - 1).toNat []).length := fun hp => by
            rw [eq1, ep]
            have := huv hp
            omega
          repeat' walk_at "w"
          · rename_i hp hx
            rw [eq1, ep, Int.toNat_natCast] at hx
            exact hbad2 fun z => by
              have := z.2 (by omega)
              omega
          · rename_i hp hx
            rw [eq1, ep, Int.toNat_natCast] at hx
            exact hnext fun _ => by omega
          · rename_i hp
            exact hnext fun z => by omega
      · obtain ⟨c, g1, g2, rfl, rfl⟩ := hI
        rw [show ((v.length : Int)).toNat = v.length by omega] at g1 g2
        refine hB.nx _ _ ⟨_, _, _, fun m hm => ?_, rfl, rfl⟩
        rcases Nat.lt_or_ge m i with z | z
        · exact h1 m z
        · have e : m = i := by omega
          subst e
          unfold RowGood
          rw [ev, ep]
          have ga := g1.all
          refine ⟨⟨fun z => ?_, ga.1, ga.2⟩, fun hp => ⟨huv hp, g2 hp⟩⟩
          rw [z] at hv0
          exact Nat.lt_irrefl _ hv0
  · obtain ⟨a, b, c, h1, rfl, rfl⟩ := hI
    rw [show ((T.length : Int)).toNat = T.length by omega] at h1 ⊢
    rw [List.take_length]
    repeat' walk_at "w"
    refine q _ ?_
    rw [tabOk_iff]
    constructor
    · intro h
      exact ⟨h1, by have := of_decide_eq_true h; omega⟩
    · intro h
      exact decide_eq_true (by have := h.2; omega)
def pre_law_renumbered : Pre := fun rs O Q => ∃ (st : Addr) (ts : List Int) (k : Int) (n : Nat) (T U : List (List Int)) (O' : Own), rs = [.ad st, .dat (tS T), .dat (tS U)] ∧ O = Sta st ts k :: O' ∧ TapeOk ts ∧ 0 ≤ k ∧ k < 900000 ∧ Sm 100 100 T ∧ Sm 100 100 U ∧ PairOk n T U ∧ n ≤ 100 ∧ ∀ k2 : Int, k ≤ k2 → k2 ≤ k + 10 → Q (bV true) (Sta st ts k2 :: O')
theorem len_law_renumbered (rs : List SD) (O : Own) (Q : SD → Own → Prop) (h : pre_law_renumbered rs O Q) : rs.length = 3 := by
  obtain ⟨st, ts, k, n, T, U, O', rfl, _⟩ := h
  rfl
abbrev s_law_renumbered : Stmt := topS 26
theorem sc_law_renumbered : FnScope ["state", "first", "second", "row", "size", "less", "rows", "number"] ["state", "first", "second"] (defScope s_law_renumbered) := ⟨rfl, rfl, rfl, by decide +kernel, rfl, by decide +kernel, by decide +kernel⟩
set_option maxHeartbeats 4000000 in
theorem ok_law_renumbered  (D : Def K mg "_law_renumbered" s_law_renumbered) (C_law_take : Callee P w K mg base "_law_take" ["state", "many"] 2 pre_law_take) (C_law_refused : Callee P w K mg base "_law_refused" ["first", "second"] 4 pre_law_refused) (C_law_tableau : Callee P w K mg base "_law_tableau" ["rows"] 1 pre_law_tableau) (m_int : mg "int" = none) (m_len : mg "len" = none) (m_sum : mg "sum" = none) (m_tuple : mg "tuple" = none) : Callee P w K mg base "_law_renumbered" ["state", "first", "second"] 5 pre_law_renumbered := by
  obtain ⟨f, fd, F, hmg⟩ := D
  obtain ⟨f_law_take, fd_law_take, G_law_take, g_law_take, kp_law_take, b_law_take, _⟩ := C_law_take
  obtain ⟨f_law_refused, fd_law_refused, G_law_refused, g_law_refused, kp_law_refused, b_law_refused, _⟩ := C_law_refused
  obtain ⟨f_law_tableau, fd_law_tableau, G_law_tableau, g_law_tableau, kp_law_tableau, b_law_tableau, _⟩ := C_law_tableau
  refine ⟨f, fd, fn_ok F sc_law_renumbered len_law_renumbered fun cdv A outer s H E hr => ⟨_, (pss_cons (ps_set (i := 4) sc_law_renumbered.nd rfl (.inr rfl) (pe_callB (kSum K rfl) (by rfl) m_sum (by decide +kernel) (pa_cons (pe_lc (own := [("row", 3)]) (g := gName 3) rfl sc_law_renumbered.nd (piT K (pv 2)) (blkOk_by (own := [("row", 3)]) (N := ["state", "first", "second", "row", "size", "less", "rows", "number"]) (by first | (show blkC _ (defScope s_law_renumbered) _ _ = true; decide +kernel) | kernel_rfl | rfl)) (fun _ _ _ _ _ => pg_name (i := 3) sc_law_renumbered.nd rfl (by first | exact Or.inl rfl | exact Or.inr rfl)) (fun _ _ _ _ _ => pts_nil) (fun _ _ _ _ _ => (pe_callB (kLen K) (by rfl) m_len PySem.boot_len (pa_cons (pv 3) pa_nil)))) pa_nil)))
      (pss_cons (ps_if (pt_cmpR op_lt (pv 4) pe_int (nomark _)) (pss_one (ps_ret pe_bl)) pss_nil)
      (pss_cons (ps_set (i := 5) sc_law_renumbered.nd rfl (.inr rfl) (pe_op op_add pe_int (pe_call G_law_take (hr.mono (by decide)) (by rfl) g_law_take kp_law_take b_law_take .nil pass0 (pa_cons (pv 0) (pa_cons (pe_op op_sub (pv 4) pe_int) pa_nil)))))
      (pss_cons (ps_set (i := 6) sc_law_renumbered.nd rfl (.inl rfl) (pe_lst pa_nil))
      (pss_cons (ps_for PassesOwn.never rfl (piT K (pv 2)) (pg_name (i := 3) sc_law_renumbered.nd rfl (.inl rfl)) (pss_one (psApp K (ps_expr (pe_bm PySem.F.plainAttrs_list PySem.F.slot_list_append PySem.F.type_list_append mt_append (pv 6) (pa_cons (pe_callTy (kTupOf K) (by rfl) m_tuple (by decide +kernel) (pa_cons (pe_lc (own := [("number", 7)]) (g := gName 7) rfl sc_law_renumbered.nd (piT K (pv 3)) (blkOk_by (own := [("number", 7)]) (N := ["state", "first", "second", "row", "size", "less", "rows", "number"]) (by first | (show blkC _ (defScope s_law_renumbered) _ _ = true; decide +kernel) | kernel_rfl | rfl)) (fun _ _ _ _ _ => pg_name (i := 7) sc_law_renumbered.nd rfl (by first | exact Or.inl rfl | exact Or.inr rfl)) (fun _ _ _ _ _ => pts_nil) (fun _ _ _ _ _ => (pe_op op_sub (pe_op op_add (pv 7) (pe_callTy kInt1 (by rfl) m_int (by decide +kernel) (pa_cons (pe_cmpR op_eq (pv 7) (pv 4) (nomark _)) pa_nil))) (pe_callTy kInt1 (by rfl) m_int (by decide +kernel) (pa_cons (pe_cmpR op_eq (pv 7) (pv 5) (nomark _)) pa_nil))))) pa_nil)) pa_nil))))))
      (pss_cons (ps_if (PW.pt (pw_or (pt_cmpR op_eq (pv 5) (pv 4) (nomark _)) (pw_or1 (pt_not (pt_val (pe_call G_law_tableau (hr.mono (by decide)) (by rfl) g_law_tableau kp_law_tableau b_law_tableau .nil pass0 (pa_cons (pe_callTy (kTupOf K) (by rfl) m_tuple (by decide +kernel) (pa_cons (pv 6) pa_nil)) pa_nil))))))) (pss_one (ps_ret pe_bl)) pss_nil)
      (pss_one (ps_ret (pe_call G_law_refused (hr.mono (by decide)) (by rfl) g_law_refused kp_law_refused b_law_refused .nil pass0 (pa_cons (pv 1) (pa_cons (pe_callTy (kTupOf K) (by rfl) m_tuple (by decide +kernel) (pa_cons (pv 6) pa_nil)) pa_nil))))))))))), ?_⟩, hmg, F.kp, F.binds fun _ _ _ _ _ _ us hl => match us, hl with | [_, _, _], _ => rfl, Wk.Fun.lk F⟩
  intro rs O Q h
  obtain ⟨st, ts, k, n, T, U, O', rfl, rfl, hts, hk0, hk1, hT, hU, hok, hn, q⟩ := h
  have hUl := hU.len
  have hUm : (U.map fun c => tI c).length = U.length := List.length_map _
  show StW K _ (Sta st ts k :: O') [.ad st, .dat (tS T), .dat (tS U), .non, .non, .non, .non, .non] _
  refine s_seq (s_asg (w_cb (w_cons (w_frz (w_lcT ?_)))))
  repeat' walk_at "e"
  refine ⟨by rw [List.length_map]; omega, fun i acc O2 => acc = ((U.take i).map fun r => (r.length : Int)).map (fun n => iV n) ∧ O2 = Sta st ts k :: O', ⟨rfl, rfl⟩, fun i d acc O2 hd hl hI Dl => ?_, fun acc O2 Dl hI => ?_⟩
  · obtain ⟨rfl, rfl⟩ := hI
    obtain ⟨v, hv, rfl⟩ := map_get hd
    repeat' walk_at "e"
    refine ⟨_, .refl _, ?_, rfl⟩
    rw [take_next hv, List.map_append, List.map_append, List.length_map]
    rfl
  obtain ⟨rfl, e0⟩ := hI
  rw [e0]
  clear e0
  refine ⟨Dl, _, _, _, rfl, .refl _, Dats.ints _, ?_⟩
  rw [List.length_map, List.take_length]
  repeat' walk_at "e"
  rw [lens_sum, hok.szq]
  refine s_seq (s_if ?_)
  repeat' walk_at "e"
  · refine s_ret ?_
    repeat' walk_at "e"
    exact q k (by omega) (by omega)
  rename_i h2
  refine s_next ?_
  refine s_seq (s_asg ?_)
  repeat' walk_at "e"
  rename_i z hz0 hz1
  generalize hu : 2 + z = u at *
  refine s_seq (s_asg (w_lstO ?_))
  repeat' walk_at "e"
  refine ⟨sz_ok rfl, fun pr => ?_⟩
  refine s_seq (s_forT ?_)
  repeat' walk_at "e"
  refine ⟨fun i O2 ds2 => ∃ (x3 x7 : SD), O2 = (pr, .lst (((U.take i).map fun r => r.map (renF n u)).map fun c => .dat (tI c))) :: Sta st ts (k + 1) :: O' ∧ ds2 = [.ad st, .dat (tS T), .dat (tS U), x3, iV (n : Int), iV u, .ad pr, x7], ⟨_, _, rfl, rfl⟩, fun i d O2 ds2 hd hI B hB => ?_, fun O2 ds2 hI => ?_⟩
  · obtain ⟨x3, x7, rfl, rfl⟩ := hI
    obtain ⟨v, hv, rfl⟩ := map_get hd
    have hvl := hU.row v (List.mem_of_getElem? hv)
    refine s_drop (w_bm ?_)
    repeat' walk_at "e"
    refine w_frz (w_lcT ?_)
    repeat' walk_at "e"
    refine ⟨by rw [List.length_map]; omega, fun j acc O2 => acc = ((v.take j).map (renF n u)).map (fun n => iV n) ∧ O2 = (pr, .lst (((U.take i).map fun r => r.map (renF n u)).map fun c => .dat (tI c))) :: Sta st ts (k + 1) :: O', ⟨rfl, rfl⟩, fun j d acc O2 hd2 hl hJ Dl => ?_, fun acc O2 Dl hJ => ?_⟩
    · obtain ⟨rfl, rfl⟩ := hJ
      obtain ⟨x, hx, rfl⟩ := map_get hd2
      refine t_yes ⟨fun _ => ?_, fun z => nomatch z⟩
      repeat' walk_at "e"
      refine ⟨_, .refl _, ?_, rfl⟩
      rw [take_next hx, List.map_append, List.map_append]
      congr 1
      show [iV _] = [iV (renF n u x)]
      unfold renF
      simp only [decide_eq_true_eq]
    · obtain ⟨rfl, rfl⟩ := hJ
      refine ⟨Dl, _, _, _, rfl, .refl _, Dats.ints _, ?_⟩
      rw [List.length_map, List.take_length]
      have hrl : (((U.take i).map fun r => r.map (renF n u)).map fun c => SD.dat (tI c)).length ≤ 1000 := by rw [List.length_map, List.length_map, List.length_take]; omega
      repeat' walk_at "e"
      refine hB.nx _ _ ⟨_, _, ?_, rfl⟩
      rw [take_next hv, List.map_append, List.map_append]
      rfl
  obtain ⟨x3, x7, rfl, rfl⟩ := hI
  rw [hUm, List.take_length]
  refine s_frz (i := 6) rfl (.refl _) (tS_dats _) ?_
  have hSm : Sm 100 100 (U.map fun r => r.map (renF n u)) := ⟨by rw [List.length_map]; exact hUl, fun r hr => by
    obtain ⟨q, hq, rfl⟩ := List.mem_map.mp hr
    rw [List.length_map]
    exact hU.row q hq⟩
  have hSm9 : Sm 90000 90000 (U.map fun r => r.map (renF n u)) := hSm.up (by decide) (by decide)
  refine s_seq (s_if ?_)
  repeat' walk_at "e"
  · refine s_ret ?_
    repeat' walk_at "e"
    exact q (k + 1) (by omega) (by omega)
  · refine s_ret ?_
    repeat' walk_at "e"
    exact q (k + 1) (by omega) (by omega)
  rename_i hne bb hbb hd
  refine s_next ?_
  refine s_ret ?_
  repeat' walk_at "e"
  exact ⟨T, _, rfl, hT.up (by decide) (by decide), hSm.up (by decide) (by decide), bad_ren hok (by omega) hne, q (k + 1) (by omega) (by omega)⟩
def pre_law_shorter : Pre := fun rs O Q => ∃ (st : Addr) (ts : List Int) (k : Int) (T U : List (List Int)) (O' : Own), rs = [.ad st, .dat (tS T), .dat (tS U)] ∧ O = Sta st ts k :: O' ∧ TapeOk ts ∧ 0 ≤ k ∧ k < 900000 ∧ Sm 100 100 T ∧ Sm 100 100 U ∧ lensT U = lensT T ∧ 1 ≤ T.length ∧ ∀ k2 : Int, k ≤ k2 → k2 ≤ k + 10 → Q (bV true) (Sta st ts k2 :: O')
theorem len_law_shorter (rs : List SD) (O : Own) (Q : SD → Own → Prop) (h : pre_law_shorter rs O Q) : rs.length = 3 := by
  obtain ⟨st, ts, k, T, U, O', rfl, _⟩ := h
  rfl
theorem cut_one {T : List (List Int)} {a : Nat} (r : List Int) (ha : a < T.length) : (T.take a ++ [r] ++ T.drop (a + 1)).getD a [] = r := by
  have hl : (T.take a).length = a := by rw [List.length_take]; omega
  rw [List.append_assoc, List.getD_eq_getElem?_getD, List.getElem?_append_right (by omega), hl, Nat.sub_self]
  rfl
abbrev s_law_shorter : Stmt := topS 25
theorem sc_law_shorter : FnScope ["state", "first", "second", "fits", "k", "at"] ["state", "first", "second"] (defScope s_law_shorter) := ⟨rfl, rfl, rfl, by decide +kernel, rfl, by decide +kernel, by decide +kernel⟩
set_option maxHeartbeats 4000000 in
theorem ok_law_shorter  (D : Def K mg "_law_shorter" s_law_shorter) (C_law_take : Callee P w K mg base "_law_take" ["state", "many"] 2 pre_law_take) (C_law_refused : Callee P w K mg base "_law_refused" ["first", "second"] 4 pre_law_refused) (m_len : mg "len" = none) (m_range : mg "range" = none) : Callee P w K mg base "_law_shorter" ["state", "first", "second"] 5 pre_law_shorter := by
  obtain ⟨f, fd, F, hmg⟩ := D
  obtain ⟨f_law_take, fd_law_take, G_law_take, g_law_take, kp_law_take, b_law_take, _⟩ := C_law_take
  obtain ⟨f_law_refused, fd_law_refused, G_law_refused, g_law_refused, kp_law_refused, b_law_refused, _⟩ := C_law_refused
  refine ⟨f, fd, fn_ok F sc_law_shorter len_law_shorter fun cdv A outer s H E hr => ⟨_, (pss_cons (ps_set (i := 3) sc_law_shorter.nd rfl (.inl rfl) (pe_lst pa_nil))
      (pss_cons (ps_for PassesOwn.never rfl (pi_range2 (by rfl) m_range (pa_cons pe_int (pa_cons (pe_callB (kLen K) (by rfl) m_len PySem.boot_len (pa_cons (pv 1) pa_nil)) pa_nil))) (pg_name (i := 4) sc_law_shorter.nd rfl (.inl rfl)) (pss_one (ps_if (PW.pt (pw_and (pt_cmpR op_gt (pe_callB (kLen K) (by rfl) m_len PySem.boot_len (pa_cons (pe_ix (ixT K) (pv 1) (pv 4) (fun _ _ => rfl)) pa_nil)) pe_int (nomark _)) (pw_and1 (PW.pt (pw_or (pt_cmpR op_eq (pe_op op_add (pv 4) pe_int) (pe_callB (kLen K) (by rfl) m_len PySem.boot_len (pa_cons (pv 1) pa_nil)) (nomark _)) (pw_or1 (pt_cmpR op_lt (pe_callB (kLen K) (by rfl) m_len PySem.boot_len (pa_cons (pe_ix (ixT K) (pv 1) (pe_op op_add (pv 4) pe_int) (fun _ _ => rfl)) pa_nil)) (pe_callB (kLen K) (by rfl) m_len PySem.boot_len (pa_cons (pe_ix (ixT K) (pv 1) (pv 4) (fun _ _ => rfl)) pa_nil)) (nomark _)))))))) (pss_one (psApp K (ps_expr (pe_bm PySem.F.plainAttrs_list PySem.F.slot_list_append PySem.F.type_list_append mt_append (pv 3) (pa_cons (pv 4) pa_nil))))) pss_nil)))
      (pss_cons (ps_if (pt_cmpR op_eq (pe_callB (kLen K) (by rfl) m_len PySem.boot_len (pa_cons (pv 3) pa_nil)) pe_int (nomark _)) (pss_one (ps_ret pe_bl)) pss_nil)
      (pss_cons (ps_set (i := 5) sc_law_shorter.nd rfl (.inl rfl) (pe_ix (ixL K) (pv 3) (pe_call G_law_take (hr.mono (by decide)) (by rfl) g_law_take kp_law_take b_law_take .nil pass0 (pa_cons (pv 0) (pa_cons (pe_callB (kLen K) (by rfl) m_len PySem.boot_len (pa_cons (pv 3) pa_nil)) pa_nil))) (fun _ _ => rfl)))
      (pss_one (ps_ret (pe_call G_law_refused (hr.mono (by decide)) (by rfl) g_law_refused kp_law_refused b_law_refused .nil pass0 (pa_cons (pe_op (kCatT K) (pe_op (kCatT K) (pe_slice (slT K) (pv 1) po_none (po_some (pv 5))) (pe_tup (pa_cons (pe_slice (slT K) (pe_ix (ixT K) (pv 1) (pv 5) (fun _ _ => rfl)) po_none (po_some (pe_un un_neg pe_int))) pa_nil))) (pe_slice (slT K) (pv 1) (po_some (pe_op op_add (pv 5) pe_int)) po_none)) (pa_cons (pv 2) pa_nil))))))))), ?_⟩, hmg, F.kp, F.binds fun _ _ _ _ _ _ us hl => match us, hl with | [_, _, _], _ => rfl, Wk.Fun.lk F⟩
  intro rs O Q h
  obtain ⟨st, ts, k, T, U, O', rfl, rfl, hts, hk0, hk1, hT, hU, hl, hT1, q⟩ := h
  have hTl := hT.len
  have hTm : (T.map fun c => tI c).length = T.length := List.length_map _
  show StW K _ (Sta st ts k :: O') [.ad st, .dat (tS T), .dat (tS U), .non, .non, .non] _
  refine s_seq (s_asg (w_lstO ?_))
  repeat' walk_at "e"
  refine ⟨sz_ok rfl, fun pf => ?_⟩
  refine s_seq (s_for2 ?_)
  repeat' walk_at "e"
  rw [hTm]
  refine ⟨1, _, rfl, by omega, fun j O2 ds2 => ∃ (fs : List Nat) (x4 : SD), (∀ f ∈ fs, f < T.length ∧ 1 < (T.getD f []).length) ∧ fs.length ≤ j ∧ O2 = (pf, .lst ((lN fs).map fun n => iV n)) :: Sta st ts k :: O' ∧ ds2 = [.ad st, .dat (tS T), .dat (tS U), .ad pf, x4, .non], ⟨[], .non, fun _ h => absurd h List.not_mem_nil, Nat.le_refl _, rfl, rfl⟩, fun j O2 ds2 hj hJ B2 hB2 => ?_, fun O2 ds2 hJ => ?_⟩
  · obtain ⟨fs, x4, hf1, hf3, rfl, rfl⟩ := hJ
    have hfl : ((lN fs).map fun n => iV n).length ≤ 1000 := by rw [List.length_map, List.length_map]; omega
    have ev : (1 : Int) + (j : Int) = ((j + 1 : Nat) : Int) := by omega
    rw [ev]
    have skip : B2.nx ((pf, .lst ((lN fs).map fun n => iV n)) :: Sta st ts k :: O') [.ad st, .dat (tS T), .dat (tS U), .ad pf, iV ((j + 1 : Nat) : Int), .non] := hB2.nx _ _ ⟨fs, _, hf1, by omega, rfl, rfl⟩
    have take : 1 < (T.getD (j + 1) []).length → B2.nx ((pf, .lst (((lN fs).map fun n => iV n) ++ [iV ((j + 1 : Nat) : Int)])) :: Sta st ts k :: O') [.ad st, .dat (tS T), .dat (tS U), .ad pf, iV ((j + 1 : Nat) : Int), .non] := fun hy =>
      hB2.nx _ _ ⟨fs ++ [j + 1], _, fun f hf => by
        rcases List.mem_append.mp hf with h | h
        · exact hf1 f h
        · rw [List.mem_singleton.mp h]
          exact ⟨by omega, hy⟩, by rw [List.length_append]; simp only [List.length_cons, List.length_nil]; omega, by rw [lN_snoc], rfl⟩
    refine s_if ?_
    repeat' walk_at "e"
    · rename_i h1 h2
      rw [List.length_map, Int.toNat_natCast] at h1
      refine s_drop (w_bm ?_)
      repeat' walk_at "e"
      exact take (by omega)
    · rename_i h1 h2 h3
      rw [List.length_map, Int.toNat_natCast] at h1
      refine s_drop (w_bm ?_)
      repeat' walk_at "e"
      exact take (by omega)
    · refine s_next ?_
      exact skip
    · refine s_next ?_
      exact skip
  obtain ⟨fs, x4, hf1, hf3, rfl, rfl⟩ := hJ
  refine s_frz (i := 3) rfl (.refl _) (Dats.ints _) ?_
  have hfL : ((lN fs).map PyData.int).length = fs.length := by rw [List.length_map, List.length_map]
  refine s_seq (s_if ?_)
  repeat' walk_at "e"
  · refine s_ret ?_
    repeat' walk_at "e"
    exact q k (by omega) (by omega)
  rename_i hne
  rw [hfL] at hne
  refine s_next ?_
  refine s_seq (s_asg ?_)
  repeat' walk_at "e"
  rename_i z hz0 hz1
  rw [hfL] at hz1
  obtain ⟨c, hcm, hce⟩ : ∃ c, c ∈ fs ∧ (lN fs).getD z.toNat 0 = (c : Int) := by
    refine ⟨fs[z.toNat], List.getElem_mem (by omega), ?_⟩
    rw [List.getD_eq_getElem?_getD, List.getElem?_map, List.getElem?_eq_getElem (by omega)]
    rfl
  obtain ⟨hcl, hc0⟩ := hf1 c hcm
  rw [hce]
  clear hce
  have c1 : (cut (T.map fun c => tI c) none (some (c : Int))).length ≤ 100 := Nat.le_trans (cut_len ..) (by omega)
  have c2 : (cut (T.map fun c => tI c) (some ((c : Int) + 1)) none).length ≤ 100 := Nat.le_trans (cut_len ..) (by omega)
  refine s_ret ?_
  repeat' walk_at "e"
  have e : cut (T.map fun c => tI c) none (some (c : Int)) ++ [PyData.tuple (cut ((T.getD ((c : Nat) : Int).toNat []).map PyData.int) none (some (-1)))] ++ cut (T.map fun c => tI c) (some ((c : Int) + 1)) none = (T.take c ++ [(T.getD c []).dropLast] ++ T.drop (c + 1)).map fun c => tI c := by
    rw [tI_init, cut_hi _ (by omega), cut_lo _ (by omega), Int.toNat_natCast, show ((c : Int) + 1).toNat = c + 1 by omega, List.map_append, List.map_append, List.map_take, List.map_drop]
    rfl
  rw [e]
  have hrow := hT.get c
  refine ⟨_, U, rfl, ⟨by rw [List.length_append, List.length_append, List.length_take, List.length_drop]; simp only [List.length_cons, List.length_nil]; omega, fun r hr => ?_⟩, hU.up (by decide) (by decide), bad_row (k := c) ?_, q (k + 1) (by omega) (by omega)⟩
  · rcases List.mem_append.mp hr with hr | hr
    · rcases List.mem_append.mp hr with hr | hr
      · exact Nat.le_trans (hT.row r (List.mem_of_mem_take hr)) (by decide)
      · rw [List.mem_singleton.mp hr, List.length_dropLast]
        omega
    · exact Nat.le_trans (hT.row r (List.mem_of_mem_drop hr)) (by decide)
  · rw [cut_one _ hcl, List.length_dropLast, lens_getD, lens_getD, hl, ← lens_getD]
    omega
def pre_law_spoilt : Pre := fun rs O Q => ∃ (st : Addr) (ts : List Int) (k : Int) (n : Nat) (T U : List (List Int)) (O' : Own), rs = [.ad st, .dat (tS T), .dat (tS U)] ∧ O = Sta st ts k :: O' ∧ TapeOk ts ∧ 0 ≤ k ∧ k < 800000 ∧ Sm 100 100 T ∧ Sm 100 100 U ∧ PairOk n T U ∧ n ≤ 100 ∧ 1 ≤ T.length ∧ ∀ k2 : Int, k ≤ k2 → k2 ≤ k + 20 → Q (bV true) (Sta st ts k2 :: O')
theorem len_law_spoilt (rs : List SD) (O : Own) (Q : SD → Own → Prop) (h : pre_law_spoilt rs O Q) : rs.length = 3 := by
  obtain ⟨st, ts, k, n, T, U, O', rfl, _⟩ := h
  rfl
theorem tab_last : ∀ {U : List (List Int)}, Tab U → 0 < U.length → ∃ (A : List (List Int)) (l : List Int) (x : Int), U = A ++ [l ++ [x]]
  | [], _, h => absurd h (Nat.lt_irrefl _)
  | [r], ht, _ => by
    rcases List.eq_nil_or_concat r with e | ⟨l, x, e⟩
    · exact absurd e ht.1
    · exact ⟨[], l, x, by rw [e, List.concat_eq_append]; rfl⟩
  | r :: q :: t, ht, _ => by
    obtain ⟨A, l, x, e⟩ := tab_last (U := q :: t) ht.2.2.2 (Nat.zero_lt_succ _)
    exact ⟨r :: A, l, x, by rw [e]; rfl⟩
abbrev s_law_spoilt : Stmt := topS 27
theorem sc_law_spoilt : FnScope ["state", "first", "second", "way", "last"] ["state", "first", "second"] (defScope s_law_spoilt) := ⟨rfl, rfl, rfl, by decide +kernel, rfl, by decide +kernel, by decide +kernel⟩
set_option maxHeartbeats 4000000 in
theorem ok_law_spoilt  (D : Def K mg "_law_spoilt" s_law_spoilt) (C_law_take : Callee P w K mg base "_law_take" ["state", "many"] 2 pre_law_take) (C_law_refused : Callee P w K mg base "_law_refused" ["first", "second"] 4 pre_law_refused) (C_law_renumbered : Callee P w K mg base "_law_renumbered" ["state", "first", "second"] 5 pre_law_renumbered) (C_law_shorter : Callee P w K mg base "_law_shorter" ["state", "first", "second"] 5 pre_law_shorter) : Callee P w K mg base "_law_spoilt" ["state", "first", "second"] 6 pre_law_spoilt := by
  obtain ⟨f, fd, F, hmg⟩ := D
  obtain ⟨f_law_take, fd_law_take, G_law_take, g_law_take, kp_law_take, b_law_take, _⟩ := C_law_take
  obtain ⟨f_law_refused, fd_law_refused, G_law_refused, g_law_refused, kp_law_refused, b_law_refused, _⟩ := C_law_refused
  obtain ⟨f_law_renumbered, fd_law_renumbered, G_law_renumbered, g_law_renumbered, kp_law_renumbered, b_law_renumbered, _⟩ := C_law_renumbered
  obtain ⟨f_law_shorter, fd_law_shorter, G_law_shorter, g_law_shorter, kp_law_shorter, b_law_shorter, _⟩ := C_law_shorter
  refine ⟨f, fd, fn_ok F sc_law_spoilt len_law_spoilt fun cdv A outer s H E hr => ⟨_, (pss_cons (ps_set (i := 3) sc_law_spoilt.nd rfl (.inl rfl) (pe_call G_law_take (hr.mono (by decide)) (by rfl) g_law_take kp_law_take b_law_take .nil pass0 (pa_cons (pv 0) (pa_cons pe_int pa_nil))))
      (pss_cons (ps_set (i := 4) sc_law_spoilt.nd rfl (.inl rfl) (pe_ix (ixT K) (pv 2) (pe_un un_neg pe_int) (fun _ _ => rfl)))
      (pss_cons (ps_if (pt_cmpR op_eq (pv 3) pe_int (nomark _)) (pss_one (ps_ret (pe_call G_law_refused (hr.mono (by decide)) (by rfl) g_law_refused kp_law_refused b_law_refused .nil pass0 (pa_cons (pv 1) (pa_cons (pe_op (kCatT K) (pe_slice (slT K) (pv 2) po_none (po_some (pe_un un_neg pe_int))) (pe_tup (pa_cons (pe_op (kCatT K) (pe_slice (slT K) (pv 4) po_none (po_some (pe_un un_neg pe_int))) (pe_tup (pa_cons (pe_op op_add (pe_ix (ixT K) (pv 4) (pe_un un_neg pe_int) (fun _ _ => rfl)) pe_int) pa_nil))) pa_nil))) pa_nil))))) pss_nil)
      (pss_cons (ps_if (PW.pt (pw_and (pt_cmpR op_eq (pv 3) pe_int (nomark _)) (pw_and1 (pt_cmpR op_lt (pe_ix (ixT K) (pe_ix (ixT K) (pv 1) (pe_un un_neg pe_int) (fun _ _ => rfl)) pe_int (fun _ _ => rfl)) pe_int (nomark _))))) (pss_one (ps_ret (pe_call G_law_refused (hr.mono (by decide)) (by rfl) g_law_refused kp_law_refused b_law_refused .nil pass0 (pa_cons (pe_op (kCatT K) (pv 1) (pe_tup (pa_cons (pe_tup (pa_cons pe_int pa_nil)) pa_nil))) (pa_cons (pv 2) pa_nil))))) pss_nil)
      (pss_cons (ps_if (pt_cmpR op_eq (pv 3) pe_int (nomark _)) (pss_one (ps_ret (pe_call G_law_refused (hr.mono (by decide)) (by rfl) g_law_refused kp_law_refused b_law_refused .nil pass0 (pa_cons (pe_slice (slT K) (pv 1) po_none (po_some (pe_un un_neg pe_int))) (pa_cons (pv 2) pa_nil))))) pss_nil)
      (pss_cons (ps_if (pt_cmpR op_eq (pv 3) pe_int (nomark _)) (pss_one (ps_ret (pe_call G_law_refused (hr.mono (by decide)) (by rfl) g_law_refused kp_law_refused b_law_refused .nil pass0 (pa_cons (pe_op (kCatT K) (pe_tup (pa_cons (pe_op (kCatT K) (pe_ix (ixT K) (pv 1) pe_int (fun _ _ => rfl)) (pe_tup (pa_cons pe_int pa_nil))) pa_nil)) (pe_slice (slT K) (pv 1) (po_some pe_int) po_none)) (pa_cons (pv 2) pa_nil))))) pss_nil)
      (pss_cons (ps_if (pt_cmpR op_eq (pv 3) pe_int (nomark _)) (pss_one (ps_ret (pe_call G_law_shorter (hr.mono (by decide)) (by rfl) g_law_shorter kp_law_shorter b_law_shorter .nil pass0 (pa_cons (pv 0) (pa_cons (pv 1) (pa_cons (pv 2) pa_nil)))))) pss_nil)
      (pss_one (ps_ret (pe_call G_law_renumbered (hr.mono (by decide)) (by rfl) g_law_renumbered kp_law_renumbered b_law_renumbered .nil pass0 (pa_cons (pv 0) (pa_cons (pv 1) (pa_cons (pv 2) pa_nil))))))))))))), ?_⟩, hmg, F.kp, F.binds fun _ _ _ _ _ _ us hl => match us, hl with | [_, _, _], _ => rfl, Wk.Fun.lk F⟩
  intro rs O Q h
  obtain ⟨st, ts, k, n, T, U, O', rfl, rfl, hts, hk0, hk1, hT, hU, hok, hn, hT1, q⟩ := h
  have hTl := hT.len
  have hUl := hU.len
  have hlen := hok.len
  have hTm : (T.map fun c => tI c).length = T.length := List.length_map _
  have hUm : (U.map fun c => tI c).length = U.length := List.length_map _
  obtain ⟨A, l, x, eU⟩ := tab_last hok.tq (by omega)
  have eM : (U.map fun c => tI c) = (A.map fun c => tI c) ++ [tI (l ++ [x])] := by rw [eU, List.map_append]; rfl
  have eC : cut (U.map fun c => tI c) none (some (-1)) = A.map fun c => tI c := by rw [eM, cut_init, List.dropLast_concat]
  have hAl : (A.map fun c => tI c).length ≤ 100 := by
    have := congrArg List.length eM
    rw [hUm, List.length_append] at this
    omega
  have hll : (l ++ [x]).length ≤ 100 := hU.row _ (by rw [eU]; exact List.mem_append_right _ List.mem_cons_self)
  show StW K _ (Sta st ts k :: O') [.ad st, .dat (tS T), .dat (tS U), .non, .non] _
  refine s_seq (s_asg ?_)
  repeat' walk_at "e"
  rename_i z hz0 hz1
  refine s_seq (s_asg ?_)
  repeat' walk_at "e"
  refine o_ixT (d := tI (l ++ [x])) (by rw [eM]; exact at_snoc _ _) ?_
  have q1 := q (k + 1) (by omega) (by omega)
  have hcU : (cut (U.map fun c => tI c) none (some (-1))).length ≤ 100 := Nat.le_trans (cut_len ..) (by omega)
  have hcl : (cut ((l ++ [x]).map PyData.int) none (some (-1))).length ≤ 100 := Nat.le_trans (cut_len ..) (by rw [List.length_map]; omega)
  refine s_seq (s_if ?_)
  repeat' walk_at "e"
  · refine s_ret ?_
    repeat' walk_at "e"
    refine o_ixT (d := .int x) (by rw [List.map_append]; exact at_snoc _ _) ?_
    repeat' walk_at "e"
    have e : cut (U.map fun c => tI c) none (some (-1)) ++ [PyData.tuple (cut ((l ++ [x]).map PyData.int) none (some (-1)) ++ [PyData.int (x + 1)])] = (A ++ [l ++ [x + 1]]).map fun c => tI c := by
      rw [eC, cut_init, List.map_append, List.map_append, List.map_cons, List.map_nil, List.dropLast_concat]
      show _ ++ [PyData.tuple _] = _ ++ [PyData.tuple _]
      rw [List.map_append]
      rfl
    rw [e]
    refine ⟨T, _, rfl, hT.up (by decide) (by decide), ⟨?_, fun r hr => ?_⟩, bad_last hok eU (x + 1) (by omega), q1⟩
    · rw [List.length_append, ← List.length_map (f := fun c => tI c)]
      simp only [List.length_cons, List.length_nil]
      omega
    · rcases List.mem_append.mp hr with hr | hr
      · exact Nat.le_trans (hU.row r (by rw [eU]; exact List.mem_append_left _ hr)) (by decide)
      · rw [List.mem_singleton.mp hr, List.length_append]
        rw [List.length_append] at hll
        simp only [List.length_cons, List.length_nil] at *
        omega
  refine s_next ?_
  obtain ⟨A2, l2, x2, eT⟩ := tab_last hok.tp (by omega)
  have eM2 : (T.map fun c => tI c) = (A2.map fun c => tI c) ++ [tI (l2 ++ [x2])] := by rw [eT, List.map_append]; rfl
  have hl2 : 0 < (l2 ++ [x2]).length := by rw [List.length_append]; simp only [List.length_cons, List.length_nil]; omega
  have hTc : (cut (T.map fun c => tI c) (some 1) none).length ≤ 100 := Nat.le_trans (cut_len ..) (by omega)
  have hT0 := hT.get 0
  have hT00 : (T.getD (Int.toNat 0) []).length ≤ 100 := hT0
  have hgetl : ∀ r, (T ++ [r]).length ≠ U.length := fun r => by
    rw [List.length_append]
    simp only [List.length_cons, List.length_nil]
    omega
  refine s_cut (fun O1 ds1 => O1 = Sta st ts (k + 1) :: O' ∧ ds1 = [.ad st, .dat (tS T), .dat (tS U), iV z, .dat (tI (l ++ [x]))]) ?_ ?_
  · refine s_if ?_
    repeat' walk_at "e"
    · refine o_ixT (d := tI (l2 ++ [x2])) (by rw [eM2]; exact at_snoc _ _) ?_
      repeat' walk_at "e"
      · refine s_ret ?_
        repeat' walk_at "e"
        have e : (T.map fun c => tI c) ++ [PyData.tuple [PyData.int 60]] = (T ++ [[60]]).map fun c => tI c := by rw [List.map_append]; rfl
        rw [e]
        refine ⟨_, U, rfl, ⟨by rw [List.length_append]; simp only [List.length_cons, List.length_nil]; omega, fun r hr => ?_⟩, hU.up (by decide) (by decide), bad_len (hgetl _), q1⟩
        rcases List.mem_append.mp hr with hr | hr
        · exact Nat.le_trans (hT.row r hr) (by decide)
        · rw [List.mem_singleton.mp hr]
          decide
      · refine s_next ?_
        exact ⟨rfl, rfl⟩
    · refine s_next ?_
      exact ⟨rfl, rfl⟩
  rintro _ _ ⟨rfl, rfl⟩
  refine s_seq (s_if ?_)
  repeat' walk_at "e"
  · refine s_ret ?_
    repeat' walk_at "e"
    have e : cut (T.map fun c => tI c) none (some (-1)) = T.dropLast.map fun c => tI c := by rw [cut_init, List.map_dropLast]
    rw [e]
    refine ⟨_, U, rfl, ⟨by rw [List.length_dropLast]; omega, fun r hr => Nat.le_trans (hT.row r ((List.dropLast_sublist T).subset hr)) (by decide)⟩, hU.up (by decide) (by decide), bad_len (by rw [List.length_dropLast]; omega), q1⟩
  refine s_next ?_
  refine s_seq (s_if ?_)
  repeat' walk_at "e"
  · refine s_ret ?_
    repeat' walk_at "e"
    have e : [PyData.tuple ((T.getD (Int.toNat 0) []).map PyData.int ++ [PyData.int 60])] ++ cut (T.map fun c => tI c) (some 1) none = ((T.getD 0 [] ++ [60]) :: T.drop 1).map fun c => tI c := by
      rw [cut_lo _ (by decide), List.map_cons, List.map_drop]
      show [PyData.tuple (_ ++ _)] ++ _ = tI (_ ++ _) :: _
      unfold tI
      rw [List.map_append]
      rfl
    rw [e]
    refine ⟨_, U, rfl, ⟨by rw [List.length_cons, List.length_drop]; omega, fun r hr => ?_⟩, hU.up (by decide) (by decide), bad_row (k := 0) ?_, q1⟩
    · rcases List.mem_cons.mp hr with hr | hr
      · rw [hr, List.length_append]
        simp only [List.length_cons, List.length_nil]
        omega
      · exact Nat.le_trans (hT.row r (List.mem_of_mem_drop hr)) (by decide)
    · have h2 : (U.getD 0 []).length = (T.getD 0 []).length := by rw [lens_getD, lens_getD, hok.lens]
      rw [h2]
      show (T.getD 0 [] ++ [60]).length ≠ _
      rw [List.length_append]
      simp only [List.length_cons, List.length_nil]
      omega
  refine s_next ?_
  refine s_seq (s_if ?_)
  repeat' walk_at "e"
  · refine s_ret ?_
    repeat' walk_at "e"
    exact ⟨st, ts, k + 1, T, U, O', rfl, rfl, hts, by omega, by omega, hT, hU, hok.lens, hT1, fun k2 h1 h2 => q k2 (by omega) (by omega)⟩
  refine s_next ?_
  refine s_ret ?_
  repeat' walk_at "e"
  exact ⟨st, ts, k + 1, n, T, U, O', rfl, rfl, hts, by omega, by omega, hT, hU, hok, hn, fun k2 h1 h2 => q k2 (by omega) (by omega)⟩
def pre_law : Pre := fun rs O Q => ∃ ns : List Int, rs = [.scr ns] ∧ O = [] ∧ ns.length ≤ 63 ∧ ∀ O, Q (bV true) O
theorem len_law (rs : List SD) (O : Own) (Q : SD → Own → Prop) (h : pre_law rs O Q) : rs.length = 1 := by
  obtain ⟨ns, rfl, _⟩ := h
  rfl
theorem law_pre {ns : List Int} (h : ns.length ≤ 63) : pre_law [.scr ns] [] fun r _ => r = bV true := ⟨ns, rfl, rfl, h, fun _ => rfl⟩
theorem good_pair {n : Nat} {P U : List (List Int)} (h : PairOk n P U) (hn : n ≤ 60) : ¬ BadP P U := fun z => by
  rcases z with z | z | z
  · rw [h.szq] at z
    omega
  · refine z fun v => ?_
    rw [h.iff, h.szq]
  · exact z h.lens.symm
abbrev s_law : Stmt := topS 28
theorem sc_law : FnScope ["script", "state", "word", "pair", "told", "turn", "first", "second", "made", "k", "row"] ["script"] (defScope s_law) := ⟨rfl, rfl, rfl, by decide +kernel, rfl, by decide +kernel, by decide +kernel⟩
set_option maxHeartbeats 4000000 in
theorem ok_law  {C_NoSuchRow : Addr} {C_NotAPair : Addr} (D : Def K mg "law" s_law) (C_law_take : Callee P w K mg base "_law_take" ["state", "many"] 2 pre_law_take) (C_law_word : Callee P w K mg base "_law_word" ["state", "most"] 3 pre_law_word) (C_pair_of : Callee P w K mg base "pair_of" ["word"] 3 pre_pair_of) (C_word_of : CalleeX P w K mg base "word_of" ["first", "second"] 3 (pre_word_of C_NotAPair C_NoSuchRow)) (C_law_tape : Callee P w K mg base "_law_tape" ["script"] 1 pre_law_tape) (C_law_made : Callee P w K mg base "_law_made" ["word"] 2 pre_law_made) (C_law_second : Callee P w K mg base "_law_second" ["state", "first"] 3 pre_law_second) (C_law_spoilt : Callee P w K mg base "_law_spoilt" ["state", "first", "second"] 6 pre_law_spoilt) (m_isinstance : mg "isinstance" = none) (m_len : mg "len" = none) (m_list : mg "list" = none) (m_range : mg "range" = none) (m_sum : mg "sum" = none) : Callee P w K mg base "law" ["script"] 7 pre_law := by
  obtain ⟨f, fd, F, hmg⟩ := D
  obtain ⟨f_law_take, fd_law_take, G_law_take, g_law_take, kp_law_take, b_law_take, _⟩ := C_law_take
  obtain ⟨f_law_word, fd_law_word, G_law_word, g_law_word, kp_law_word, b_law_word, _⟩ := C_law_word
  obtain ⟨f_pair_of, fd_pair_of, G_pair_of, g_pair_of, kp_pair_of, b_pair_of, _⟩ := C_pair_of
  obtain ⟨f_word_of, fd_word_of, G_word_of, g_word_of, kp_word_of, b_word_of, _⟩ := C_word_of
  obtain ⟨f_law_tape, fd_law_tape, G_law_tape, g_law_tape, kp_law_tape, b_law_tape, _⟩ := C_law_tape
  obtain ⟨f_law_made, fd_law_made, G_law_made, g_law_made, kp_law_made, b_law_made, _⟩ := C_law_made
  obtain ⟨f_law_second, fd_law_second, G_law_second, g_law_second, kp_law_second, b_law_second, _⟩ := C_law_second
  obtain ⟨f_law_spoilt, fd_law_spoilt, G_law_spoilt, g_law_spoilt, kp_law_spoilt, b_law_spoilt, _⟩ := C_law_spoilt
  refine ⟨f, fd, fn_ok F sc_law len_law fun cdv A outer s H E hr => ⟨_, (pss_cons (ps_set (i := 1) sc_law.nd rfl (.inr rfl) (pe_lst (pa_cons (pe_call G_law_tape (hr.mono (by decide)) (by rfl) g_law_tape kp_law_tape b_law_tape .nil pass0 (pa_cons (pv 0) pa_nil)) (pa_cons pe_int pa_nil))))
      (pss_cons (ps_set (i := 2) sc_law.nd rfl (.inl rfl) (pe_call G_law_word (hr.mono (by decide)) (by rfl) g_law_word kp_law_word b_law_word .nil pass0 (pa_cons (pv 1) (pa_cons pe_int pa_nil))))
      (pss_cons (ps_if (pt_cmpR op_eq (pe_call G_law_take (hr.mono (by decide)) (by rfl) g_law_take kp_law_take b_law_take .nil pass0 (pa_cons (pv 1) (pa_cons pe_int pa_nil))) pe_int (nomark _)) (pss_one (ps_setLc (i := 2) (own := [("k", 9)]) (g := gName 9) rfl sc_law.nd rfl rfl (sw_true rfl rfl rfl (by decide +kernel)) (pi_range1 (by rfl) m_range (pa_cons pe_int pa_nil)) (blkOk_by (own := [("k", 9)]) (N := ["script", "state", "word", "pair", "told", "turn", "first", "second", "made", "k", "row"]) (by first | (show blkC _ (defScope s_law) _ _ = true; decide +kernel) | kernel_rfl | rfl)) (fun _ _ _ _ _ => pg_name (i := 9) sc_law.nd rfl (by first | exact Or.inl rfl | exact Or.inr rfl)) (fun _ _ _ _ _ => pts_nil) (fun _ _ _ _ _ => (pe_op op_add pe_int (pe_call G_law_take (hr.mono (by decide)) (by rfl) g_law_take kp_law_take b_law_take .nil pass0 (pa_cons (pv 1) (pa_cons (pe_ix (ixL K) (pe_lst (pa_cons pe_int (pa_cons pe_int pa_nil))) (pe_call G_law_take (hr.mono (by decide)) (by rfl) g_law_take kp_law_take b_law_take .nil pass0 (pa_cons (pv 1) (pa_cons pe_int pa_nil))) (fun _ _ => rfl)) pa_nil))))))) pss_nil)
      (pss_cons (ps_set (i := 3) sc_law.nd rfl (.inl rfl) (pe_call G_pair_of (hr.mono (by decide)) (by rfl) g_pair_of kp_pair_of b_pair_of .nil pass0 (pa_cons (pe_callTy (kListOf K) (by rfl) m_list (by decide +kernel) (pa_cons (pv 2) pa_nil)) pa_nil)))
      (pss_cons (ps_set (i := 4) sc_law.nd rfl (.inl rfl) (by exact (pe_callS G_word_of (hr.mono (by decide)) (by rfl) g_word_of kp_word_of b_word_of (fun σ => passAt (takes0) σ) (pa_cons (pe_ix (ixT K) (pv 3) pe_int (fun _ _ => rfl)) (pa_cons (pe_ix (ixT K) (pv 3) pe_int (fun _ _ => rfl)) pa_nil)))))
      (pss_cons (ps_if (PW.pt (pw_or (pt_not (pt_val (pe_callB (kIsi K) (by rfl) m_isinstance (by decide +kernel) (pa_cons (pv 4) (pa_cons (pe_bltn (v := .ty "list") (by rfl) m_list (by decide +kernel) rfl) pa_nil))))) (pw_or1 (pt_cmpR (kNeD K hr.units) (pv 4) (pv 2) (nomark _))))) (pss_one (ps_ret pe_bl)) pss_nil)
      (pss_cons (ps_for PassesOwn.never rfl (pi_range1 (by rfl) m_range (pa_cons pe_int pa_nil)) (pg_name (i := 5) sc_law.nd rfl (.inl rfl)) (pss_cons (ps_set (i := 6) sc_law.nd rfl (.inl rfl) (pe_call G_law_made (hr.mono (by decide)) (by rfl) g_law_made kp_law_made b_law_made .nil pass0 (pa_cons (pe_call G_law_word (hr.mono (by decide)) (by rfl) g_law_word kp_law_word b_law_word .nil pass0 (pa_cons (pv 1) (pa_cons pe_int pa_nil))) pa_nil)))
      (pss_cons (ps_set (i := 7) sc_law.nd rfl (.inl rfl) (pe_call G_law_second (hr.mono (by decide)) (by rfl) g_law_second kp_law_second b_law_second .nil pass0 (pa_cons (pv 1) (pa_cons (pv 6) pa_nil))))
      (pss_cons (ps_set (i := 8) sc_law.nd rfl (.inl rfl) (by exact (pe_callS G_word_of (hr.mono (by decide)) (by rfl) g_word_of kp_word_of b_word_of (fun σ => passAt (takes0) σ) (pa_cons (pv 6) (pa_cons (pv 7) pa_nil)))))
      (pss_cons (ps_if (PW.pt (pw_or (pt_cmpR op_ne (pe_callB (kLen K) (by rfl) m_len PySem.boot_len (pa_cons (pv 8) pa_nil)) (pe_callB (kSum K rfl) (by rfl) m_sum (by decide +kernel) (pa_cons (pe_lc (own := [("row", 10)]) (g := gName 10) rfl sc_law.nd (piT K (pv 6)) (blkOk_by (own := [("row", 10)]) (N := ["script", "state", "word", "pair", "told", "turn", "first", "second", "made", "k", "row"]) (by first | (show blkC _ (defScope s_law) _ _ = true; decide +kernel) | kernel_rfl | rfl)) (fun _ _ _ _ _ => pg_name (i := 10) sc_law.nd rfl (by first | exact Or.inl rfl | exact Or.inr rfl)) (fun _ _ _ _ _ => pts_nil) (fun _ _ _ _ _ => (pe_callB (kLen K) (by rfl) m_len PySem.boot_len (pa_cons (pv 10) pa_nil)))) pa_nil)) (nomark _)) (pw_or1 (pt_cmpR (kNeD K hr.units) (pe_call G_pair_of (hr.mono (by decide)) (by rfl) g_pair_of kp_pair_of b_pair_of .nil pass0 (pa_cons (pe_callTy (kListOf K) (by rfl) m_list (by decide +kernel) (pa_cons (pv 8) pa_nil)) pa_nil)) (pe_tup (pa_cons (pv 6) (pa_cons (pv 7) pa_nil))) (nomark _))))) (pss_one (ps_ret pe_bl)) pss_nil)
      (pss_one (ps_if (PW.pt (pw_and (pt_cmpR op_gt (pe_callB (kLen K) (by rfl) m_len PySem.boot_len (pa_cons (pv 6) pa_nil)) pe_int (nomark _)) (pw_and1 (pt_not (pt_val (pe_call G_law_spoilt (hr.mono (by decide)) (by rfl) g_law_spoilt kp_law_spoilt b_law_spoilt .nil pass0 (pa_cons (pv 1) (pa_cons (pv 6) (pa_cons (pv 7) pa_nil))))))))) (pss_one (ps_ret pe_bl)) pss_nil)))))))
      (pss_one (ps_ret pe_bl))))))))), ?_⟩, hmg, F.kp, F.binds fun _ _ _ _ _ _ us hl => match us, hl with | [_], _ => rfl, Wk.Fun.lk F⟩
  intro rs O Q h
  obtain ⟨ns, rfl, rfl, hn, q⟩ := h
  show StW K _ [] [.scr ns, .non, .non, .non, .non, .non, .non, .non, .non, .non, .non] _
  refine s_seq (s_asg (w_lstO ?_))
  repeat' walk_at "e"
  refine ⟨ns, rfl, hn, fun ts ht hl => ?_⟩
  repeat' walk_at "e"
  refine ⟨sz_ok rfl, fun st => ?_⟩
  refine s_seq (s_asg ?_)
  repeat' walk_at "e"
  rename_i w0 k1 hw0 hk2 hk3
  refine s_cut (fun O1 ds1 => ∃ (w : List Int) (k2 : Int), w.length ≤ 60 ∧ 0 ≤ k2 ∧ k2 ≤ 400 ∧ O1 = [Sta st ts k2] ∧ ds1 = [.scr ns, .ad st, .dat (lI w), .non, .non, .non, .non, .non, .non, .non, .non]) ?_ ?_
  · refine s_if ?_
    repeat' walk_at "e"
    · refine s_asg (w_frz (w_lc1 ?_))
      repeat' walk_at "e"
      refine ⟨by decide, by decide, fun j acc O2 => ∃ (us : List Int) (k4 : Int), acc = us.map (fun n => iV n) ∧ us.length = j ∧ k1 ≤ k4 ∧ k4 ≤ k1 + 1 + 2 * j ∧ O2 = [Sta st ts k4], ⟨[], k1 + 1, rfl, rfl, by omega, by omega, rfl⟩, fun j acc O2 hj hl hI => ?_, fun acc O2 Dl hI => ?_⟩
      · obtain ⟨us, k4, rfl, hu, h3, h4, rfl⟩ := hI
        refine LcTurn1.to fun Dl => ?_
        repeat' walk_at "e"
        rename_i v hv0 hv1
        refine ⟨_, _, rfl, us ++ [1 + v], k4 + 1 + 1, by rw [List.map_append]; rfl, by rw [List.length_append, hu]; rfl, by omega, by omega, rfl⟩
      · obtain ⟨us, k4, rfl, hu, h3, h4, rfl⟩ := hI
        refine ⟨Dl, _, _, _, rfl, .refl _, Dats.ints us, ?_⟩
        have hu2 : us.length = 60 := hu
        have h5 : k4 ≤ k1 + 1 + 2 * 60 := h4
        exact ⟨us, k4, by omega, by omega, by omega, rfl, rfl⟩
    · with_reducible refine s_next ?_
      exact ⟨w0, _, by have := hw0.1; omega, by omega, by omega, rfl, rfl⟩
  rintro _ _ ⟨w, k2, hw, hk4, hk5, rfl, rfl⟩
  have hok := pairT_ok w
  refine s_seq (s_asg ?_)
  repeat' walk_at "e"
  refine s_seq (s_asg ?_)
  repeat' walk_at "e"
  have z1 := hok.szp
  have z2 := hok.szq
  have hsm : Sm 900 900 (pairT w).1 := hok.tp.sm.up (by omega) (by omega)
  have hsm2 : Sm 900 900 (pairT w).2 := hok.tq.sm.up (by omega) (by omega)
  refine w_callN ?_
  repeat' walk_at "e"
  refine ⟨(pairT w).1, (pairT w).2, rfl, hsm, hsm2, fun hb => absurd hb (good_pair hok hw), fun _ => ⟨w, rfl, ?_⟩⟩
  refine s_seq (s_if ?_)
  repeat' walk_at "e"
  · rename_i bb hbb hd
    rw [hbb.mpr rfl] at hd
    cases hd
  refine s_next ?_
  generalize hsv : (SD.dat (PyData.tuple [tS (pairT w).1, tS (pairT w).2])) = sv at *
  refine s_seq (s_for1 ?_)
  repeat' walk_at "e"
  refine ⟨by omega, by omega, fun i O2 ds2 => ∃ (k3 : Int) (x5 x6 x7 x8 x9 x10 : SD), 0 ≤ k3 ∧ k3 ≤ 400 + 400 * i ∧ O2 = [Sta st ts k3] ∧ ds2 = [.scr ns, .ad st, .dat (lI w), sv, .dat (lI w), x5, x6, x7, x8, x9, x10], ⟨k2, _, _, _, _, _, _, by omega, by omega, rfl, rfl⟩, fun i O2 ds2 hi hI B hB => ?_, fun O2 ds2 hI => ?_⟩
  · obtain ⟨k3, x5, x6, x7, x8, x9, x10, hk6, hk7, rfl, rfl⟩ := hI
    refine s_seq (s_asg ?_)
    repeat' walk_at "e"
    rename_i w1 k4 hw1 hk8 hk9
    have hw1l : w1.length ≤ 25 := hw1.1
    refine ⟨w1, rfl, ⟨by omega, hw1.2⟩, ?_⟩
    obtain ⟨m1, m2, m3⟩ := made_ok w1 hw1.2
    generalize madeT w1 = T at *
    have hsm0 := m1.sm
    have hTl := hsm0.len
    have hT1 : Sm 100 100 T := hsm0.up (by omega) (by omega)
    have hT9 : Sm 900 900 T := hsm0.up (by omega) (by omega)
    refine s_seq (s_asg ?_)
    repeat' walk_at "e"
    refine ⟨st, ts, k4, T, [], rfl, rfl, ht, by omega, by omega, m1, by omega, fun U k5 hokU hk10 hk11 => ?_⟩
    have zU := hokU.szq
    have hU0 := hokU.tq.sm
    have hU1 : Sm 100 100 U := hU0.up (by omega) (by omega)
    have hU9 : Sm 900 900 U := hU0.up (by omega) (by omega)
    obtain ⟨v, hvl, hv⟩ := pair_word _ hokU
    have hTm : (T.map fun c => tI c).length = T.length := List.length_map _
    refine s_seq (s_asg ?_)
    refine w_callN ?_
    repeat' walk_at "e"
    refine ⟨T, U, rfl, hT9, hU9, fun hb => absurd hb (good_pair hokU (by omega)), fun _ => ⟨v, hv, ?_⟩⟩
    refine s_seq (s_if ?_)
    repeat' walk_at "e"
    refine w_frz (w_lcT ?_)
    repeat' walk_at "e"
    refine ⟨by rw [List.length_map]; omega, fun j acc O2 => acc = ((T.take j).map fun r => (r.length : Int)).map (fun n => iV n) ∧ O2 = [Sta st ts k5], ⟨rfl, rfl⟩, fun j d acc O2 hd hl hI Dl => ?_, fun acc O2 Dl hI => ?_⟩
    · obtain ⟨rfl, rfl⟩ := hI
      obtain ⟨r, hr, rfl⟩ := map_get hd
      repeat' walk_at "e"
      refine ⟨_, .refl _, ?_, rfl⟩
      rw [take_next hr, List.map_append, List.map_append, List.length_map]
      rfl
    obtain ⟨rfl, e0⟩ := hI
    rw [e0]
    clear e0
    refine ⟨Dl, _, _, _, rfl, .refl _, Dats.ints _, ?_⟩
    rw [List.length_map, List.take_length]
    repeat' walk_at "e"
    · rename_i hd
      refine absurd ?_ hd
      rw [List.length_map, lens_sum, hvl]
    · rename_i bb hbb hd
      rw [hbb.mpr (by rw [hv])] at hd
      cases hd
    refine s_next ?_
    refine s_if ?_
    repeat' walk_at "e"
    · rename_i hpos
      rw [hTm] at hpos
      refine ⟨st, ts, k5, szT T, T, U, [], rfl, rfl, ht, by omega, by omega, hT1, hU1, hokU, by omega, by omega, fun k6 h1 h2 => ?_⟩
      repeat' walk_at "e"
      refine s_next ?_
      exact hB.nx _ _ ⟨k6, _, _, _, _, _, _, by omega, by omega, rfl, rfl⟩
    · refine s_next ?_
      exact hB.nx _ _ ⟨k5, _, _, _, _, _, _, by omega, by omega, rfl, rfl⟩
  · obtain ⟨k3, x5, x6, x7, x8, x9, x10, hk6, hk7, rfl, rfl⟩ := hI
    refine s_ret ?_
    repeat' walk_at "e"
    exact q _
end
theorem all_mk {l : PySem.W.OpenLaw} {w : World} {K : PySem.W.Frag} {h : Heap} {mg : Str → Option Value} {fa : Addr} (X : K.In h) (G : h.Ns mainGlobals mg) (hfa : mg "law" = some (.ref fa))
    {od_0 an_0 : Option Addr} {sl_0 : Array (Option Value)} {oc_0 kV_0 dc_0 pm_0 cd_0 ct_0 : Value} {f_0 : Addr}
    {od_1 an_1 : Option Addr} {sl_1 : Array (Option Value)} {oc_1 kV_1 dc_1 pm_1 cd_1 ct_1 : Value} {f_1 : Addr}
    {od_2 an_2 : Option Addr} {sl_2 : Array (Option Value)} {oc_2 kV_2 dc_2 pm_2 cd_2 ct_2 : Value} {f_2 : Addr}
    {od_3 an_3 : Option Addr} {sl_3 : Array (Option Value)} {oc_3 kV_3 dc_3 pm_3 cd_3 ct_3 : Value} {f_3 : Addr}
    {od_4 an_4 : Option Addr} {sl_4 : Array (Option Value)} {oc_4 kV_4 dc_4 pm_4 cd_4 ct_4 : Value} {f_4 : Addr}
    {od_5 an_5 : Option Addr} {sl_5 : Array (Option Value)} {oc_5 kV_5 dc_5 pm_5 cd_5 ct_5 : Value} {f_5 : Addr}
    {od_6 an_6 : Option Addr} {sl_6 : Array (Option Value)} {oc_6 kV_6 dc_6 pm_6 cd_6 ct_6 : Value} {f_6 : Addr}
    {od_7 an_7 : Option Addr} {sl_7 : Array (Option Value)} {oc_7 kV_7 dc_7 pm_7 cd_7 ct_7 : Value} {f_7 : Addr}
    {od_8 an_8 : Option Addr} {sl_8 : Array (Option Value)} {oc_8 kV_8 dc_8 pm_8 cd_8 ct_8 : Value} {f_8 : Addr}
    {od_9 an_9 : Option Addr} {sl_9 : Array (Option Value)} {oc_9 kV_9 dc_9 pm_9 cd_9 ct_9 : Value} {f_9 : Addr}
    {od_10 an_10 : Option Addr} {sl_10 : Array (Option Value)} {oc_10 kV_10 dc_10 pm_10 cd_10 ct_10 : Value} {f_10 : Addr}
    {od_11 an_11 : Option Addr} {sl_11 : Array (Option Value)} {oc_11 kV_11 dc_11 pm_11 cd_11 ct_11 : Value} {f_11 : Addr}
    {od_12 an_12 : Option Addr} {sl_12 : Array (Option Value)} {oc_12 kV_12 dc_12 pm_12 cd_12 ct_12 : Value} {f_12 : Addr}
    {od_13 an_13 : Option Addr} {sl_13 : Array (Option Value)} {oc_13 kV_13 dc_13 pm_13 cd_13 ct_13 : Value} {f_13 : Addr}
    {od_14 an_14 : Option Addr} {sl_14 : Array (Option Value)} {oc_14 kV_14 dc_14 pm_14 cd_14 ct_14 : Value} {f_14 : Addr}
    {od_15 an_15 : Option Addr} {sl_15 : Array (Option Value)} {oc_15 kV_15 dc_15 pm_15 cd_15 ct_15 : Value} {f_15 : Addr}
    {od_16 an_16 : Option Addr} {sl_16 : Array (Option Value)} {oc_16 kV_16 dc_16 pm_16 cd_16 ct_16 : Value} {f_16 : Addr}
    {od_17 an_17 : Option Addr} {sl_17 : Array (Option Value)} {oc_17 kV_17 dc_17 pm_17 cd_17 ct_17 : Value} {f_17 : Addr}
    {od_18 an_18 : Option Addr} {sl_18 : Array (Option Value)} {oc_18 kV_18 dc_18 pm_18 cd_18 ct_18 : Value} {f_18 : Addr}
    {od_19 an_19 : Option Addr} {sl_19 : Array (Option Value)} {oc_19 kV_19 dc_19 pm_19 cd_19 ct_19 : Value} {f_19 : Addr}
    {od_20 an_20 : Option Addr} {sl_20 : Array (Option Value)} {oc_20 kV_20 dc_20 pm_20 cd_20 ct_20 : Value} {f_20 : Addr}
    {od_21 an_21 : Option Addr} {sl_21 : Array (Option Value)} {oc_21 kV_21 dc_21 pm_21 cd_21 ct_21 : Value} {f_21 : Addr}
    {t_LONGEST_WORD : Tok}
    {C_NoSuchRow : Addr}
    {C_NotAPair : Addr}
    {C_WalkhandsError : Addr}
    (a_0 : PySem.W.nsIn K mainGlobals "_law_draw" = some (some (.ref f_0)))
    (l_0 : K.lookup f_0 = some ⟨oc_0, od_0, .func (PySem.W.fnOf "_law_draw" "_law_draw" (defArgs s_law_draw) (defBody s_law_draw) (defScope s_law_draw) .none kV_0 dc_0 pm_0 an_0 cd_0 ct_0), sl_0⟩)
    (c_0 : PySem.W.codeIn K cd_0 "_law_draw" = true)
    (k_0 : PySem.W.keepIn K (.ref f_0) = true)
    (a_1 : PySem.W.nsIn K mainGlobals "_law_take" = some (some (.ref f_1)))
    (l_1 : K.lookup f_1 = some ⟨oc_1, od_1, .func (PySem.W.fnOf "_law_take" "_law_take" (defArgs s_law_take) (defBody s_law_take) (defScope s_law_take) .none kV_1 dc_1 pm_1 an_1 cd_1 ct_1), sl_1⟩)
    (c_1 : PySem.W.codeIn K cd_1 "_law_take" = true)
    (k_1 : PySem.W.keepIn K (.ref f_1) = true)
    (a_2 : PySem.W.nsIn K mainGlobals "_law_word" = some (some (.ref f_2)))
    (l_2 : K.lookup f_2 = some ⟨oc_2, od_2, .func (PySem.W.fnOf "_law_word" "_law_word" (defArgs s_law_word) (defBody s_law_word) (defScope s_law_word) .none kV_2 dc_2 pm_2 an_2 cd_2 ct_2), sl_2⟩)
    (c_2 : PySem.W.codeIn K cd_2 "_law_word" = true)
    (k_2 : PySem.W.keepIn K (.ref f_2) = true)
    (a_3 : PySem.W.nsIn K mainGlobals "_first_greater" = some (some (.ref f_3)))
    (l_3 : K.lookup f_3 = some ⟨oc_3, od_3, .func (PySem.W.fnOf "_first_greater" "_first_greater" (defArgs s_first_greater) (defBody s_first_greater) (defScope s_first_greater) .none kV_3 dc_3 pm_3 an_3 cd_3 ct_3), sl_3⟩)
    (c_3 : PySem.W.codeIn K cd_3 "_first_greater" = true)
    (k_3 : PySem.W.keepIn K (.ref f_3) = true)
    (a_4 : PySem.W.nsIn K mainGlobals "_inserted" = some (some (.ref f_4)))
    (l_4 : K.lookup f_4 = some ⟨oc_4, od_4, .func (PySem.W.fnOf "_inserted" "_inserted" (defArgs s_inserted) (defBody s_inserted) (defScope s_inserted) .none kV_4 dc_4 pm_4 an_4 cd_4 ct_4), sl_4⟩)
    (c_4 : PySem.W.codeIn K cd_4 "_inserted" = true)
    (k_4 : PySem.W.keepIn K (.ref f_4) = true)
    (a_5 : PySem.W.nsIn K mainGlobals "_one_longer" = some (some (.ref f_5)))
    (l_5 : K.lookup f_5 = some ⟨oc_5, od_5, .func (PySem.W.fnOf "_one_longer" "_one_longer" (defArgs s_one_longer) (defBody s_one_longer) (defScope s_one_longer) .none kV_5 dc_5 pm_5 an_5 cd_5 ct_5), sl_5⟩)
    (c_5 : PySem.W.codeIn K cd_5 "_one_longer" = true)
    (k_5 : PySem.W.keepIn K (.ref f_5) = true)
    (a_6 : PySem.W.nsIn K mainGlobals "pair_of" = some (some (.ref f_6)))
    (l_6 : K.lookup f_6 = some ⟨oc_6, od_6, .func (PySem.W.fnOf "pair_of" "pair_of" (defArgs s_pair_of) (defBody s_pair_of) (defScope s_pair_of) .none kV_6 dc_6 pm_6 an_6 cd_6 ct_6), sl_6⟩)
    (c_6 : PySem.W.codeIn K cd_6 "pair_of" = true)
    (k_6 : PySem.W.keepIn K (.ref f_6) = true)
    (a_7 : PySem.W.nsIn K mainGlobals "_size" = some (some (.ref f_7)))
    (l_7 : K.lookup f_7 = some ⟨oc_7, od_7, .func (PySem.W.fnOf "_size" "_size" (defArgs s_size) (defBody s_size) (defScope s_size) .none kV_7 dc_7 pm_7 an_7 cd_7 ct_7), sl_7⟩)
    (c_7 : PySem.W.codeIn K cd_7 "_size" = true)
    (k_7 : PySem.W.keepIn K (.ref f_7) = true)
    (a_8 : PySem.W.nsIn K mainGlobals "_shape" = some (some (.ref f_8)))
    (l_8 : K.lookup f_8 = some ⟨oc_8, od_8, .func (PySem.W.fnOf "_shape" "_shape" (defArgs s_shape) (defBody s_shape) (defScope s_shape) .none kV_8 dc_8 pm_8 an_8 cd_8 ct_8), sl_8⟩)
    (c_8 : PySem.W.codeIn K cd_8 "_shape" = true)
    (k_8 : PySem.W.keepIn K (.ref f_8) = true)
    (a_9 : PySem.W.nsIn K mainGlobals "_last_less" = some (some (.ref f_9)))
    (l_9 : K.lookup f_9 = some ⟨oc_9, od_9, .func (PySem.W.fnOf "_last_less" "_last_less" (defArgs s_last_less) (defBody s_last_less) (defScope s_last_less) .none kV_9 dc_9 pm_9 an_9 cd_9 ct_9), sl_9⟩)
    (c_9 : PySem.W.codeIn K cd_9 "_last_less" = true)
    (k_9 : PySem.W.keepIn K (.ref f_9) = true)
    (a_10 : PySem.W.nsIn K mainGlobals "take_out" = some (some (.ref f_10)))
    (l_10 : K.lookup f_10 = some ⟨oc_10, od_10, .func (PySem.W.fnOf "take_out" "take_out" (defArgs s_take_out) (defBody s_take_out) (defScope s_take_out) .none kV_10 dc_10 pm_10 an_10 cd_10 ct_10), sl_10⟩)
    (c_10 : PySem.W.codeIn K cd_10 "take_out" = true)
    (k_10 : PySem.W.keepIn K (.ref f_10) = true)
    (a_11 : PySem.W.nsIn K mainGlobals "word_of" = some (some (.ref f_11)))
    (l_11 : K.lookup f_11 = some ⟨oc_11, od_11, .func (PySem.W.fnOf "word_of" "word_of" (defArgs s_word_of) (defBody s_word_of) (defScope s_word_of) .none kV_11 dc_11 pm_11 an_11 cd_11 ct_11), sl_11⟩)
    (c_11 : PySem.W.codeIn K cd_11 "word_of" = true)
    (k_11 : PySem.W.keepIn K (.ref f_11) = true)
    (a_12 : PySem.W.nsIn K mainGlobals "_law_tape" = some (some (.ref f_12)))
    (l_12 : K.lookup f_12 = some ⟨oc_12, od_12, .func (PySem.W.fnOf "_law_tape" "_law_tape" (defArgs s_law_tape) (defBody s_law_tape) (defScope s_law_tape) .none kV_12 dc_12 pm_12 an_12 cd_12 ct_12), sl_12⟩)
    (c_12 : PySem.W.codeIn K cd_12 "_law_tape" = true)
    (k_12 : PySem.W.keepIn K (.ref f_12) = true)
    (a_13 : PySem.W.nsIn K mainGlobals "_law_put" = some (some (.ref f_13)))
    (l_13 : K.lookup f_13 = some ⟨oc_13, od_13, .func (PySem.W.fnOf "_law_put" "_law_put" (defArgs s_law_put) (defBody s_law_put) (defScope s_law_put) .none kV_13 dc_13 pm_13 an_13 cd_13 ct_13), sl_13⟩)
    (c_13 : PySem.W.codeIn K cd_13 "_law_put" = true)
    (k_13 : PySem.W.keepIn K (.ref f_13) = true)
    (a_14 : PySem.W.nsIn K mainGlobals "_law_made" = some (some (.ref f_14)))
    (l_14 : K.lookup f_14 = some ⟨oc_14, od_14, .func (PySem.W.fnOf "_law_made" "_law_made" (defArgs s_law_made) (defBody s_law_made) (defScope s_law_made) .none kV_14 dc_14 pm_14 an_14 cd_14 ct_14), sl_14⟩)
    (c_14 : PySem.W.codeIn K cd_14 "_law_made" = true)
    (k_14 : PySem.W.keepIn K (.ref f_14) = true)
    (a_15 : PySem.W.nsIn K mainGlobals "_law_second" = some (some (.ref f_15)))
    (l_15 : K.lookup f_15 = some ⟨oc_15, od_15, .func (PySem.W.fnOf "_law_second" "_law_second" (defArgs s_law_second) (defBody s_law_second) (defScope s_law_second) .none kV_15 dc_15 pm_15 an_15 cd_15 ct_15), sl_15⟩)
    (c_15 : PySem.W.codeIn K cd_15 "_law_second" = true)
    (k_15 : PySem.W.keepIn K (.ref f_15) = true)
    (a_16 : PySem.W.nsIn K mainGlobals "_law_refused" = some (some (.ref f_16)))
    (l_16 : K.lookup f_16 = some ⟨oc_16, od_16, .func (PySem.W.fnOf "_law_refused" "_law_refused" (defArgs s_law_refused) (defBody s_law_refused) (defScope s_law_refused) .none kV_16 dc_16 pm_16 an_16 cd_16 ct_16), sl_16⟩)
    (c_16 : PySem.W.codeIn K cd_16 "_law_refused" = true)
    (k_16 : PySem.W.keepIn K (.ref f_16) = true)
    (a_17 : PySem.W.nsIn K mainGlobals "_law_tableau" = some (some (.ref f_17)))
    (l_17 : K.lookup f_17 = some ⟨oc_17, od_17, .func (PySem.W.fnOf "_law_tableau" "_law_tableau" (defArgs s_law_tableau) (defBody s_law_tableau) (defScope s_law_tableau) .none kV_17 dc_17 pm_17 an_17 cd_17 ct_17), sl_17⟩)
    (c_17 : PySem.W.codeIn K cd_17 "_law_tableau" = true)
    (k_17 : PySem.W.keepIn K (.ref f_17) = true)
    (a_18 : PySem.W.nsIn K mainGlobals "_law_renumbered" = some (some (.ref f_18)))
    (l_18 : K.lookup f_18 = some ⟨oc_18, od_18, .func (PySem.W.fnOf "_law_renumbered" "_law_renumbered" (defArgs s_law_renumbered) (defBody s_law_renumbered) (defScope s_law_renumbered) .none kV_18 dc_18 pm_18 an_18 cd_18 ct_18), sl_18⟩)
    (c_18 : PySem.W.codeIn K cd_18 "_law_renumbered" = true)
    (k_18 : PySem.W.keepIn K (.ref f_18) = true)
    (a_19 : PySem.W.nsIn K mainGlobals "_law_shorter" = some (some (.ref f_19)))
    (l_19 : K.lookup f_19 = some ⟨oc_19, od_19, .func (PySem.W.fnOf "_law_shorter" "_law_shorter" (defArgs s_law_shorter) (defBody s_law_shorter) (defScope s_law_shorter) .none kV_19 dc_19 pm_19 an_19 cd_19 ct_19), sl_19⟩)
    (c_19 : PySem.W.codeIn K cd_19 "_law_shorter" = true)
    (k_19 : PySem.W.keepIn K (.ref f_19) = true)
    (a_20 : PySem.W.nsIn K mainGlobals "_law_spoilt" = some (some (.ref f_20)))
    (l_20 : K.lookup f_20 = some ⟨oc_20, od_20, .func (PySem.W.fnOf "_law_spoilt" "_law_spoilt" (defArgs s_law_spoilt) (defBody s_law_spoilt) (defScope s_law_spoilt) .none kV_20 dc_20 pm_20 an_20 cd_20 ct_20), sl_20⟩)
    (c_20 : PySem.W.codeIn K cd_20 "_law_spoilt" = true)
    (k_20 : PySem.W.keepIn K (.ref f_20) = true)
    (a_21 : PySem.W.nsIn K mainGlobals "law" = some (some (.ref f_21)))
    (l_21 : K.lookup f_21 = some ⟨oc_21, od_21, .func (PySem.W.fnOf "law" "law" (defArgs s_law) (defBody s_law) (defScope s_law) .none kV_21 dc_21 pm_21 an_21 cd_21 ct_21), sl_21⟩)
    (c_21 : PySem.W.codeIn K cd_21 "law" = true)
    (k_21 : PySem.W.keepIn K (.ref f_21) = true)
    (z_int : PySem.W.nsIn K mainGlobals "int" = some none)
    (z_len : PySem.W.nsIn K mainGlobals "len" = some none)
    (z_range : PySem.W.nsIn K mainGlobals "range" = some none)
    (z_enumerate : PySem.W.nsIn K mainGlobals "enumerate" = some none)
    (z_list : PySem.W.nsIn K mainGlobals "list" = some none)
    (z_tuple : PySem.W.nsIn K mainGlobals "tuple" = some none)
    (z_sum : PySem.W.nsIn K mainGlobals "sum" = some none)
    (z_sorted : PySem.W.nsIn K mainGlobals "sorted" = some none)
    (z_ValueError : PySem.W.nsIn K mainGlobals "ValueError" = some none)
    (z_isinstance : PySem.W.nsIn K mainGlobals "isinstance" = some none)
    (z_LONGEST_WORD : PySem.W.nsIn K mainGlobals "LONGEST_WORD" = some (some (.int 60 t_LONGEST_WORD)))
    (xa_NoSuchRow : PySem.W.nsIn K mainGlobals "NoSuchRow" = some (some (.ref C_NoSuchRow)))
    (xk_NoSuchRow : PySem.W.keepIn K (.ref C_NoSuchRow) = true)
    (xhg_NoSuchRow : PySem.W.findIn K (.ref C_NoSuchRow) "__getattribute__" = some (some (.builtin "BaseException.__getattribute__")))
    (xhk_NoSuchRow : PySem.W.findIn K (.ref C_NoSuchRow) "__getattr__" = some none)
    (xhs_NoSuchRow : PySem.W.subIn K (.ref C_NoSuchRow) (.type "BaseException") = some true)
    (xhd_NoSuchRow : PySem.W.hasDictIn K C_NoSuchRow = true)
    (xha_NoSuchRow : PySem.W.findIn K (.ref C_NoSuchRow) "__class__" = some (some (.builtin "object.__class__")))
    (xhm_NoSuchRow : PySem.W.mroIn K C_NoSuchRow (.type "object") = some true)
    (xty_NoSuchRow : PySem.W.typeIn K (.ref C_NoSuchRow) = some (.type "type"))
    (xn_NoSuchRow : PySem.W.excIn K C_NoSuchRow veAll "ValueError.__new__" = true)
    (xa_NotAPair : PySem.W.nsIn K mainGlobals "NotAPair" = some (some (.ref C_NotAPair)))
    (xk_NotAPair : PySem.W.keepIn K (.ref C_NotAPair) = true)
    (xhg_NotAPair : PySem.W.findIn K (.ref C_NotAPair) "__getattribute__" = some (some (.builtin "BaseException.__getattribute__")))
    (xhk_NotAPair : PySem.W.findIn K (.ref C_NotAPair) "__getattr__" = some none)
    (xhs_NotAPair : PySem.W.subIn K (.ref C_NotAPair) (.type "BaseException") = some true)
    (xhd_NotAPair : PySem.W.hasDictIn K C_NotAPair = true)
    (xha_NotAPair : PySem.W.findIn K (.ref C_NotAPair) "__class__" = some (some (.builtin "object.__class__")))
    (xhm_NotAPair : PySem.W.mroIn K C_NotAPair (.type "object") = some true)
    (xty_NotAPair : PySem.W.typeIn K (.ref C_NotAPair) = some (.type "type"))
    (xn_NotAPair : PySem.W.excIn K C_NotAPair veAll "ValueError.__new__" = true)
    (xa_WalkhandsError : PySem.W.nsIn K mainGlobals "WalkhandsError" = some (some (.ref C_WalkhandsError)))
    (xk_WalkhandsError : PySem.W.keepIn K (.ref C_WalkhandsError) = true)
    (xhg_WalkhandsError : PySem.W.findIn K (.ref C_WalkhandsError) "__getattribute__" = some (some (.builtin "BaseException.__getattribute__")))
    (xhk_WalkhandsError : PySem.W.findIn K (.ref C_WalkhandsError) "__getattr__" = some none)
    (xhs_WalkhandsError : PySem.W.subIn K (.ref C_WalkhandsError) (.type "BaseException") = some true)
    (xhd_WalkhandsError : PySem.W.hasDictIn K C_WalkhandsError = true)
    (xha_WalkhandsError : PySem.W.findIn K (.ref C_WalkhandsError) "__class__" = some (some (.builtin "object.__class__")))
    (xhm_WalkhandsError : PySem.W.mroIn K C_WalkhandsError (.type "object") = some true)
    (xty_WalkhandsError : PySem.W.typeIn K (.ref C_WalkhandsError) = some (.type "type"))
    (xspec : PySem.W.specialIn K (.builtin "object.__class__") "__get__" = some (some (.builtin "getset_descriptor.__get__")))
    (xtakes : PySem.W.takesIn K (.builtin "object.__class__") = some true)
    (q_NotAPair_NoSuchRow : PySem.W.kitOne K (.ref C_NotAPair) (.ref C_NoSuchRow) = some false)
    (q_NotAPair_NotAPair : PySem.W.kitOne K (.ref C_NotAPair) (.ref C_NotAPair) = some true)
    (q_NotAPair_ValueError : PySem.W.kitOne K (.ref C_NotAPair) (.type "ValueError") = some true)
    (xs_NotAPair_WalkhandsError : PySem.W.subIn K (.ref C_NotAPair) (.ref C_WalkhandsError) = some true)
    : ∃ fd : FuncData, (∀ (s : Shared) (v : Value), BindsTo s fd ⟨[v], []⟩ [("script", v)]) ∧ ∀ base : Heap, K.In base → base.Ns mainGlobals mg → FnOk l.prog w K mg base CX0 7 fa fd ["script"] (spW K pre_law) := by
  have e := hfa.symm.trans (PySem.W.mg_of X G a_21)
  cases e
  refine ⟨PySem.W.fnOf "law" "law" (defArgs s_law) (defBody s_law) (defScope s_law) .none kV_21 dc_21 pm_21 an_21 cd_21 ct_21, fun s v => .of_eq rfl, fun base _ _ => ?_⟩
  have S_NoSuchRow : ExS K mg "NoSuchRow" C_NoSuchRow := ⟨PySem.W.mg_of X G xa_NoSuchRow, xk_NoSuchRow, ⟨xhg_NoSuchRow, xhk_NoSuchRow, xhs_NoSuchRow, xhd_NoSuchRow, xha_NoSuchRow, xspec, xtakes, xhm_NoSuchRow⟩, xty_NoSuchRow⟩
  have N_NoSuchRow : ExN K mg "NoSuchRow" C_NoSuchRow := ⟨S_NoSuchRow, xn_NoSuchRow⟩
  have S_NotAPair : ExS K mg "NotAPair" C_NotAPair := ⟨PySem.W.mg_of X G xa_NotAPair, xk_NotAPair, ⟨xhg_NotAPair, xhk_NotAPair, xhs_NotAPair, xhd_NotAPair, xha_NotAPair, xspec, xtakes, xhm_NotAPair⟩, xty_NotAPair⟩
  have N_NotAPair : ExN K mg "NotAPair" C_NotAPair := ⟨S_NotAPair, xn_NotAPair⟩
  have S_WalkhandsError : ExS K mg "WalkhandsError" C_WalkhandsError := ⟨PySem.W.mg_of X G xa_WalkhandsError, xk_WalkhandsError, ⟨xhg_WalkhandsError, xhk_WalkhandsError, xhs_WalkhandsError, xhd_WalkhandsError, xha_WalkhandsError, xspec, xtakes, xhm_WalkhandsError⟩, xty_WalkhandsError⟩
  have e_NotAPair_WalkhandsError := S_WalkhandsError.exm xs_NotAPair_WalkhandsError
  have K_law_draw := ok_law_draw (P := l.prog) (w := w) (base := base) ⟨_, _, fun_mk (st := s_law_draw) l_0 c_0 k_0, PySem.W.mg_of X G a_0⟩ (PySem.W.mg_none_of X G z_int) (PySem.W.mg_none_of X G z_len)
  have K_law_take := ok_law_take (P := l.prog) (w := w) (base := base) ⟨_, _, fun_mk (st := s_law_take) l_1 c_1 k_1, PySem.W.mg_of X G a_1⟩ K_law_draw
  have K_law_word := ok_law_word (P := l.prog) (w := w) (base := base) ⟨_, _, fun_mk (st := s_law_word) l_2 c_2 k_2, PySem.W.mg_of X G a_2⟩ K_law_take (PySem.W.mg_none_of X G z_range)
  have K_first_greater := ok_first_greater (P := l.prog) (w := w) (base := base) ⟨_, _, fun_mk (st := s_first_greater) l_3 c_3 k_3, PySem.W.mg_of X G a_3⟩ (PySem.W.mg_none_of X G z_len)
  have K_inserted := ok_inserted (P := l.prog) (w := w) (base := base) ⟨_, _, fun_mk (st := s_inserted) l_4 c_4 k_4, PySem.W.mg_of X G a_4⟩ K_first_greater (PySem.W.mg_none_of X G z_enumerate) (PySem.W.mg_none_of X G z_len) (PySem.W.mg_none_of X G z_list) (PySem.W.mg_none_of X G z_tuple)
  have K_one_longer := ok_one_longer (P := l.prog) (w := w) (base := base) ⟨_, _, fun_mk (st := s_one_longer) l_5 c_5 k_5, PySem.W.mg_of X G a_5⟩ (PySem.W.mg_none_of X G z_len)
  have K_pair_of := ok_pair_of (P := l.prog) (w := w) (base := base) ⟨_, _, fun_mk (st := s_pair_of) l_6 c_6 k_6, PySem.W.mg_of X G a_6⟩ K_inserted K_one_longer (PySem.W.mg_none_of X G z_enumerate)
  have K_size := ok_size (P := l.prog) (w := w) (base := base) ⟨_, _, fun_mk (st := s_size) l_7 c_7 k_7, PySem.W.mg_of X G a_7⟩ (PySem.W.mg_none_of X G z_len) (PySem.W.mg_none_of X G z_sum)
  have K_shape := ok_shape (P := l.prog) (w := w) (base := base) ⟨_, _, fun_mk (st := s_shape) l_8 c_8 k_8, PySem.W.mg_of X G a_8⟩ (PySem.W.mg_none_of X G z_len) (PySem.W.mg_none_of X G z_tuple)
  have K_last_less := ok_last_less (P := l.prog) (w := w) (base := base) ⟨_, _, fun_mk (st := s_last_less) l_9 c_9 k_9, PySem.W.mg_of X G a_9⟩ (PySem.W.mg_none_of X G z_len)
  have K_take_out := ok_take_out (P := l.prog) (w := w) (base := base) ⟨_, _, fun_mk (st := s_take_out) l_10 c_10 k_10, PySem.W.mg_of X G a_10⟩ K_last_less (PySem.W.mg_none_of X G z_len) (PySem.W.mg_none_of X G z_list) (PySem.W.mg_none_of X G z_range) (PySem.W.mg_none_of X G z_tuple) N_NoSuchRow
  have K_word_of := ok_word_of (P := l.prog) (w := w) (base := base) ⟨_, _, fun_mk (st := s_word_of) l_11 c_11 k_11, PySem.W.mg_of X G a_11⟩ K_size K_shape K_take_out (PySem.W.mg_none_of X G z_enumerate) (PySem.W.mg_none_of X G z_list) (PySem.W.mg_none_of X G z_range) (PySem.W.mg_none_of X G z_sorted) N_NotAPair (PySem.W.mg_of X G z_LONGEST_WORD)
  have K_law_tape := ok_law_tape (P := l.prog) (w := w) (base := base) ⟨_, _, fun_mk (st := s_law_tape) l_12 c_12 k_12, PySem.W.mg_of X G a_12⟩ (PySem.W.mg_none_of X G z_int) (PySem.W.mg_none_of X G z_range)
  have K_law_put := ok_law_put (P := l.prog) (w := w) (base := base) ⟨_, _, fun_mk (st := s_law_put) l_13 c_13 k_13, PySem.W.mg_of X G a_13⟩ (PySem.W.mg_none_of X G z_len) (PySem.W.mg_none_of X G z_range)
  have K_law_made := ok_law_made (P := l.prog) (w := w) (base := base) ⟨_, _, fun_mk (st := s_law_made) l_14 c_14 k_14, PySem.W.mg_of X G a_14⟩ K_law_put (PySem.W.mg_none_of X G z_tuple)
  have K_law_second := ok_law_second (P := l.prog) (w := w) (base := base) ⟨_, _, fun_mk (st := s_law_second) l_15 c_15 k_15, PySem.W.mg_of X G a_15⟩ K_law_take (PySem.W.mg_none_of X G z_len) (PySem.W.mg_none_of X G z_range) (PySem.W.mg_none_of X G z_sum) (PySem.W.mg_none_of X G z_tuple)
  have K_law_refused := ok_law_refused (P := l.prog) (w := w) (base := base) ⟨_, _, fun_mk (st := s_law_refused) l_16 c_16 k_16, PySem.W.mg_of X G a_16⟩ K_word_of (PySem.W.mg_none_of X G z_ValueError) (PySem.W.mg_none_of X G z_isinstance) S_NoSuchRow S_NotAPair S_WalkhandsError q_NotAPair_NotAPair q_NotAPair_ValueError q_NotAPair_NoSuchRow e_NotAPair_WalkhandsError
  have K_law_tableau := ok_law_tableau (P := l.prog) (w := w) (base := base) ⟨_, _, fun_mk (st := s_law_tableau) l_17 c_17 k_17, PySem.W.mg_of X G a_17⟩ (PySem.W.mg_none_of X G z_len) (PySem.W.mg_none_of X G z_range)
  have K_law_renumbered := ok_law_renumbered (P := l.prog) (w := w) (base := base) ⟨_, _, fun_mk (st := s_law_renumbered) l_18 c_18 k_18, PySem.W.mg_of X G a_18⟩ K_law_take K_law_refused K_law_tableau (PySem.W.mg_none_of X G z_int) (PySem.W.mg_none_of X G z_len) (PySem.W.mg_none_of X G z_sum) (PySem.W.mg_none_of X G z_tuple)
  have K_law_shorter := ok_law_shorter (P := l.prog) (w := w) (base := base) ⟨_, _, fun_mk (st := s_law_shorter) l_19 c_19 k_19, PySem.W.mg_of X G a_19⟩ K_law_take K_law_refused (PySem.W.mg_none_of X G z_len) (PySem.W.mg_none_of X G z_range)
  have K_law_spoilt := ok_law_spoilt (P := l.prog) (w := w) (base := base) ⟨_, _, fun_mk (st := s_law_spoilt) l_20 c_20 k_20, PySem.W.mg_of X G a_20⟩ K_law_take K_law_refused K_law_renumbered K_law_shorter
  have K_law := ok_law (P := l.prog) (w := w) (base := base) ⟨_, _, fun_mk (st := s_law) l_21 c_21 k_21, PySem.W.mg_of X G a_21⟩ K_law_take K_law_word K_pair_of K_word_of K_law_tape K_law_made K_law_second K_law_spoilt (PySem.W.mg_none_of X G z_isinstance) (PySem.W.mg_none_of X G z_len) (PySem.W.mg_none_of X G z_list) (PySem.W.mg_none_of X G z_range) (PySem.W.mg_none_of X G z_sum)
  exact callee_law K_law (PySem.W.mg_of X G a_21) (fun_mk (st := s_law) l_21 c_21 k_21)
end LW
open PySem PySem.W PyProof.Rows
set_option maxHeartbeats 0 in
theorem PySem.Challenge.cw_walkhands_k20_whole_words_and_pairs_holds : PySem.Challenge.rw_walkhands_k20_whole_words_and_pairs.Holds := by
  w_on; o_law; k_head; (case hw => w_witness2)
  k_fill
  refine L2.walk_of (l := PySem.Challenge.rw_walkhands_k20_whole_words_and_pairs) (n := 63) (k := 7) (x := "script") (CX := fun _ => L2.CX0) (sp := fun w => Wk.spW _ LW.pre_law) rfl (by decide) rfl ⟨rfl, by decide, by decide⟩ (fun w h Y => PySem.W.kIn_of Y) ?F (fun _ H a ns hl ho hS => Wk.law_start hS (LW.law_pre hl)) (fun _ _ _ _ _ h => h)
  case F =>
    intro w mg fa h KX G hmg
    refine' LW.all_mk KX G hmg ?a_0 ?l_0 ?c_0 ?k_0 ?a_1 ?l_1 ?c_1 ?k_1 ?a_2 ?l_2 ?c_2 ?k_2 ?a_3 ?l_3 ?c_3 ?k_3 ?a_4 ?l_4 ?c_4 ?k_4 ?a_5 ?l_5 ?c_5 ?k_5 ?a_6 ?l_6 ?c_6 ?k_6 ?a_7 ?l_7 ?c_7 ?k_7 ?a_8 ?l_8 ?c_8 ?k_8 ?a_9 ?l_9 ?c_9 ?k_9 ?a_10 ?l_10 ?c_10 ?k_10 ?a_11 ?l_11 ?c_11 ?k_11 ?a_12 ?l_12 ?c_12 ?k_12 ?a_13 ?l_13 ?c_13 ?k_13 ?a_14 ?l_14 ?c_14 ?k_14 ?a_15 ?l_15 ?c_15 ?k_15 ?a_16 ?l_16 ?c_16 ?k_16 ?a_17 ?l_17 ?c_17 ?k_17 ?a_18 ?l_18 ?c_18 ?k_18 ?a_19 ?l_19 ?c_19 ?k_19 ?a_20 ?l_20 ?c_20 ?k_20 ?a_21 ?l_21 ?c_21 ?k_21 ?z_int ?z_len ?z_range ?z_enumerate ?z_list ?z_tuple ?z_sum ?z_sorted ?z_ValueError ?z_isinstance ?z_LONGEST_WORD ?xa_NoSuchRow ?xk_NoSuchRow ?xhg_NoSuchRow ?xhk_NoSuchRow ?xhs_NoSuchRow ?xhd_NoSuchRow ?xha_NoSuchRow ?xhm_NoSuchRow ?xty_NoSuchRow ?xn_NoSuchRow ?xa_NotAPair ?xk_NotAPair ?xhg_NotAPair ?xhk_NotAPair ?xhs_NotAPair ?xhd_NotAPair ?xha_NotAPair ?xhm_NotAPair ?xty_NotAPair ?xn_NotAPair ?xa_WalkhandsError ?xk_WalkhandsError ?xhg_WalkhandsError ?xhk_WalkhandsError ?xhs_WalkhandsError ?xhd_WalkhandsError ?xha_WalkhandsError ?xhm_WalkhandsError ?xty_WalkhandsError ?xspec ?xtakes ?q_NotAPair_NoSuchRow ?q_NotAPair_NotAPair ?q_NotAPair_ValueError ?xs_NotAPair_WalkhandsError
    (case a_0 => k_is); (case l_0 => k_is); (case c_0 => k_is); (case k_0 => k_is); (case a_1 => k_is); (case l_1 => k_is); (case c_1 => k_is); (case k_1 => k_is); (case a_2 => k_is); (case l_2 => k_is); (case c_2 => k_is); (case k_2 => k_is); (case a_3 => k_is); (case l_3 => k_is); (case c_3 => k_is); (case k_3 => k_is); (case a_4 => k_is); (case l_4 => k_is); (case c_4 => k_is); (case k_4 => k_is); (case a_5 => k_is); (case l_5 => k_is); (case c_5 => k_is); (case k_5 => k_is); (case a_6 => k_is); (case l_6 => k_is); (case c_6 => k_is); (case k_6 => k_is); (case a_7 => k_is); (case l_7 => k_is); (case c_7 => k_is); (case k_7 => k_is); (case a_8 => k_is); (case l_8 => k_is); (case c_8 => k_is); (case k_8 => k_is); (case a_9 => k_is); (case l_9 => k_is); (case c_9 => k_is); (case k_9 => k_is); (case a_10 => k_is); (case l_10 => k_is); (case c_10 => k_is); (case k_10 => k_is); (case a_11 => k_is); (case l_11 => k_is); (case c_11 => k_is); (case k_11 => k_is); (case a_12 => k_is); (case l_12 => k_is); (case c_12 => k_is); (case k_12 => k_is); (case a_13 => k_is); (case l_13 => k_is); (case c_13 => k_is); (case k_13 => k_is); (case a_14 => k_is); (case l_14 => k_is); (case c_14 => k_is); (case k_14 => k_is); (case a_15 => k_is); (case l_15 => k_is); (case c_15 => k_is); (case k_15 => k_is); (case a_16 => k_is); (case l_16 => k_is); (case c_16 => k_is); (case k_16 => k_is); (case a_17 => k_is); (case l_17 => k_is); (case c_17 => k_is); (case k_17 => k_is); (case a_18 => k_is); (case l_18 => k_is); (case c_18 => k_is); (case k_18 => k_is); (case a_19 => k_is); (case l_19 => k_is); (case c_19 => k_is); (case k_19 => k_is); (case a_20 => k_is); (case l_20 => k_is); (case c_20 => k_is); (case k_20 => k_is); (case a_21 => k_is); (case l_21 => k_is); (case c_21 => k_is); (case k_21 => k_is); (case z_int => k_is); (case z_len => k_is); (case z_range => k_is); (case z_enumerate => k_is); (case z_list => k_is); (case z_tuple => k_is); (case z_sum => k_is); (case z_sorted => k_is); (case z_ValueError => k_is); (case z_isinstance => k_is); (case z_LONGEST_WORD => k_is); (case xa_NoSuchRow => k_is); (case xk_NoSuchRow => k_is); (case xhg_NoSuchRow => k_is); (case xhk_NoSuchRow => k_is); (case xhs_NoSuchRow => k_is); (case xhd_NoSuchRow => k_is); (case xha_NoSuchRow => k_is); (case xhm_NoSuchRow => k_is); (case xty_NoSuchRow => k_is); (case xn_NoSuchRow => k_exc); (case xa_NotAPair => k_is); (case xk_NotAPair => k_is); (case xhg_NotAPair => k_is); (case xhk_NotAPair => k_is); (case xhs_NotAPair => k_is); (case xhd_NotAPair => k_is); (case xha_NotAPair => k_is); (case xhm_NotAPair => k_is); (case xty_NotAPair => k_is); (case xn_NotAPair => k_exc); (case xa_WalkhandsError => k_is); (case xk_WalkhandsError => k_is); (case xhg_WalkhandsError => k_is); (case xhk_WalkhandsError => k_is); (case xhs_WalkhandsError => k_is); (case xhd_WalkhandsError => k_is); (case xha_WalkhandsError => k_is); (case xhm_WalkhandsError => k_is); (case xty_WalkhandsError => k_is); (case xspec => k_is); (case xtakes => k_is); (case q_NotAPair_NoSuchRow => first | kit_is | k_is); (case q_NotAPair_NotAPair => first | kit_is | k_is); (case q_NotAPair_ValueError => first | kit_is | k_is); (case xs_NotAPair_WalkhandsError => first | rfl | k_is)
