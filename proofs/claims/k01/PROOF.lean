import PyProof.Rows.All
import Wide.All
import OpenK.AllK
import Wide.FinOn
import HandS.ForMost
import HandS.Exc
import HandS.TryOnly
import HandS.WordsExc
import HandS.ExcInit
import HandS.ExcField
import HandS.ExcIs
import HandS.IsInst
import HandS.Gcd
import HandS.Wide
import HandS.SortInts
import HandS.Flow
import HandS.Rev
import HandS.ExcOwn
import KE.KExcIs
import HandS.TupAny
import HandS.TupMul
import HandS.More
import HandS.Deep
import PyProof.Rows.SeqMore
import PyProof.AutoListH
import HandS.HeadHook4
import KE.DataMinMax
import HandS.TupSets
import HandS.Head0
import HandS.Head1
import HandS.Head2
import HandS.HeadEnd
import HandS.Head3
import PyProof.TupleOfSeq
import HandS.Style
import KE.GoesEnum
import HandS.ExcCtx
import HandS.HotCalls
import PySem.Challenge.RW_threadsround_k01_whole_quotients_and_row
set_option Elab.async false
set_option linter.all false
set_option maxRecDepth 100000
set_option maxHeartbeats 2000000
/-! Pu: a layer over HandS. Tuples and lists that stand still are values (PyData); a list or dict that a def changes is held by one slot (OO). A def's body becomes a plain function on its slots. -/
namespace Pu
open PySem PySem.Spec L2

abbrev D := PyData
/-- what a slot holds by itself and may change -/
inductive OO where
  | lst (ds : List D)
  | dk (kvs : List (Key × D))
inductive LV where
  | d (x : D)
  | o (x : OO)
  | e (fs : List (Str × D))
abbrev Loc := List (Option LV)
/-- an error: its class by name, its fields, the last set first -/
structure Ex where
  c : String
  fs : List (Str × D)

/-! ### heaps -/
def hide (S : List Addr) (H : Hp) : Hp := fun a => if a ∈ S then none else H a
theorem hide_in {S : List Addr} {H : Hp} {a : Addr} (h : a ∈ S) : hide S H a = none := if_pos h
theorem hide_out {S : List Addr} {H : Hp} {a : Addr} (h : a ∉ S) : hide S H a = H a := if_neg h
theorem hide_some {S : List Addr} {H : Hp} {a : Addr} {o : HO} (h : hide S H a = some o) : a ∉ S ∧ H a = some o := by
  by_cases c : a ∈ S
  · rw [hide_in c] at h; cases h
  · exact ⟨c, by rw [hide_out c] at h; exact h⟩
theorem hide_mk {S : List Addr} {H : Hp} {a : Addr} {o : HO} (h : a ∉ S) (e : H a = some o) : hide S H a = some o := by rw [hide_out h]; exact e

theorem same_sqL {K : PySem.W.Frag} {H H' : Hp} {a : Addr} {xs : List V} (e : Same H H') (h : SqL K H a xs) : SqL K H' a xs := e.seq h
theorem same_sqT {K : PySem.W.Frag} {H H' : Hp} {a : Addr} {xs : List V} (e : Same H H') (h : SqT K H a xs) : SqT K H' a xs := by
  rcases h with (h | ⟨o, h⟩) | h
  · exact .inl (.inl (e _ _ h))
  · exact .inl (.inr ⟨o, e _ _ h⟩)
  · exact .inr h
mutual
theorem dp_mono {K : PySem.W.Frag} {H H' : Hp} (e : Same H H') : ∀ {v : V} {d : D}, Dp K H v d → Dp K H' v d
  | _, _, .non => .non
  | _, _, .bl b => .bl b
  | _, _, .int i => .int i
  | _, _, .str x => .str x
  | _, _, .lst h r => .lst (same_sqL e h) (dps_mono e r)
  | _, _, .tup h r => .tup (same_sqT e h) (dps_mono e r)
theorem dps_mono {K : PySem.W.Frag} {H H' : Hp} (e : Same H H') : ∀ {vs : List V} {ds : List D}, DpAll K H vs ds → DpAll K H' vs ds
  | _, _, .nil => .nil
  | _, _, .cons h t => .cons (dp_mono e h) (dps_mono e t)
end
end Pu
namespace L2
open PySem
section
variable {K : PySem.W.Frag} {H : Hp}
theorem DpAll.length : ∀ {vs : List V} {ds : List PyData}, DpAll K H vs ds → vs.length = ds.length
  | _, _, .nil => rfl
  | _, _, .cons _ t => by rw [List.length_cons, List.length_cons, DpAll.length t]
theorem DpAll.get : ∀ {vs : List V} {ds : List PyData} {i : Nat} {d : PyData}, DpAll K H vs ds → ds[i]? = some d → ∃ v, vs[i]? = some v ∧ Dp K H v d
  | _, _, _, _, .nil, e => by simp at e
  | _, _, 0, _, .cons h _, e => by
    have e := Option.some.inj e
    subst e
    exact ⟨_, rfl, h⟩
  | _, _, i + 1, d, .cons _ t, e => DpAll.get (i := i) t (by simpa using e)
theorem DpAll.getV : ∀ {vs : List V} {ds : List PyData} {i : Nat} {v : V}, DpAll K H vs ds → vs[i]? = some v → ∃ d, ds[i]? = some d ∧ Dp K H v d
  | _, _, _, _, .nil, e => by simp at e
  | _, _, 0, _, .cons h _, e => by
    have e := Option.some.inj e
    subst e
    exact ⟨_, rfl, h⟩
  | _, _, i + 1, d, .cons _ t, e => DpAll.getV (i := i) t (by simpa using e)
theorem DpAll.append : ∀ {vs us : List V} {ds es : List PyData}, DpAll K H vs ds → DpAll K H us es → DpAll K H (vs ++ us) (ds ++ es)
  | _, _, _, _, .nil, s => s
  | _, _, _, _, .cons h t, s => .cons h (DpAll.append t s)
theorem DpAll.set : ∀ {vs : List V} {ds : List PyData} {v : V} {d : PyData} (i : Nat), DpAll K H vs ds → Dp K H v d → DpAll K H (vs.set i v) (ds.set i d)
  | _, _, _, _, _, .nil, _ => .nil
  | _, _, _, _, 0, .cons _ t, h => .cons h t
  | _, _, _, _, i + 1, .cons q t, h => .cons q (DpAll.set i t h)
theorem DpAll.take : ∀ {vs : List V} {ds : List PyData} (n : Nat), DpAll K H vs ds → DpAll K H (vs.take n) (ds.take n)
  | _, _, 0, _ => .nil
  | _, _, _ + 1, .nil => .nil
  | _, _, n + 1, .cons r t => .cons r (DpAll.take n t)
theorem DpAll.drop : ∀ {vs : List V} {ds : List PyData} (n : Nat), DpAll K H vs ds → DpAll K H (vs.drop n) (ds.drop n)
  | _, _, 0, r => r
  | _, _, _ + 1, .nil => .nil
  | _, _, n + 1, .cons _ t => DpAll.drop n t
theorem DpAll.one {v : V} {d : PyData} (h : Dp K H v d) : DpAll K H [v] [d] := .cons h .nil
theorem DpAll.rep {v : V} {d : PyData} (h : Dp K H v d) : ∀ n, DpAll K H (List.replicate n v) (List.replicate n d)
  | 0 => .nil
  | n + 1 => .cons h (DpAll.rep h n)
theorem DpAll.reverse : ∀ {vs : List V} {ds : List PyData}, DpAll K H vs ds → DpAll K H vs.reverse ds.reverse
  | _, _, .nil => .nil
  | _, _, .cons h t => by
    rw [List.reverse_cons, List.reverse_cons]
    exact (DpAll.reverse t).append (.one h)
theorem DpAll.eraseIdx : ∀ {vs : List V} {ds : List PyData} (i : Nat), DpAll K H vs ds → DpAll K H (vs.eraseIdx i) (ds.eraseIdx i)
  | _, _, _, .nil => .nil
  | _, _, 0, .cons _ t => t
  | _, _, i + 1, .cons q t => .cons q (DpAll.eraseIdx i t)
/-- the ints of a list of ints -/
theorem DpAll.ints : ∀ {vs : List V} {ns : List Int}, DpAll K H vs (ns.map PyData.int) → vs = ns.map V.int
  | [], [], _ => rfl
  | _ :: _, [], h => by cases h
  | [], _ :: _, h => by cases h
  | _ :: _, _ :: _, h => by
    cases h with
    | cons h t => cases h; rw [DpAll.ints t]; rfl
theorem DpAll.of_ints : ∀ (ns : List Int), DpAll K H (ns.map V.int) (ns.map PyData.int)
  | [] => .nil
  | _ :: r => .cons (.int _) (DpAll.of_ints r)
theorem Dp.int_inv {v : V} {i : Int} (h : Dp K H v (.int i)) : v = .int i := by cases h; rfl
theorem Dp.bl_inv {v : V} {i : Bool} (h : Dp K H v (.bool i)) : v = .bl i := by cases h; rfl
theorem Dp.str_inv {v : V} {i : Str} (h : Dp K H v (.str i)) : v = .str i := by cases h; rfl
theorem Dp.non_inv {v : V} (h : Dp K H v .none) : v = .non := by cases h; rfl
theorem Dp.tup_inv {v : V} {ds : List PyData} (h : Dp K H v (.tuple ds)) : ∃ a vs, v = .ref a ∧ SqT K H a vs ∧ DpAll K H vs ds := by
  cases h with
  | tup h r => exact ⟨_, _, rfl, h, r⟩
theorem Dp.lst_inv {v : V} {ds : List PyData} (h : Dp K H v (.list ds)) : ∃ a vs, v = .ref a ∧ SqL K H a vs ∧ DpAll K H vs ds := by
  cases h with
  | lst h r => exact ⟨_, _, rfl, h, r⟩
end

end L2
namespace Pu
open PySem PySem.Spec L2
/-! ### the state -/
def OwnAt (K : PySem.W.Frag) (G : Hp) (H : Hp) (a : Addr) : OO → Prop
  | .lst ds => ∃ vs, H a = some (.lst vs) ∧ DpAll K G vs ds
  | .dk kvs => ∃ vs, H a = some (.dK vs) ∧ Paired (fun (p : Key × V) (q : Key × D) => p.1 = q.1 ∧ Dp K G p.2 q.2) vs kvs
theorem OwnAt.there {K : PySem.W.Frag} {G H : Hp} {a : Addr} {o : OO} (h : OwnAt K G H a o) : ∃ u, H a = some u := by
  cases o with
  | lst ds => obtain ⟨vs, e, _⟩ := h; exact ⟨_, e⟩
  | dk kvs => obtain ⟨vs, e, _⟩ := h; exact ⟨_, e⟩
theorem OwnAt.mono {K : PySem.W.Frag} {G G' H H' : Hp} {a : Addr} {o : OO} (h : OwnAt K G H a o) (e : Same G G') (ea : H' a = H a) : OwnAt K G' H' a o := by
  cases o with
  | lst ds => obtain ⟨vs, q, r⟩ := h; exact ⟨vs, ea.trans q, dps_mono e r⟩
  | dk kvs => obtain ⟨vs, q, r⟩ := h; exact ⟨vs, ea.trans q, Paired.mapP r fun _ _ z => ⟨z.1, dp_mono e z.2⟩⟩

def FsOk (K : PySem.W.Frag) (G : Hp) : List (Str × V) → List (Str × D) → Prop := Paired fun (p : Str × V) (q : Str × D) => p.1 = q.1 ∧ Dp K G p.2 q.2
theorem FsOk.mono {K : PySem.W.Frag} {G G' : Hp} {a : List (Str × V)} {b : List (Str × D)} (h : FsOk K G a b) (e : Same G G') : FsOk K G' a b := Paired.mapP h fun _ _ z => ⟨z.1, dp_mono e z.2⟩
/-- an error that an except clause holds: its slot, its address, its dict, its fields -/
structure Xe where
  i : Nat
  a : Addr
  d : Addr
  fs : List (Str × D)
/-- slots that stay what they are: parameters that are changed for the caller, errors that are held -/
structure Bx where
  r : List (Nat × Addr)
  e : List Xe
/-- what is known of these ahead: the slots, and the errors' places -/
structure Bs where
  ids : List Nat
  xs : List (Nat × Addr × Addr)
def Bx.ids (B : Bx) : List Nat := B.r.map (·.1) ++ B.e.map (·.i)
def Bx.is (B : Bx) (bs : Bs) : Prop := B.ids = bs.ids ∧ B.e.map (fun q => (q.i, q.a, q.d)) = bs.xs
theorem Bx.inr {B : Bx} {p : Nat × Addr} (h : p ∈ B.r) : p.1 ∈ B.ids := List.mem_append_left _ (List.mem_map_of_mem h)
theorem Bx.ine {B : Bx} {q : Xe} (h : q ∈ B.e) : q.i ∈ B.ids := List.mem_append_right _ (List.mem_map_of_mem h)
/-- the slots: σ of this layer, y of HandS. O: what this def's slots hold by themselves (and more), C: what its callers' do, B: the parameters that are changed for the caller -/
structure R (K : PySem.W.Frag) (C : List Addr) (B : Bx) (O : List Addr) (σ : Loc) (y : St) (H : Hp) : Prop where
  len : σ.length = y.length
  dat : ∀ (i : Nat) (x : D), σ[i]? = some (some (.d x)) → ∃ v, y[i]? = some (some v) ∧ Dp K (hide (O ++ C) H) v x
  own : ∀ (i : Nat) (x : OO), σ[i]? = some (some (.o x)) → ∃ a, y[i]? = some (some (.ref a)) ∧ a ∈ O ∧ OwnAt K (hide (O ++ C) H) H a x
  inj : ∀ (i j : Nat) (x z : OO) (a : Addr), σ[i]? = some (some (.o x)) → σ[j]? = some (some (.o z)) → y[i]? = some (some (.ref a)) → y[j]? = some (some (.ref a)) → i = j
  pin : ∀ p ∈ B.r, y[p.1]? = some (some (.ref p.2))
  trk : ∀ a, a ∈ O ∨ a ∈ C → ∃ o, H a = some o
  bin : ∀ p ∈ B.r, p.2 ∈ O
  dis : ∀ a ∈ O, a ∉ C
  pinO : ∀ p ∈ B.r, ∀ (i : Nat) (x : OO), σ[i]? = some (some (.o x)) → y[i]? = some (some (.ref p.2)) → i = p.1
  exc : ∀ q ∈ B.e, y[q.i]? = some (some (.ref q.a)) ∧ ∃ fsv, hide (O ++ C) H q.d = some (.xd fsv) ∧ FsOk K (hide (O ++ C) H) fsv q.fs
  exl : ∀ (i : Nat) (fs : List (Str × D)), σ[i]? = some (some (.e fs)) → ∃ q ∈ B.e, q.i = i ∧ q.fs = fs
theorem R.excK0 : True := trivial
theorem R.excK {K : PySem.W.Frag} {C O O' C' : List Addr} {B : Bx} {σ : Loc} {y : St} {H H' : Hp} (r : R K C B O σ y H) (hv : Same (hide (O ++ C) H) (hide (O' ++ C') H')) : ∀ q ∈ B.e, y[q.i]? = some (some (.ref q.a)) ∧ ∃ fsv, hide (O' ++ C') H' q.d = some (.xd fsv) ∧ FsOk K (hide (O' ++ C') H') fsv q.fs := fun q hq => by
  obtain ⟨e1, fsv, e2, e3⟩ := r.exc q hq
  exact ⟨e1, fsv, hv _ _ e2, e3.mono hv⟩

structure Fr (O : List Addr) (H : Hp) (O' : List Addr) (H' : Hp) : Prop where
  ext : ∀ a o, a ∉ O → H a = some o → a ∉ O' ∧ H' a = some o
  new : ∀ a ∈ O', a ∈ O ∨ H a = none
  there : ∀ a o, H a = some o → ∃ o', H' a = some o'
section
variable {O O1 O2 C : List Addr} {H H1 H2 : Hp} {K : PySem.W.Frag} {B : Bx} {σ : Loc} {y : St}
theorem Fr.refl : Fr O H O H := ⟨fun _ _ n e => ⟨n, e⟩, fun _ h => .inl h, fun _ o e => ⟨o, e⟩⟩
theorem Fr.trans (a : Fr O H O1 H1) (b : Fr O1 H1 O2 H2) : Fr O H O2 H2 := by
  refine ⟨fun x o n e => ?_, fun x hx => ?_, fun x o e => ?_⟩
  · obtain ⟨n1, e1⟩ := a.ext x o n e
    exact b.ext x o n1 e1
  · rcases b.new x hx with h | h
    · exact a.new x h
    · refine .inr ?_
      cases q : H x with
      | none => rfl
      | some o =>
        obtain ⟨o', e'⟩ := a.there x o q
        rw [h] at e'; cases e'
  · obtain ⟨o1, e1⟩ := a.there x o e
    exact b.there x o1 e1
theorem Fr.vis (f : Fr O H O1 H1) : Same (hide (O ++ C) H) (hide (O1 ++ C) H1) := fun a o e => by
  obtain ⟨n, q⟩ := hide_some e
  rw [List.mem_append] at n
  obtain ⟨n1, q1⟩ := f.ext a o (fun z => n (.inl z)) q
  exact hide_mk (by rw [List.mem_append]; rintro (z | z); exact n1 z; exact n (.inr z)) q1
theorem Fr.free (f : Fr O H O1 H1) {p : Addr} (h : H1 p = none) : H p = none := by
  cases q : H p with
  | none => rfl
  | some o => obtain ⟨o', e⟩ := f.there p o q; rw [h] at e; cases e
/-- an object that nobody knew is laid (it stands still) -/
theorem Fr.laid {p : Addr} {o : HO} (h : H p = none) (hp : p ∉ O) : Fr O H O (upd H p o) :=
  ⟨fun a u n e => ⟨n, by rw [upd_ne (ne_of_none e h)]; exact e⟩, fun a z => .inl z, fun a u e => ⟨u, by rw [upd_ne (ne_of_none e h)]; exact e⟩⟩
theorem same_upd {p : Addr} {o : HO} (h : H p = none) : Same H (upd H p o) := fun a u e => by rw [upd_ne (ne_of_none e h)]; exact e
/-- a state as it stands in an extended heap in which the own objects are as they were -/
theorem R.ext (r : R K C B O σ y H) (f : Fr O H O1 H1) (ho : ∀ a ∈ O, a ∈ O1 ∧ H1 a = H a) (ht : ∀ a ∈ O1, H a = none → ∃ o, H1 a = some o) : R K C B O1 σ y H1 := by
  refine ⟨r.len, fun i x e => ?_, fun i x e => ?_, r.inj, fun p hp => ?_, fun a ha => ?_, fun p hp => ?_, fun a ha z => ?_, r.pinO, r.excK f.vis, r.exl⟩
  · obtain ⟨v, e1, e2⟩ := r.dat i x e
    exact ⟨v, e1, dp_mono f.vis e2⟩
  · obtain ⟨a, e1, e2, e3⟩ := r.own i x e
    obtain ⟨h1, h2⟩ := ho a e2
    exact ⟨a, e1, h1, e3.mono f.vis h2⟩
  · exact r.pin p hp
  · rcases ha with ha | ha
    · rcases f.new a ha with h | h
      · obtain ⟨o, e⟩ := r.trk a (.inl h)
        exact f.there a o e
      · exact ht a ha h
    · obtain ⟨o, e⟩ := r.trk a (.inr ha)
      exact f.there a o e
  · exact (ho _ (r.bin p hp)).1
  · rcases f.new a ha with h | h
    · exact r.dis a h z
    · obtain ⟨o, e⟩ := r.trk a (.inr z)
      rw [h] at e; cases e
/-- own objects are tracked: a fresh address is no slot's -/
theorem R.fresh (r : R K C B O σ y H) {p : Addr} (h : H p = none) : ∀ (i : Nat) (x : OO), σ[i]? = some (some (.o x)) → y[i]? ≠ some (some (.ref p)) := fun i x e z => by
  obtain ⟨a, e1, _, e3⟩ := r.own i x e
  rw [e1] at z
  have z := V.ref.inj (Option.some.inj (Option.some.inj z))
  subst z
  obtain ⟨u, hu⟩ := e3.there
  rw [h] at hu; cases hu
theorem R.nin (r : R K C B O σ y H) {p : Addr} (h : H p = none) : p ∉ O ∧ p ∉ C :=
  ⟨fun z => (by obtain ⟨o, e⟩ := r.trk p (.inl z); rw [h] at e; cases e), fun z => (by obtain ⟨o, e⟩ := r.trk p (.inr z); rw [h] at e; cases e)⟩
theorem R.freshB (r : R K C B O σ y H) {p : Addr} (h : H p = none) : ∀ q ∈ B.r, q.2 ≠ p := fun q hq z => (r.nin h).1 (z ▸ r.bin q hq)
/-- a new object that stands still -/
theorem R.laid (r : R K C B O σ y H) {p : Addr} {o : HO} (h : H p = none) : R K C B O σ y (upd H p o) ∧ Fr O H O (upd H p o) := by
  have f : Fr O H O (upd H p o) := Fr.laid h (r.nin h).1
  refine ⟨r.ext f (fun a ha => ⟨ha, upd_ne fun z => (r.nin h).1 (z ▸ ha)⟩) fun a ha z => ?_, f⟩
  obtain ⟨u, hu⟩ := r.trk a (.inl ha)
  rw [z] at hu; cases hu
/-- a new object that is held -/
theorem R.laidO (r : R K C B O σ y H) {p : Addr} {o : HO} (h : H p = none) : R K C B (p :: O) σ y (upd H p o) ∧ Fr O H (p :: O) (upd H p o) := by
  have np := r.nin h
  have f : Fr O H (p :: O) (upd H p o) := by
    refine ⟨fun a u n e => ⟨fun z => ?_, by rw [upd_ne (ne_of_none e h)]; exact e⟩, fun a z => ?_, fun a u e => ⟨u, by rw [upd_ne (ne_of_none e h)]; exact e⟩⟩
    · rcases List.mem_cons.mp z with z | z
      · exact ne_of_none e h z
      · exact n z
    · rcases List.mem_cons.mp z with z | z
      · rw [z]; exact .inr h
      · exact .inl z
  refine ⟨r.ext f (fun a ha => ⟨List.mem_cons_of_mem _ ha, upd_ne fun z => np.1 (z ▸ ha)⟩) fun a ha z => ?_, f⟩
  rcases List.mem_cons.mp ha with q | q
  · rw [q]; exact ⟨_, upd_same⟩
  · obtain ⟨u, hu⟩ := r.trk a (.inl q)
    rw [z] at hu; cases hu
/-- a held object stands still from now on -/
theorem R.cold (r : R K C B O σ y H) {p : Addr} (h : ∀ (i : Nat) (x : OO), σ[i]? = some (some (.o x)) → y[i]? ≠ some (some (.ref p))) (hb : ∀ q ∈ B.r, q.2 ≠ p) : R K C B (O.filter (fun a => decide (a ≠ p))) σ y H := by
  have hv : Same (hide (O ++ C) H) (hide (O.filter (fun a => decide (a ≠ p)) ++ C) H) := fun a o e => by
    obtain ⟨n, q⟩ := hide_some e
    refine hide_mk (fun z => n ?_) q
    rcases List.mem_append.mp z with z | z
    · exact List.mem_append_left _ (List.mem_filter.mp z).1
    · exact List.mem_append_right _ z
  refine ⟨r.len, fun i x e => ?_, fun i x e => ?_, r.inj, r.pin, fun a ha => ?_, fun q hq => ?_, fun a ha => r.dis a (List.mem_filter.mp ha).1, r.pinO, r.excK hv, r.exl⟩
  · obtain ⟨v, e1, e2⟩ := r.dat i x e
    exact ⟨v, e1, dp_mono hv e2⟩
  · obtain ⟨a, e1, e2, e3⟩ := r.own i x e
    refine ⟨a, e1, List.mem_filter.mpr ⟨e2, decide_eq_true fun z => h i x e (z ▸ e1)⟩, e3.mono hv rfl⟩
  · rcases ha with ha | ha
    · exact r.trk a (.inl (List.mem_filter.mp ha).1)
    · exact r.trk a (.inr ha)
  · exact List.mem_filter.mpr ⟨r.bin q hq, decide_eq_true (hb q hq)⟩
theorem Fr.cold {p : Addr} (f : Fr O H O1 H1) : Fr O H (O1.filter (fun a => decide (a ≠ p))) H1 :=
  ⟨fun a o n e => let ⟨n1, e1⟩ := f.ext a o n e; ⟨fun z => n1 (List.mem_filter.mp z).1, e1⟩, fun a z => f.new a (List.mem_filter.mp z).1, f.there⟩
/-! ### slots stored -/
theorem get_set {α : Type} {l : List α} {i j : Nat} {a b : α} (h : (l.set i a)[j]? = some b) : (j = i ∧ i < l.length ∧ b = a) ∨ (j ≠ i ∧ l[j]? = some b) := by
  by_cases e : j = i
  · subst e
    by_cases hl : j < l.length
    · rw [List.getElem?_set_self hl] at h
      exact .inl ⟨rfl, hl, (Option.some.inj h).symm⟩
    · rw [List.set_eq_of_length_le (by omega)] at h
      rw [List.getElem?_eq_none (by omega)] at h; cases h
  · rw [List.getElem?_set_ne (Ne.symm e)] at h
    exact .inr ⟨e, h⟩
theorem set_get_ne {α : Type} {l : List α} {i j : Nat} {a : α} (h : j ≠ i) : (l.set i a)[j]? = l[j]? := List.getElem?_set_ne (Ne.symm h)
theorem set_get_eq {α : Type} {l : List α} {i : Nat} {a : α} (h : i < l.length) : (l.set i a)[i]? = some a := List.getElem?_set_self h
/-- data is stored -/
theorem R.setD (r : R K C B O σ y H) {i : Nat} {v : V} {d : D} (hd : Dp K (hide (O ++ C) H) v d) (hb : i ∉ B.ids) : R K C B O (σ.set i (some (.d d))) (y.set i (some v)) H := by
  refine ⟨by rw [List.length_set, List.length_set, r.len], fun j x e => ?_, fun j x e => ?_, fun j k x z a e1 e2 e3 e4 => ?_, fun p hp => ?_, r.trk, r.bin, r.dis, fun p hp j x e1 e2 => ?_, fun q hq => ?_, fun j fs e => ?_⟩
  · rcases get_set e with ⟨h, hl, e'⟩ | ⟨h, e'⟩
    · subst h
      cases e'
      exact ⟨v, set_get_eq (by rw [← r.len]; exact hl), hd⟩
    · rw [set_get_ne h]
      exact r.dat j x e'
  · rcases get_set e with ⟨h, hl, e'⟩ | ⟨h, e'⟩
    · cases e'
    · rw [set_get_ne h]
      exact r.own j x e'
  · rcases get_set e1 with ⟨h, hl, e'⟩ | ⟨h, e1'⟩
    · cases e'
    · rcases get_set e2 with ⟨h', hl, e'⟩ | ⟨h', e2'⟩
      · cases e'
      · rw [set_get_ne h] at e3
        rw [set_get_ne h'] at e4
        exact r.inj j k x z a e1' e2' e3 e4
  · have n : p.1 ≠ i := fun z => hb (z ▸ Bx.inr hp)
    rw [set_get_ne n]
    exact r.pin p hp
  · rcases get_set e1 with ⟨h, hl, e'⟩ | ⟨h, e1'⟩
    · cases e'
    · rw [set_get_ne h] at e2
      exact r.pinO p hp j x e1' e2
  · have n : q.i ≠ i := fun z => hb (z ▸ Bx.ine hq)
    rw [set_get_ne n]
    exact r.exc q hq
  · rcases get_set e with ⟨_, _, e'⟩ | ⟨_, e'⟩
    · cases e'
    · exact r.exl j fs e'
/-- a held object that is in no slot is stored -/
theorem R.setO (r : R K C B O σ y H) {i : Nat} {p : Addr} {o : OO} (hp : p ∈ O) (ho : OwnAt K (hide (O ++ C) H) H p o) (hn : ∀ (j : Nat) (x : OO), σ[j]? = some (some (.o x)) → y[j]? ≠ some (some (.ref p))) (hq : ∀ q ∈ B.r, q.2 ≠ p)
    (hb : i ∉ B.ids) : R K C B O (σ.set i (some (.o o))) (y.set i (some (.ref p))) H := by
  refine ⟨by rw [List.length_set, List.length_set, r.len], fun j x e => ?_, fun j x e => ?_, fun j k x z a e1 e2 e3 e4 => ?_, fun p hp => ?_, r.trk, r.bin, r.dis, fun q hq' j x e1 e2 => ?_, fun q hq => ?_, fun j fs e => ?_⟩
  · rcases get_set e with ⟨h, hl, e'⟩ | ⟨h, e'⟩
    · cases e'
    · rw [set_get_ne h]
      exact r.dat j x e'
  · rcases get_set e with ⟨h, hl, e'⟩ | ⟨h, e'⟩
    · subst h
      cases e'
      exact ⟨p, set_get_eq (by rw [← r.len]; exact hl), hp, ho⟩
    · rw [set_get_ne h]
      exact r.own j x e'
  · rcases get_set e1 with ⟨h, hl, e'⟩ | ⟨h, e1'⟩
    · subst h
      rw [set_get_eq (by rw [← r.len]; exact hl)] at e3
      have e3 := V.ref.inj (Option.some.inj (Option.some.inj e3))
      subst e3
      rcases get_set e2 with ⟨h', hl, e'⟩ | ⟨h', e2'⟩
      · exact h'.symm
      · rw [set_get_ne h'] at e4
        exact absurd e4 (hn k z e2')
    · rcases get_set e2 with ⟨h', hl, e'⟩ | ⟨h', e2'⟩
      · subst h'
        rw [set_get_eq (by rw [← r.len]; exact hl)] at e4
        have e4 := V.ref.inj (Option.some.inj (Option.some.inj e4))
        subst e4
        rw [set_get_ne h] at e3
        exact absurd e3 (hn j x e1')
      · rw [set_get_ne h] at e3
        rw [set_get_ne h'] at e4
        exact r.inj j k x z a e1' e2' e3 e4
  · have n : p.1 ≠ i := fun z => hb (z ▸ Bx.inr hp)
    rw [set_get_ne n]
    exact r.pin p hp
  · rcases get_set e1 with ⟨h, hl, e'⟩ | ⟨h, e1'⟩
    · subst h
      rw [set_get_eq (by rw [← r.len]; exact hl)] at e2
      have e2 := V.ref.inj (Option.some.inj (Option.some.inj e2))
      exact absurd e2.symm (hq q hq')
    · rw [set_get_ne h] at e2
      exact r.pinO q hq' j x e1' e2
  · have n : q.i ≠ i := fun z => hb (z ▸ Bx.ine hq)
    rw [set_get_ne n]
    exact r.exc q hq
  · rcases get_set e with ⟨_, _, e'⟩ | ⟨_, e'⟩
    · cases e'
    · exact r.exl j fs e'
/-- a slot is forgotten -/
theorem R.drop (r : R K C B O σ y H) (i : Nat) : R K C B O (σ.set i none) y H := by
  refine ⟨by rw [List.length_set, r.len], fun j x e => ?_, fun j x e => ?_, fun j k x z a e1 e2 e3 e4 => ?_, r.pin, r.trk, r.bin, r.dis, fun q hq' j x e1 e2 => ?_, r.exc, fun j fs e => ?_⟩
  · rcases get_set e with ⟨h, hl, e'⟩ | ⟨h, e'⟩
    · cases e'
    · exact r.dat j x e'
  · rcases get_set e with ⟨h, hl, e'⟩ | ⟨h, e'⟩
    · cases e'
    · exact r.own j x e'
  · rcases get_set e1 with ⟨h, hl, e'⟩ | ⟨h, e1'⟩
    · cases e'
    · rcases get_set e2 with ⟨h', hl, e'⟩ | ⟨h', e2'⟩
      · cases e'
      · exact r.inj j k x z a e1' e2' e3 e4
  · rcases get_set e1 with ⟨h, hl, e'⟩ | ⟨h, e1'⟩
    · cases e'
    · exact r.pinO q hq' j x e1' e2
  · rcases get_set e with ⟨_, _, e'⟩ | ⟨_, e'⟩
    · cases e'
    · exact r.exl j fs e'
/-- .. and its address is no slot's any more -/
theorem R.dropN (r : R K C B O σ y H) {i : Nat} {p : Addr} {o : OO} (e : σ[i]? = some (some (.o o))) (ep : y[i]? = some (some (.ref p))) : ∀ (j : Nat) (x : OO), (σ.set i none)[j]? = some (some (.o x)) → y[j]? ≠ some (some (.ref p)) := fun j x e1 z => by
  rcases get_set e1 with ⟨h, hl, e'⟩ | ⟨h, e1'⟩
  · cases e'
  · exact h (r.inj j i x o p e1' e z ep)
/-- the own object of slot i is changed in place -/
theorem R.mut (r : R K C B O σ y H) {i : Nat} {p : Addr} {o o' : OO} {u : HO} (e : σ[i]? = some (some (.o o))) (ep : y[i]? = some (some (.ref p))) (hu : ∀ G, Same (hide (O ++ C) H) G → OwnAt K G (upd H p u) p o') :
    R K C B O (σ.set i (some (.o o'))) y (upd H p u) ∧ Fr O H O (upd H p u) := by
  obtain ⟨a, ea, hp, hat⟩ := r.own i o e
  rw [ea] at ep
  have z := V.ref.inj (Option.some.inj (Option.some.inj ep))
  subst z
  obtain ⟨u0, hu0⟩ := hat.there
  have f : Fr O H O (upd H a u) := ⟨fun b x n q => ⟨n, (by rw [upd_ne fun z => n (by rw [z]; exact hp)]; exact q)⟩, fun b h => .inl h, fun b x q => by
    by_cases h : b = a
    · rw [h]; exact ⟨u, upd_same⟩
    · exact ⟨x, by rw [upd_ne h]; exact q⟩⟩
  refine ⟨⟨by rw [List.length_set, r.len], fun j x q => ?_, fun j x q => ?_, fun j k x z b e1 e2 e3 e4 => ?_, r.pin, fun b hb => ?_, r.bin, r.dis, fun q hq' j x e1 e2 => ?_, r.excK f.vis, fun j fs e => ?_⟩, f⟩
  · rcases get_set q with ⟨h, hl, q⟩ | ⟨h, q⟩
    · cases q
    · obtain ⟨v, e1, e2⟩ := r.dat j x q
      exact ⟨v, e1, dp_mono f.vis e2⟩
  · rcases get_set q with ⟨h, hl, q'⟩ | ⟨h, q⟩
    · subst h
      cases q'
      exact ⟨a, ea, hp, hu _ f.vis⟩
    · obtain ⟨b, e1, e2, e3⟩ := r.own j x q
      refine ⟨b, e1, e2, e3.mono f.vis (upd_ne fun z => h ?_)⟩
      subst z
      exact r.inj j i x o b q e e1 ea
  · have back : ∀ (j : Nat) (x : OO), (σ.set i (some (.o o')))[j]? = some (some (.o x)) → ∃ x', σ[j]? = some (some (.o x')) := fun j x q => by
      rcases get_set q with ⟨h, hl, q⟩ | ⟨h, q⟩
      · subst h; exact ⟨o, e⟩
      · exact ⟨x, q⟩
    obtain ⟨x', q1⟩ := back j x e1
    obtain ⟨z', q2⟩ := back k z e2
    exact r.inj j k x' z' b q1 q2 e3 e4
  · obtain ⟨x, q⟩ := r.trk b hb
    exact f.there b x q
  · rcases get_set e1 with ⟨h, hl, q'⟩ | ⟨h, q'⟩
    · subst h; exact r.pinO q hq' j o e e2
    · exact r.pinO _ hq' j x q' e2
  · rcases get_set e with ⟨_, _, e'⟩ | ⟨_, e'⟩
    · cases e'
    · exact r.exl j fs e'
end
end Pu

set_option Elab.async false
set_option linter.all false
set_option maxRecDepth 100000
set_option maxHeartbeats 2000000
namespace Pu
open PySem PySem.Spec L2

/-! ### what an expression comes to -/
inductive ER (α : Type) where
  | ok (a : α) (σ : Loc)
  | raise (x : Ex) (σ : Loc)
  | stuck
def ER.bind {α β : Type} (r : ER α) (f : α → Loc → ER β) : ER β :=
  match r with
  | .ok a σ => f a σ
  | .raise x σ => .raise x σ
  | .stuck => .stuck
def ofO {α : Type} (o : Option α) (σ : Loc) : ER α :=
  match o with
  | some a => .ok a σ
  | none => .stuck

/-- how a value of HandS stands for one of this layer: C O B σ y H -/
abbrev Rel (β α : Type) := PySem.W.Frag → List Addr → List Addr → Bx → Loc → St → Hp → β → α → Prop
def rD : Rel V D := fun K C O _ _ _ H v d => Dp K (hide (O ++ C) H) v d
def rB : Rel Bool Bool := fun _ _ _ _ _ _ _ b a => b = a
def rDs : Rel (List V) (List D) := fun K C O _ _ _ H v d => DpAll K (hide (O ++ C) H) v d
def rOI : Rel (Option Int) (Option Int) := fun _ _ _ _ _ _ _ b a => b = a
/-- a held object that is in no slot -/
def rO : Rel V OO := fun K C O B σ y H v o => ∃ p, v = .ref p ∧ p ∈ O ∧ OwnAt K (hide (O ++ C) H) H p o ∧ (∀ (i : Nat) (x : OO), σ[i]? = some (some (.o x)) → y[i]? ≠ some (some (.ref p))) ∧ ∀ q ∈ B.r, q.2 ≠ p

section
variable (K : PySem.W.Frag) (cA : String → Addr) (W : WX)
def RaiseK (C : List Addr) (B : Bx) (O : List Addr) (H : Hp) (y : St) (x : Ex) (σ : Loc) : Prop :=
  ∀ O' H' d fsv, R K C B O' σ y H' → Fr O H O' H' → hide (O' ++ C) H' d = some (.xd fsv) → FsOk K (hide (O' ++ C) H') fsv x.fs → W (.ref (cA x.c)) (some d) y H'
def KG {β α : Type} (rel : Rel β α) (C : List Addr) (B : Bx) (O : List Addr) (H : Hp) (y : St) (Q : β → Hp → Prop) : ER α → Prop
  | .ok a σ' => ∀ O' b H', R K C B O' σ' y H' → Fr O H O' H' → rel K C O' B σ' y H' b a → Q b H'
  | .raise x σ' => RaiseK K cA W C B O H y x σ'
  | .stuck => False
def tG {β α : Type} (bs : Bs) (rel : Rel β α) (m : Loc → ER α) : St → Hp → (β → Hp → Prop) → Prop := fun y H Q =>
  ∃ C B O σ, B.is bs ∧ R K C B O σ y H ∧ KG K cA W rel C B O H y Q (m σ)
end
section
variable {K : PySem.W.Frag} {cA : String → Addr} {W : WX} {C : List Addr} {B : Bx} {O O1 : List Addr} {H H1 : Hp} {y : St} {α β γ δ : Type} {rel : Rel β α} {rel2 : Rel δ γ} {Q : β → Hp → Prop} {Q2 : δ → Hp → Prop} {bs : Bs}
theorem KG.imp {Q' : β → Hp → Prop} {r : ER α} (h : KG K cA W rel C B O H y Q r) (q : ∀ b H', Q b H' → Q' b H') : KG K cA W rel C B O H y Q' r := by
  cases r with
  | ok a σ' => exact fun O' b H' h1 h2 h3 => q _ _ (h O' b H' h1 h2 h3)
  | raise x σ' => exact h
  | stuck => exact h
theorem KG.on {r : ER α} (h : KG K cA W rel C B O H y Q r) (f : Fr O H O1 H1) : KG K cA W rel C B O1 H1 y Q r := by
  cases r with
  | ok a σ' => exact fun O' b H' h1 h2 h3 => h O' b H' h1 (f.trans h2) h3
  | raise x σ' => exact fun O' H' d fsv h1 h2 h3 h4 => h O' H' d fsv h1 (f.trans h2) h3 h4
  | stuck => exact h
theorem KG.bind {f : α → Loc → ER γ} {r : ER α} (h : KG K cA W rel2 C B O H y Q2 (r.bind f)) :
    KG K cA W rel C B O H y (fun b H1 => ∃ a σ1 O1, R K C B O1 σ1 y H1 ∧ Fr O H O1 H1 ∧ rel K C O1 B σ1 y H1 b a ∧ KG K cA W rel2 C B O1 H1 y Q2 (f a σ1)) r := by
  cases r with
  | ok a σ' => exact fun O' b H' h1 h2 h3 => ⟨a, σ', O', h1, h2, h3, h.on h2⟩
  | raise x σ' => exact h
  | stuck => exact h
theorem tG.mk {m : Loc → ER α} {σ : Loc} (hb : B.is bs) (r : R K C B O σ y H) (h : KG K cA W rel C B O H y Q (m σ)) : tG K cA W bs rel m y H Q := ⟨C, B, O, σ, hb, r, h⟩
end

abbrev IE (cA : String → Addr) (bs : Bs) (W : WX) (X : Cx) (e : Expr) (m : Loc → ER D) : Prop := PE X e (tG X.K cA W bs rD m)
abbrev IT (cA : String → Addr) (bs : Bs) (W : WX) (X : Cx) (e : Expr) (m : Loc → ER Bool) : Prop := PT X e (tG X.K cA W bs rB m)
abbrev IW (cA : String → Addr) (bs : Bs) (W : WX) (X : Cx) (e : Expr) (m : Loc → ER Bool) : Prop := PW X e (tG X.K cA W bs rB m)
abbrev IO (cA : String → Addr) (bs : Bs) (W : WX) (X : Cx) (e : Expr) (m : Loc → ER OO) : Prop := PE X e (tG X.K cA W bs rO m)
abbrev IA (cA : String → Addr) (bs : Bs) (W : WX) (X : Cx) (es : List Expr) (m : Loc → ER (List D)) : Prop := PA X es (tG X.K cA W bs rDs m)

theorem _root_.L2.PE.wk {X : Cx} {e : Expr} {t t' : TE} (h : PE X e t) (q : ∀ y H Q, t' y H Q → t y H Q) : PE X e t' := ⟨fun pins s σ H Q I k => h.run pins s σ H Q I (q _ _ _ k)⟩
theorem _root_.L2.PT.wk {X : Cx} {e : Expr} {t t' : TT} (h : PT X e t) (q : ∀ y H Q, t' y H Q → t y H Q) : PT X e t' := ⟨fun pins s σ H Q I k => h.run pins s σ H Q I (q _ _ _ k)⟩
theorem _root_.L2.PW.wk {X : Cx} {e : Expr} {t t' : TT} (h : PW X e t) (q : ∀ y H Q, t' y H Q → t y H Q) : PW X e t' := ⟨fun wh pins s σ H Q I k => h.run wh pins s σ H Q I (q _ _ _ k)⟩
theorem _root_.L2.PA.wk {X : Cx} {e : List Expr} {t t' : TA} (h : PA X e t) (q : ∀ y H Q, t' y H Q → t y H Q) : PA X e t' := ⟨fun pos pins s σ H Q I k => h.run pos pins s σ H Q I (q _ _ _ k)⟩
theorem _root_.L2.PS.wk {X : Cx} {e : Stmt} {t t' : TS} (h : PS X e t) (q : ∀ D y H, t' D y H → t D y H) : PS X e t' := ⟨fun pins s σ H D I k => h.run pins s σ H D I (q _ _ _ k)⟩
theorem _root_.L2.PSs.wk {X : Cx} {e : List Stmt} {t t' : TS} (h : PSs X e t) (q : ∀ D y H, t' D y H → t D y H) : PSs X e t' := ⟨fun pins s σ H D I k => h.run pins s σ H D I (q _ _ _ k)⟩

/-! ### the forms -/
abbrev M (α : Type) := Loc → ER α
def mPure {α : Type} (a : α) : M α := fun σ => .ok a σ
def mVar (i : Nat) : M D := fun σ => match σ[i]? with | some (some (.d x)) => .ok x σ | _ => .stuck
def mBin {α β γ : Type} (f : α → β → Option γ) (a : M α) (b : M β) : M γ := fun σ => (a σ).bind fun x σ1 => (b σ1).bind fun y σ2 => ofO (f x y) σ2
def mUn {α β : Type} (f : α → Option β) (a : M α) : M β := fun σ => (a σ).bind fun x σ1 => ofO (f x) σ1
def mNil {α : Type} : M (List α) := mPure []
def mCons {α : Type} (a : M α) (b : M (List α)) : M (List α) := fun σ => (a σ).bind fun x σ1 => (b σ1).bind fun y σ2 => .ok (x :: y) σ2
def mIf {α : Type} (t : M Bool) (a b : M α) : M α := fun σ => (t σ).bind fun c σ1 => if c = true then a σ1 else b σ1
def mAnd (a b : M Bool) : M Bool := fun σ => (a σ).bind fun c σ1 => if c = true then b σ1 else .ok false σ1
def mOr (a b : M Bool) : M Bool := fun σ => (a σ).bind fun c σ1 => if c = true then .ok true σ1 else b σ1
def mNot (a : M Bool) : M Bool := fun σ => (a σ).bind fun c σ1 => .ok (!c) σ1
def mBool (a : M D) : M Bool := fun σ => (a σ).bind fun x σ1 => match x with | .bool c => .ok c σ1 | _ => .stuck
def mOfB (a : M Bool) : M D := fun σ => (a σ).bind fun c σ1 => .ok (.bool c) σ1
/-- x and y, x or y as values: all truth values -/
def mAndV (a b : M D) : M D := fun σ => (a σ).bind fun x σ1 => match x with | .bool true => b σ1 | .bool false => .ok (.bool false) σ1 | _ => .stuck
def mOrV (a b : M D) : M D := fun σ => (a σ).bind fun x σ1 => match x with | .bool false => b σ1 | .bool true => .ok (.bool true) σ1 | _ => .stuck

section
variable {X : Cx} {cA : String → Addr} {bs : Bs} {W : WX} {a b c e : Expr} {ma mb : M D} {pos : Pos}

theorem ie_var {i : Nat} (h : PE X e (tVar i)) : IE cA bs W X e (mVar i) := h.wk fun y H Q h => by
  obtain ⟨C, B, O, σ, hb, r, k⟩ := h
  unfold mVar at k
  cases q : σ[i]? with
  | none => rw [q] at k; exact k.elim
  | some s =>
    rw [q] at k
    cases s with
    | none => exact k.elim
    | some v =>
      cases v with
      | o x => exact k.elim
      | e x => exact k.elim
      | d x =>
        obtain ⟨v, e1, e2⟩ := r.dat i x q
        exact ⟨v, e1, k O v H r Fr.refl e2⟩
theorem ie_c {v : V} {d : D} (h : PE X e (tC v)) (hv : ∀ K H, Dp K H v d) : IE cA bs W X e (mPure d) := h.wk fun y H Q h => by
  obtain ⟨C, B, O, σ, hb, r, k⟩ := h
  exact k O v H r Fr.refl (hv _ _)
theorem ie_int {i : Int} {j pos} : IE cA bs W X (.Constant (.int i) j pos) (mPure (.int i)) := ie_c pe_int fun _ _ => .int _
theorem ie_bl {i : Bool} {j pos} : IE cA bs W X (.Constant (.bool i) j pos) (mPure (.bool i)) := ie_c pe_bl fun _ _ => .bl _
theorem ie_non {j pos} : IE cA bs W X (.Constant .none j pos) (mPure .none) := ie_c pe_non fun _ _ => .non
theorem ie_str {x : Str} {j pos} : IE cA bs W X (.Constant (.str x) j pos) (mPure (.str x)) := ie_c pe_str fun _ _ => .str _

/-- what a two-place operation of HandS's gives for data: no object made -/
def Op2 (K : PySem.W.Frag) (r : R2) (f : D → D → Option D) : Prop := ∀ (G H : Hp) (x z : V) (a b c : D) (Q : VK), f a b = some c → Same G H → Dp K G x a → Dp K G z b → (∀ v, Dp K G v c → Q v H) → r x z H Q
/-- a new object may be made -/
def Op2N (K : PySem.W.Frag) (r : R2) (f : D → D → Option D) : Prop := ∀ (G H : Hp) (x z : V) (a b c : D) (Q : VK), f a b = some c → Same G H → Dp K G x a → Dp K G z b → (∀ v, Dp K G v c → Q v H) →
  (∀ p o, H p = none → (∀ G', Same G G' → G' p = some o → Dp K G' (.ref p) c) → Q (.ref p) (upd H p o)) → r x z H Q
theorem Op2.n {K : PySem.W.Frag} {r : R2} {f : D → D → Option D} (h : Op2 K r f) : Op2N K r f := fun G H x z a b c Q e s h1 h2 q _ => h G H x z a b c Q e s h1 h2 q
theorem hide_same {S : List Addr} {H : Hp} : Same (hide S H) H := fun a o e => (hide_some e).2
theorem hide_upd {S : List Addr} {H : Hp} {p : Addr} {o : HO} (h : H p = none) (n : p ∉ S) : Same (hide S H) (hide S (upd H p o)) ∧ hide S (upd H p o) p = some o := by
  refine ⟨fun a u e => ?_, hide_mk n upd_same⟩
  obtain ⟨n1, e1⟩ := hide_some e
  exact hide_mk n1 (by rw [upd_ne (ne_of_none e1 h)]; exact e1)
theorem R.ninA {K : PySem.W.Frag} {C O : List Addr} {B : Bx} {σ : Loc} {y : St} {H : Hp} (r : R K C B O σ y H) {p : Addr} (h : H p = none) : p ∉ O ++ C := fun z => by
  rcases List.mem_append.mp z with z | z
  · exact (r.nin h).1 z
  · exact (r.nin h).2 z
theorem KG.ofO {K : PySem.W.Frag} {C O : List Addr} {B : Bx} {σ : Loc} {y : St} {H : Hp} {α β : Type} {rel : Rel β α} {Q : β → Hp → Prop} {o : Option α} (k : KG K cA W rel C B O H y Q (ofO o σ)) :
    ∃ a, o = some a ∧ ∀ O' b H', R K C B O' σ y H' → Fr O H O' H' → rel K C O' B σ y H' b a → Q b H' := by
  cases o with
  | none => exact k.elim
  | some a => exact ⟨a, rfl, k⟩
theorem ie_bin {r : R2} {f : D → D → Option D} (h : PE X e (tOp r (tG X.K cA W bs rD ma) (tG X.K cA W bs rD mb))) (hr : Op2N X.K r f) : IE cA bs W X e (mBin f ma mb) := h.wk fun y H Q h => by
  obtain ⟨C, B, O, σ, hb, R0, k⟩ := h
  refine ⟨C, B, O, σ, hb, R0, (KG.bind (rel := rD) k).imp fun x H1 ⟨a, σ1, O1, R1, F1, d1, k1⟩ => ⟨C, B, O1, σ1, hb, R1, (KG.bind (rel := rD) k1).imp fun z H2 ⟨b, σ2, O2, R2, F2, d2, k2⟩ => ?_⟩⟩
  obtain ⟨c, ec, q⟩ := k2.ofO
  refine hr (hide (O2 ++ C) H2) H2 x z a b c Q ec hide_same (dp_mono F2.vis d1) d2 (fun v dv => q O2 v H2 R2 Fr.refl dv) fun p o hp hd => ?_
  obtain ⟨R3, F3⟩ := R2.laid (o := o) hp
  obtain ⟨s1, s2⟩ := hide_upd (o := o) hp (R2.ninA hp)
  exact q O2 (.ref p) _ R3 F3 (hd _ s1 s2)

/-! ### arithmetic -/
def fAdd : D → D → Option D
  | .int i, .int j => some (.int (i + j))
  | .str x, .str z => if x.length + z.length ≤ sizeLine then some (.str (x ++ z)) else none
  | .tuple xs, .tuple zs => if xs ≠ [] ∧ zs ≠ [] ∧ xs.length + zs.length ≤ sizeLine then some (.tuple (xs ++ zs)) else none
  | _, _ => none
def fSub : D → D → Option D
  | .int i, .int j => some (.int (i - j))
  | _, _ => none
instance : Decidable (CMul i j) := by unfold CMul; infer_instance
instance : Decidable (CMulW i j) := by unfold CMulW; infer_instance
instance : Decidable (CDivN i j) := by unfold CDivN; infer_instance
instance : Decidable (CDivW i j) := by unfold CDivW; infer_instance
instance : Decidable (CPow i j) := by unfold CPow; infer_instance
def fMul : D → D → Option D
  | .int i, .int j => if CMul i j ∨ CMulW i j then some (.int (i * j)) else none
  | _, _ => none
def fDiv : D → D → Option D
  | .int i, .int j => if 0 < j ∧ (j < 1073741824 ∨ j.natAbs.log2 < 9000) then some (.int (i / j)) else if CDivN i j then some (.int (i.fdiv j)) else none
  | _, _ => none
def fMod : D → D → Option D
  | .int i, .int j => if 0 < j then some (.int (i % j)) else if j ≠ 0 then some (.int (i.fmod j)) else none
  | _, _ => none
def fPow : D → D → Option D
  | .int i, .int j => if CPow i j then some (.int (i ^ j.toNat)) else none
  | _, _ => none
end
end Pu

set_option Elab.async false
set_option linter.all false
set_option maxRecDepth 100000
set_option maxHeartbeats 2000000
namespace Pu
open PySem PySem.Spec L2
section
variable {X : Cx} {cA : String → Addr} {bs : Bs} {W : WX} {a b c e : Expr} {es : List Expr} {ma mb mc : M D} {pos : Pos} {K : PySem.W.Frag}

theorem tOp_of {r : R2} {f : D → D → Option D} (hr : Op2N X.K r f) {y : St} {H : Hp} {Q : VK} (h : tG X.K cA W bs rD (mBin f ma mb) y H Q) : tOp r (tG X.K cA W bs rD ma) (tG X.K cA W bs rD mb) y H Q := by
  obtain ⟨C, B, O, σ, hb, R0, k⟩ := h
  refine ⟨C, B, O, σ, hb, R0, (KG.bind (rel := rD) k).imp fun x H1 ⟨a, σ1, O1, R1, F1, d1, k1⟩ => ⟨C, B, O1, σ1, hb, R1, (KG.bind (rel := rD) k1).imp fun z H2 ⟨b, σ2, O2, R2, F2, d2, k2⟩ => ?_⟩⟩
  obtain ⟨c, ec, q⟩ := k2.ofO
  refine hr (hide (O2 ++ C) H2) H2 x z a b c Q ec hide_same (dp_mono F2.vis d1) d2 (fun v dv => q O2 v H2 R2 Fr.refl dv) fun p o hp hd => ?_
  obtain ⟨R3, F3⟩ := R2.laid (o := o) hp
  obtain ⟨s1, s2⟩ := hide_upd (o := o) hp (R2.ninA hp)
  exact q O2 (.ref p) _ R3 F3 (hd _ s1 s2)

/-! ### arithmetic -/
theorem sq_up {G H : Hp} (s : Same G H) {p : Addr} {xs : List V} (h : SqL K G p xs) : SqL K H p xs := same_sqL s h
theorem st_up {G H : Hp} (s : Same G H) {p : Addr} {xs : List V} (h : SqT K G p xs) : SqT K H p xs := same_sqT s h
theorem o2_add : Op2N K (fun x y H Q => rI0 (fun i j => V.int (i + j)) x y H Q ∨ ((∃ i j, x = V.str i ∧ y = V.str j ∧ i.length + j.length ≤ sizeLine ∧ Q (V.str (i ++ j)) H) ∨ rCatT K x y H Q)) fAdd := by
  intro G H x z a b c Q e s h1 h2 q qn
  unfold fAdd at e
  split at e
  · cases e; cases h1; cases h2
    exact .inl ⟨_, _, rfl, rfl, q _ (.int _)⟩
  · split at e
    · rename_i hl
      cases e; cases h1; cases h2
      exact .inr (.inl ⟨_, _, rfl, rfl, hl, q _ (.str _)⟩)
    · cases e
  · split at e
    · rename_i hl
      cases e
      obtain ⟨p, vs, rfl, t1, r1⟩ := h1.tup_inv
      obtain ⟨p2, vs2, rfl, t2, r2⟩ := h2.tup_inv
      refine .inr (.inr ⟨p, p2, vs, vs2, rfl, rfl, st_up s t1, st_up s t2, fun z => hl.1 ?_, ?_, fun z => absurd ?_ hl.2.1, fun _ p3 hp3 => ?_⟩)
      · have := r1.length; rw [z] at this; exact List.length_eq_zero_iff.mp this.symm
      · rw [r1.length, r2.length]; exact hl.2.2
      · have := r2.length; rw [z] at this; exact List.length_eq_zero_iff.mp this.symm
      · exact qn p3 _ hp3 fun G' sg e => .tup (.inl (.inl e)) (dps_mono sg (r1.append r2))
    · cases e
  · cases e
theorem op_addU : OpR X (binaryOp .Add) (fun x y H Q => rI0 (fun i j => V.int (i + j)) x y H Q ∨ ((∃ i j, x = V.str i ∧ y = V.str j ∧ i.length + j.length ≤ sizeLine ∧ Q (V.str (i ++ j)) H) ∨ rCatT X.K x y H Q)) := op_add.or (op_add_str.or op_catT)
theorem ie_add (ha : IE cA bs W X a ma) (hb : IE cA bs W X b mb) : IE cA bs W X (.BinOp a .Add b pos) (mBin fAdd ma mb) := (pe_op op_addU ha hb).wk fun _ _ _ h => tOp_of o2_add h
theorem o2_sub : Op2N K (rI0 fun i j => V.int (i - j)) fSub := by
  intro G H x z a b c Q e s h1 h2 q qn
  unfold fSub at e
  split at e
  · cases e; cases h1; cases h2
    exact ⟨_, _, rfl, rfl, q _ (.int _)⟩
  · cases e
theorem ie_sub (ha : IE cA bs W X a ma) (hb : IE cA bs W X b mb) : IE cA bs W X (.BinOp a .Sub b pos) (mBin fSub ma mb) := (pe_op op_sub ha hb).wk fun _ _ _ h => tOp_of o2_sub h
theorem o2_mul : Op2N K (fun x y H Q => rI CMul (fun i j => V.int (i * j)) x y H Q ∨ rI CMulW (fun i j => V.int (i * j)) x y H Q) fMul := by
  intro G H x z a b c Q e s h1 h2 q qn
  unfold fMul at e
  split at e
  · split at e
    · rename_i hc
      cases e; cases h1; cases h2
      rcases hc with hc | hc
      · exact .inl ⟨_, _, rfl, rfl, hc, q _ (.int _)⟩
      · exact .inr ⟨_, _, rfl, rfl, hc, q _ (.int _)⟩
    · cases e
  · cases e
theorem ie_mul (ha : IE cA bs W X a ma) (hb : IE cA bs W X b mb) : IE cA bs W X (.BinOp a .Mult b pos) (mBin fMul ma mb) := (pe_op (op_mul.or op_mulW) ha hb).wk fun _ _ _ h => tOp_of o2_mul h
theorem o2_div : Op2N K (fun x y H Q => rI CDivW (fun i j => V.int (i / j)) x y H Q ∨ rI CDivN (fun i j => V.int (i.fdiv j)) x y H Q) fDiv := by
  intro G H x z a b c Q e s h1 h2 q qn
  unfold fDiv at e
  split at e
  · split at e
    · rename_i i j hc
      cases e; cases h1; cases h2
      by_cases h9 : j.natAbs.log2 < 9000
      · exact .inl ⟨_, _, rfl, rfl, ⟨hc.1, h9⟩, q _ (.int _)⟩
      · have h3 : j < 1073741824 := hc.2.resolve_right h9
        refine .inr ⟨_, _, rfl, rfl, ⟨by omega, by omega⟩, ?_⟩
        show Q (V.int (i.fdiv j)) H
        rw [Int.fdiv_eq_ediv_of_nonneg _ (Int.le_of_lt hc.1)]
        exact q _ (.int _)
    · split at e
      · rename_i hc
        cases e; cases h1; cases h2
        exact .inr ⟨_, _, rfl, rfl, hc, q _ (.int _)⟩
      · cases e
  · cases e
theorem ie_div (ha : IE cA bs W X a ma) (hb : IE cA bs W X b mb) : IE cA bs W X (.BinOp a .FloorDiv b pos) (mBin fDiv ma mb) := (pe_op (op_fdivW.or op_fdivN) ha hb).wk fun _ _ _ h => tOp_of o2_div h
theorem o2_mod : Op2N K (fun x y H Q => rI (fun _ j => 0 < j) (fun i j => V.int (i % j)) x y H Q ∨ rI (fun _ j => j ≠ 0) (fun i j => V.int (i.fmod j)) x y H Q) fMod := by
  intro G H x z a b c Q e s h1 h2 q qn
  unfold fMod at e
  split at e
  · split at e
    · rename_i hc
      cases e; cases h1; cases h2
      exact .inl ⟨_, _, rfl, rfl, hc, q _ (.int _)⟩
    · split at e
      · rename_i hc
        cases e; cases h1; cases h2
        exact .inr ⟨_, _, rfl, rfl, hc, q _ (.int _)⟩
      · cases e
  · cases e
theorem ie_mod (ha : IE cA bs W X a ma) (hb : IE cA bs W X b mb) : IE cA bs W X (.BinOp a .Mod b pos) (mBin fMod ma mb) := (pe_op (op_mod.or op_modN) ha hb).wk fun _ _ _ h => tOp_of o2_mod h
theorem o2_pow : Op2N K (rI CPow fun i j => V.int (i ^ j.toNat)) fPow := by
  intro G H x z a b c Q e s h1 h2 q qn
  unfold fPow at e
  split at e
  · split at e
    · rename_i hc
      cases e; cases h1; cases h2
      exact ⟨_, _, rfl, rfl, hc, q _ (.int _)⟩
    · cases e
  · cases e
theorem ie_pow (ha : IE cA bs W X a ma) (hb : IE cA bs W X b mb) : IE cA bs W X (.BinOp a .Pow b pos) (mBin fPow ma mb) := (pe_op op_pow ha hb).wk fun _ _ _ h => tOp_of o2_pow h

/-! ### comparisons -/
def fEq : D → D → Option D
  | .int i, .int j => some (.bool (decide (i = j)))
  | .bool i, .bool j => some (.bool (i == j))
  | .str i, .str j => some (.bool (decide (i = j)))
  | x, z => if SeqAt.shaped x = true ∧ SeqAt.shaped z = true then some (.bool (PyData.eqv x z)) else none
def bNot : D → Option D
  | .bool b => some (.bool (!b))
  | _ => none
def fNe (x z : D) : Option D := (fEq x z).bind bNot
theorem decV_int {i j : Int} : decide (V.int i = V.int j) = decide (i = j) := by
  by_cases h : i = j
  · rw [h, decide_eq_true rfl, decide_eq_true rfl]
  · rw [decide_eq_false h, decide_eq_false fun z => h (V.int.inj z)]
theorem decV_str {i j : Str} : decide (V.str i = V.str j) = decide (i = j) := by
  by_cases h : i = j
  · rw [h, decide_eq_true rfl, decide_eq_true rfl]
  · rw [decide_eq_false h, decide_eq_false fun z => h (V.str.inj z)]
theorem o2_eq : Op2N K (fun x y H Q => rEq x y H Q ∨ rEqD K x y H Q) fEq := by
  intro G H x z a b c Q e s h1 h2 q qn
  unfold fEq at e
  split at e
  · cases e; cases h1; cases h2
    exact .inl ⟨rfl, by rw [decV_int]; exact q _ (.bl _)⟩
  · cases e; cases h1; cases h2
    exact .inl ⟨rfl, by rw [dec_bl]; exact q _ (.bl _)⟩
  · cases e; cases h1; cases h2
    exact .inl ⟨rfl, by rw [decV_str]; exact q _ (.bl _)⟩
  · split at e
    · rename_i hc
      cases e
      exact .inr ⟨_, _, dp_mono s h1, dp_mono s h2, hc.1, hc.2, q _ (.bl _)⟩
    · cases e
theorem op_eqU (hu : X.A.units + 64 < cLine) : OpR X (compareOp .Eq) (fun x y H Q => rEq x y H Q ∨ rEqD X.K x y H Q) := op_eq.or (op_eqD hu)
theorem o2_ne : Op2N K (fun x y H Q => rNe x y H Q ∨ rNeD K x y H Q) fNe := by
  intro G H x z a b c Q e s h1 h2 q qn
  unfold fNe fEq at e
  split at e
  · cases e; cases h1; cases h2
    exact .inl ⟨rfl, by rw [decV_int]; exact q _ (.bl _)⟩
  · cases e; cases h1; cases h2
    exact .inl ⟨rfl, by rw [dec_bl]; exact q _ (.bl _)⟩
  · cases e; cases h1; cases h2
    exact .inl ⟨rfl, by rw [decV_str]; exact q _ (.bl _)⟩
  · split at e
    · rename_i hc
      cases e
      exact .inr ⟨_, _, dp_mono s h1, dp_mono s h2, hc.1, hc.2, q _ (.bl _)⟩
    · cases e
theorem op_neU (hu : X.A.units + 64 < cLine) : OpR X (compareOp .NotEq) (fun x y H Q => rNe x y H Q ∨ rNeD X.K x y H Q) := op_ne.or (op_neD hu)
def fLt : D → D → Option D
  | .int i, .int j => some (.bool (decide (i < j)))
  | _, _ => none
def fLe : D → D → Option D
  | .int i, .int j => some (.bool (decide (i ≤ j)))
  | _, _ => none
def fGt : D → D → Option D
  | .int i, .int j => some (.bool (decide (j < i)))
  | _, _ => none
def fGe : D → D → Option D
  | .int i, .int j => some (.bool (decide (j ≤ i)))
  | _, _ => none
theorem o2_lt : Op2N K (rI0 fun i j => V.bl (decide (i < j))) fLt := by
  intro G H x z a b c Q e s h1 h2 q qn
  unfold fLt at e
  split at e
  · cases e; cases h1; cases h2
    exact ⟨_, _, rfl, rfl, q _ (.bl _)⟩
  · cases e
theorem o2_le : Op2N K (rI0 fun i j => V.bl (decide (i ≤ j))) fLe := by
  intro G H x z a b c Q e s h1 h2 q qn
  unfold fLe at e
  split at e
  · cases e; cases h1; cases h2
    exact ⟨_, _, rfl, rfl, q _ (.bl _)⟩
  · cases e
theorem o2_gt : Op2N K (rI0 fun i j => V.bl (decide (j < i))) fGt := by
  intro G H x z a b c Q e s h1 h2 q qn
  unfold fGt at e
  split at e
  · cases e; cases h1; cases h2
    exact ⟨_, _, rfl, rfl, q _ (.bl _)⟩
  · cases e
theorem o2_ge : Op2N K (rI0 fun i j => V.bl (decide (j ≤ i))) fGe := by
  intro G H x z a b c Q e s h1 h2 q qn
  unfold fGe at e
  split at e
  · cases e; cases h1; cases h2
    exact ⟨_, _, rfl, rfl, q _ (.bl _)⟩
  · cases e
def fIsN : D → D → Option D
  | .none, .none => some (.bool true)
  | .list _, .none => some (.bool false) | .tuple _, .none => some (.bool false) | .int _, .none => some (.bool false) | .bool _, .none => some (.bool false) | .str _, .none => some (.bool false)
  | _, _ => none
def fNotN (x z : D) : Option D := (fIsN x z).bind bNot
theorem o2_isN : Op2N K (fun x y H Q => y = V.non ∧ Q (.bl (decide (x = V.non))) H) fIsN := by
  intro G H x z a b c Q e s h1 h2 q qn
  unfold fIsN at e
  split at e <;> (try cases e) <;> (cases h1; cases h2; exact ⟨rfl, q _ (.bl _)⟩)
theorem o2_notN : Op2N K (fun x y H Q => y = V.non ∧ Q (.bl (!decide (x = V.non))) H) fNotN := by
  intro G H x z a b c Q e s h1 h2 q qn
  unfold fNotN fIsN at e
  split at e <;> (try cases e) <;> (cases h1; cases h2; exact ⟨rfl, q _ (.bl _)⟩)

/-- a comparison, as a value and as a test -/
theorem ie_cmp {op : CmpOp} {r : R2} {f : D → D → Option D} (ho : OpR X (compareOp op) r) (hr : Op2N X.K r f) (ha : IE cA bs W X a ma) (hb : IE cA bs W X b mb) (hm : behindInMarks op b = false) : IE cA bs W X (.Compare a [op] [b] pos) (mBin f ma mb) :=
  (pe_cmpR ho ha hb hm).wk fun _ _ _ h => tOp_of hr h
theorem bool_of {m : M D} {y : St} {H : Hp} {Q : Bool → Hp → Prop} (h : tG X.K cA W bs rB (mBool m) y H Q) : tG X.K cA W bs rD m y H (fun x H' => ∃ k, x = V.bl k ∧ Q k H') := by
  obtain ⟨C, B, O, σ, hb, R0, k⟩ := h
  refine ⟨C, B, O, σ, hb, R0, (KG.bind (rel := rD) k).imp fun x H1 ⟨a, σ1, O1, R1, F1, d1, k1⟩ => ?_⟩
  cases a with
  | bool c => exact ⟨c, d1.bl_inv, k1 O1 c H1 R1 Fr.refl rfl⟩
  | _ => exact k1.elim
theorem it_cmp {op : CmpOp} {r : R2} {f : D → D → Option D} (ho : OpR X (compareOp op) r) (hr : Op2N X.K r f) (ha : IE cA bs W X a ma) (hb : IE cA bs W X b mb) (hm : behindInMarks op b = false) : IT cA bs W X (.Compare a [op] [b] pos) (mBool (mBin f ma mb)) :=
  (pt_cmpR ho ha hb hm).wk fun _ _ _ h => tOp_of hr (bool_of h)
theorem it_val {m : M D} (h : IE cA bs W X e m) (he : ∀ whole, isTrue e X.env whole = (do let v ← whole; standAt e.pos; holding [v] (truthy v)) := by intro _; rfl) : IT cA bs W X e (mBool m) :=
  (pt_val h he).wk fun _ _ _ h => bool_of h
theorem it_not {t : M Bool} (h : IT cA bs W X a t) : IT cA bs W X (.UnaryOp .Not a pos) (mNot t) := (pt_not h).wk fun y H Q h => by
  obtain ⟨C, B, O, σ, hb, R0, k⟩ := h
  refine ⟨C, B, O, σ, hb, R0, (KG.bind (rel := rB) k).imp fun x H1 ⟨a, σ1, O1, R1, F1, d1, k1⟩ => ?_⟩
  cases d1
  exact k1 O1 _ H1 R1 Fr.refl rfl
theorem iw_and1 {t : M Bool} (h : IT cA bs W X a t) : IW cA bs W X (.BoolOp .And [a] pos) t := pw_and1 h
theorem iw_or1 {t : M Bool} (h : IT cA bs W X a t) : IW cA bs W X (.BoolOp .Or [a] pos) t := pw_or1 h
theorem ite_of {C : List Addr} {B : Bx} {O : List Addr} {H : Hp} {y : St} {β α : Type} {rel : Rel β α} {Q : β → Hp → Prop} {c : Bool} {r1 r2 : ER α} (k : KG K cA W rel C B O H y Q (if c = true then r1 else r2)) {P1 P2 : Prop}
    (h1 : KG K cA W rel C B O H y Q r1 → P1) (h2 : KG K cA W rel C B O H y Q r2 → P2) : if c = true then P1 else P2 := by
  cases c with
  | true => exact h1 k
  | false => exact h2 k
theorem iw_and {rest : List Expr} {t u : M Bool} (h : IT cA bs W X a t) (h2 : IW cA bs W X (.BoolOp .And (b :: rest) pos) u) : IW cA bs W X (.BoolOp .And (a :: b :: rest) pos) (mAnd t u) := (pw_and h h2).wk fun y H Q h => by
  obtain ⟨C, B, O, σ, hb, R0, k⟩ := h
  refine ⟨C, B, O, σ, hb, R0, (KG.bind (rel := rB) k).imp fun x H1 ⟨a, σ1, O1, R1, F1, d1, k1⟩ => ?_⟩
  cases d1
  exact ite_of k1 (fun k => ⟨C, B, O1, σ1, hb, R1, k⟩) fun k => k O1 _ H1 R1 Fr.refl rfl
theorem iw_or {rest : List Expr} {t u : M Bool} (h : IT cA bs W X a t) (h2 : IW cA bs W X (.BoolOp .Or (b :: rest) pos) u) : IW cA bs W X (.BoolOp .Or (a :: b :: rest) pos) (mOr t u) := (pw_or h h2).wk fun y H Q h => by
  obtain ⟨C, B, O, σ, hb, R0, k⟩ := h
  refine ⟨C, B, O, σ, hb, R0, (KG.bind (rel := rB) k).imp fun x H1 ⟨a, σ1, O1, R1, F1, d1, k1⟩ => ?_⟩
  cases d1
  exact ite_of k1 (fun k => k O1 _ H1 R1 Fr.refl rfl) fun k => ⟨C, B, O1, σ1, hb, R1, k⟩
theorem IW.it {t : M Bool} (h : IW cA bs W X e t) : IT cA bs W X e t := h.pt
/-- and, or, not as values of truth values -/
theorem ie_one {op} {m : M D} (h : IE cA bs W X a m) : IE cA bs W X (.BoolOp op [a] pos) m := pe_one h
theorem ie_and {rest : List Expr} (h : IE cA bs W X a ma) (h2 : IE cA bs W X (.BoolOp .And (b :: rest) pos) mb) : IE cA bs W X (.BoolOp .And (a :: b :: rest) pos) (mAndV ma mb) := (pe_and h h2).wk fun y H Q h => by
  obtain ⟨C, B, O, σ, hb, R0, k⟩ := h
  refine ⟨C, B, O, σ, hb, R0, (KG.bind (rel := rD) k).imp fun x H1 ⟨a, σ1, O1, R1, F1, d1, k1⟩ => ?_⟩
  cases a with
  | bool c =>
    refine ⟨c, d1.bl_inv, ?_⟩
    cases c with
    | true => exact ⟨C, B, O1, σ1, hb, R1, k1⟩
    | false => exact k1 O1 _ H1 R1 Fr.refl (.bl _)
  | _ => exact k1.elim
theorem ie_or {rest : List Expr} (h : IE cA bs W X a ma) (h2 : IE cA bs W X (.BoolOp .Or (b :: rest) pos) mb) : IE cA bs W X (.BoolOp .Or (a :: b :: rest) pos) (mOrV ma mb) := (pe_or h h2).wk fun y H Q h => by
  obtain ⟨C, B, O, σ, hb, R0, k⟩ := h
  refine ⟨C, B, O, σ, hb, R0, (KG.bind (rel := rD) k).imp fun x H1 ⟨a, σ1, O1, R1, F1, d1, k1⟩ => ?_⟩
  cases a with
  | bool c =>
    refine ⟨c, d1.bl_inv, ?_⟩
    cases c with
    | false => exact ⟨C, B, O1, σ1, hb, R1, k1⟩
    | true => exact k1 O1 _ H1 R1 Fr.refl (.bl _)
  | _ => exact k1.elim
theorem ie_not (h : IE cA bs W X a ma) : IE cA bs W X (.UnaryOp .Not a pos) (mUn bNot ma) := (pe_not h).wk fun y H Q h => by
  obtain ⟨C, B, O, σ, hb, R0, k⟩ := h
  refine ⟨C, B, O, σ, hb, R0, (KG.bind (rel := rD) k).imp fun x H1 ⟨a, σ1, O1, R1, F1, d1, k1⟩ => ?_⟩
  cases a with
  | bool c => exact ⟨c, d1.bl_inv, k1 O1 _ H1 R1 Fr.refl (.bl _)⟩
  | _ => exact k1.elim
theorem ie_if {t : M Bool} (ht : IT cA bs W X c t) (ha : IE cA bs W X a ma) (hb : IE cA bs W X b mb) : IE cA bs W X (.IfExp c a b pos) (mIf t ma mb) := (pe_ifExp ht ha hb).wk fun y H Q h => by
  obtain ⟨C, B, O, σ, hb, R0, k⟩ := h
  refine ⟨C, B, O, σ, hb, R0, (KG.bind (rel := rB) k).imp fun x H1 ⟨a, σ1, O1, R1, F1, d1, k1⟩ => ?_⟩
  cases d1
  exact ite_of k1 (fun k => ⟨C, B, O1, σ1, hb, R1, k⟩) fun k => ⟨C, B, O1, σ1, hb, R1, k⟩
def fNeg : D → Option D
  | .int i => some (.int (-i))
  | _ => none
theorem ie_neg (h : IE cA bs W X a ma) : IE cA bs W X (.UnaryOp .USub a pos) (mUn fNeg ma) := (pe_un un_neg h).wk fun y H Q h => by
  obtain ⟨C, B, O, σ, hb, R0, k⟩ := h
  refine ⟨C, B, O, σ, hb, R0, (KG.bind (rel := rD) k).imp fun x H1 ⟨a, σ1, O1, R1, F1, d1, k1⟩ => ?_⟩
  cases a with
  | int c => cases d1; exact ⟨c, rfl, k1 O1 _ H1 R1 Fr.refl (.int _)⟩
  | _ => exact k1.elim
/-- a < b < c -/
def mChain (f g : D → D → Option D) (a b c : M D) : M D := fun σ => (a σ).bind fun x σ1 => (b σ1).bind fun z σ2 => match f x z with
  | some (.bool true) => (c σ2).bind fun w σ3 => ofO (g z w) σ3
  | some (.bool false) => .ok (.bool false) σ2
  | _ => .stuck
theorem chain_of {r r' : R2} {f g : D → D → Option D} (hr : Op2 X.K r f) (hr' : Op2 X.K r' g) {y : St} {H : Hp} {Q : VK} (h : tG X.K cA W bs rD (mChain f g ma mb mc) y H Q) :
    tChain r r' (tG X.K cA W bs rD ma) (tG X.K cA W bs rD mb) (tG X.K cA W bs rD mc) y H Q := by
  obtain ⟨C, B, O, σ, hb, R0, k⟩ := h
  refine ⟨C, B, O, σ, hb, R0, (KG.bind (rel := rD) k).imp fun x H1 ⟨a, σ1, O1, R1, F1, d1, k1⟩ => ⟨C, B, O1, σ1, hb, R1, (KG.bind (rel := rD) k1).imp fun z H2 ⟨b, σ2, O2, R2, F2, d2, k2⟩ => ?_⟩⟩
  cases e : f a b with
  | none => rw [e] at k2; exact k2.elim
  | some t =>
    rw [e] at k2
    cases t with
    | bool c =>
      refine hr (hide (O2 ++ C) H2) H2 x z a b _ _ e hide_same (dp_mono F2.vis d1) d2 fun v dv => ⟨c, dv.bl_inv, ?_⟩
      cases c with
      | true =>
        refine ⟨C, B, O2, σ2, hb, R2, (KG.bind (rel := rD) k2).imp fun w H3 ⟨d, σ3, O3, R3, F3, d3, k3⟩ => ?_⟩
        obtain ⟨q, eq, kq⟩ := k3.ofO
        exact hr' (hide (O3 ++ C) H3) H3 z w b d _ _ eq hide_same (dp_mono F3.vis d2) d3 fun v dv => kq O3 v H3 R3 Fr.refl dv
      | false => exact k2 O2 _ H2 R2 Fr.refl (.bl _)
    | _ => exact k2.elim
theorem Op2.of0 {g : Int → Int → Bool} {f : D → D → Option D} (h : ∀ a b c, f a b = some c → ∃ i j, a = .int i ∧ b = .int j ∧ c = .bool (g i j)) : Op2 K (rI0 fun i j => V.bl (g i j)) f := by
  intro G H x z a b c Q e s h1 h2 q
  obtain ⟨i, j, rfl, rfl, rfl⟩ := h a b c e
  cases h1; cases h2
  exact ⟨_, _, rfl, rfl, q _ (.bl _)⟩
theorem p_lt : Op2 K (rI0 fun i j => V.bl (decide (i < j))) fLt := Op2.of0 (g := fun i j => decide (i < j)) fun a b c e => by
  unfold fLt at e; split at e <;> cases e; exact ⟨_, _, rfl, rfl, rfl⟩
theorem p_le : Op2 K (rI0 fun i j => V.bl (decide (i ≤ j))) fLe := Op2.of0 (g := fun i j => decide (i ≤ j)) fun a b c e => by
  unfold fLe at e; split at e <;> cases e; exact ⟨_, _, rfl, rfl, rfl⟩
theorem ie_chain {op op' : CmpOp} {r r' : R2} {f g : D → D → Option D} (ho : OpR X (compareOp op) r) (ho' : OpR X (compareOp op') r') (hr : Op2 X.K r f) (hr' : Op2 X.K r' g) (ha : IE cA bs W X a ma) (hb : IE cA bs W X b mb) (hc : IE cA bs W X c mc)
    (hm : lastMarks [op, op'] [b, c] = false := by with_unfolding_all rfl) : IE cA bs W X (.Compare a [op, op'] [b, c] pos) (mChain f g ma mb mc) := (pe_chain ho ho' ha hb hc hm).wk fun _ _ _ h => chain_of hr hr' h
theorem it_chain {op op' : CmpOp} {r r' : R2} {f g : D → D → Option D} (ho : OpR X (compareOp op) r) (ho' : OpR X (compareOp op') r') (hr : Op2 X.K r f) (hr' : Op2 X.K r' g) (ha : IE cA bs W X a ma) (hb : IE cA bs W X b mb) (hc : IE cA bs W X c mc)
    (hm : lastMarks [op, op'] [b, c] = false := by with_unfolding_all rfl) : IT cA bs W X (.Compare a [op, op'] [b, c] pos) (mBool (mChain f g ma mb mc)) := (pt_chain ho ho' ha hb hc hm).wk fun _ _ _ h => chain_of hr hr' (bool_of h)
end
end Pu

set_option Elab.async false
set_option linter.all false
set_option maxRecDepth 100000
set_option maxHeartbeats 2000000
namespace Pu
open PySem PySem.Spec L2
section
variable {X : Cx} {cA : String → Addr} {bs : Bs} {W : WX} {a b c e o : Expr} {es : List Expr} {ma mb mc : M D} {ms : M (List D)} {pos : Pos} {K : PySem.W.Frag}

/-! ### argument lists, displays -/
theorem ia_nil : IA cA bs W X [] mNil := pa_nil.wk fun y H Q h => by
  obtain ⟨C, B, O, σ, hb, R0, k⟩ := h
  exact k O [] H R0 Fr.refl .nil
theorem ia_cons (ha : IE cA bs W X e ma) (hr : IA cA bs W X es ms) (hs : starEach (e :: es) X.env = (false, eval e X.env) :: starEach es X.env := by rfl) : IA cA bs W X (e :: es) (mCons ma ms) := (pa_cons ha hr hs).wk fun y H Q h => by
  obtain ⟨C, B, O, σ, hb, R0, k⟩ := h
  refine ⟨C, B, O, σ, hb, R0, (KG.bind (rel := rD) k).imp fun x H1 ⟨a, σ1, O1, R1, F1, d1, k1⟩ => ⟨C, B, O1, σ1, hb, R1, (KG.bind (rel := rDs) k1).imp fun z H2 ⟨b, σ2, O2, R2, F2, d2, k2⟩ => ?_⟩⟩
  exact k2 O2 _ H2 R2 Fr.refl (.cons (dp_mono F2.vis d1) d2)
def mTup (ms : M (List D)) : M D := fun σ => (ms σ).bind fun xs σ1 => if xs.length ≤ 1000000 then .ok (.tuple xs) σ1 else .stuck
def mLst (ms : M (List D)) : M OO := fun σ => (ms σ).bind fun xs σ1 => if xs.length ≤ 1000000 then .ok (.lst xs) σ1 else .stuck
theorem mil : 1000000 ≤ sizeLine := by decide
theorem ie_tup {x1} (h : IA cA bs W X es ms) : IE cA bs W X (.Tuple es x1 pos) (mTup ms) := (pe_tup h).wk fun y H Q h => by
  obtain ⟨C, B, O, σ, hb, R0, k⟩ := h
  refine ⟨C, B, O, σ, hb, R0, (KG.bind (rel := rDs) k).imp fun x H1 ⟨xs, σ1, O1, R1, F1, d1, k1⟩ => ?_⟩
  by_cases hl : xs.length ≤ 1000000
  · rw [if_pos hl] at k1
    refine ⟨by rw [d1.length]; exact Nat.le_trans hl mil, fun p hp => ?_⟩
    obtain ⟨R3, F3⟩ := R1.laid (o := .tup x) hp
    obtain ⟨s1, s2⟩ := hide_upd (o := .tup x) hp (R1.ninA hp)
    exact k1 O1 _ _ R3 F3 (.tup (.inl (.inl s2)) (dps_mono s1 d1))
  · rw [if_neg hl] at k1; exact k1.elim
/-- a new held list at p -/
theorem rO_new {C : List Addr} {B : Bx} {O1 : List Addr} {σ1 : Loc} {y : St} {H1 : Hp} {vs : List V} {xs : List D} {Q : VK} (R1 : R K C B O1 σ1 y H1) (d1 : DpAll K (hide (O1 ++ C) H1) vs xs) {p : Addr} (hp : H1 p = none)
    (k1 : ∀ O' b H', R K C B O' σ1 y H' → Fr O1 H1 O' H' → rO K C O' B σ1 y H' b (.lst xs) → Q b H') : Q (.ref p) (upd H1 p (.lst vs)) := by
  obtain ⟨R3, F3⟩ := R1.laidO (o := .lst vs) hp
  exact k1 (p :: O1) _ _ R3 F3 ⟨p, rfl, List.mem_cons_self, ⟨vs, upd_same, dps_mono F3.vis d1⟩, R1.fresh hp, R1.freshB hp⟩
theorem io_lst (h : IA cA bs W X es ms) : IO cA bs W X (.List es pos) (mLst ms) := (pe_lst h).wk fun y H Q h => by
  obtain ⟨C, B, O, σ, hb, R0, k⟩ := h
  refine ⟨C, B, O, σ, hb, R0, (KG.bind (rel := rDs) k).imp fun x H1 ⟨xs, σ1, O1, R1, F1, d1, k1⟩ => ?_⟩
  by_cases hl : xs.length ≤ 1000000
  · rw [if_pos hl] at k1
    exact ⟨by rw [d1.length]; exact Nat.le_trans hl mil, fun p hp => rO_new R1 d1 hp k1⟩
  · rw [if_neg hl] at k1; exact k1.elim
/-- a held list stands still from now on -/
def mCold (m : M OO) : M D := fun σ => (m σ).bind fun o σ1 => match o with | .lst xs => .ok (.list xs) σ1 | _ => .stuck
theorem cold_of {C : List Addr} {B : Bx} {O : List Addr} {σ : Loc} {y : St} {H : Hp} {v : V} {xs : List D} (r : R K C B O σ y H) (h : rO K C O B σ y H v (.lst xs)) :
    ∃ O', R K C B O' σ y H ∧ (∀ O0 H0, Fr O0 H0 O H → Fr O0 H0 O' H) ∧ Dp K (hide (O' ++ C) H) v (.list xs) := by
  obtain ⟨p, rfl, hp, ⟨vs, e, d⟩, hn, hb⟩ := h
  refine ⟨O.filter (fun a => decide (a ≠ p)), r.cold hn hb, fun O0 H0 f => f.cold, ?_⟩
  have hv : Same (hide (O ++ C) H) (hide (O.filter (fun a => decide (a ≠ p)) ++ C) H) := fun a o e => by
    obtain ⟨n, q⟩ := hide_some e
    refine hide_mk (fun z => n ?_) q
    rcases List.mem_append.mp z with z | z
    · exact List.mem_append_left _ (List.mem_filter.mp z).1
    · exact List.mem_append_right _ z
  refine .lst (.inl (.inl (hide_mk (fun z => ?_) e))) (dps_mono hv d)
  rcases List.mem_append.mp z with z | z
  · exact absurd rfl (of_decide_eq_true (List.mem_filter.mp z).2)
  · exact r.dis p hp z
theorem ie_cold {m : M OO} (h : IO cA bs W X e m) : IE cA bs W X e (mCold m) := h.wk fun y H Q h => by
  obtain ⟨C, B, O, σ, hb, R0, k⟩ := h
  refine ⟨C, B, O, σ, hb, R0, (KG.bind (rel := rO) k).imp fun x H1 ⟨o, σ1, O1, R1, F1, d1, k1⟩ => ?_⟩
  cases o with
  | lst xs =>
    obtain ⟨O2, R2, F2, d2⟩ := cold_of R1 d1
    exact k1 O2 x H1 R2 (F2 _ _ Fr.refl) d2
  | dk kvs => exact k1.elim

/-! ### calls of built-ins -/
/-- r on values, f on data; an object that stands still may be made -/
def CN (K : PySem.W.Frag) (r : List V → Hp → VK → Prop) (f : List D → Option D) : Prop := ∀ (G H : Hp) (vs : List V) (ds : List D) (c : D) (Q : VK), f ds = some c → Same G H → DpAll K G vs ds → (∀ v, Dp K G v c → Q v H) →
  (∀ p o, H p = none → (∀ G', Same G G' → G' p = some o → Dp K G' (.ref p) c) → Q (.ref p) (upd H p o)) → r vs H Q
/-- a new held list is made -/
def CNL (K : PySem.W.Frag) (r : List V → Hp → VK → Prop) (f : List D → Option (List D)) : Prop := ∀ (G H : Hp) (vs : List V) (ds : List D) (c : List D) (Q : VK), f ds = some c → Same G H → DpAll K G vs ds →
  (∀ p us, H p = none → DpAll K G us c → Q (.ref p) (upd H p (.lst us))) → r vs H Q
def mCB (f : List D → Option D) (m : M (List D)) : M D := fun σ => (m σ).bind fun xs σ1 => ofO (f xs) σ1
def mCBL (f : List D → Option (List D)) (m : M (List D)) : M OO := fun σ => (m σ).bind fun xs σ1 => ofO ((f xs).map OO.lst) σ1
theorem tCB_of {r : List V → Hp → VK → Prop} {f : List D → Option D} (hr : CN X.K r f) {y : St} {H : Hp} {Q : VK} (h : tG X.K cA W bs rD (mCB f ms) y H Q) : tCB r (tG X.K cA W bs rDs ms) y H Q := by
  obtain ⟨C, B, O, σ, hb, R0, k⟩ := h
  refine ⟨C, B, O, σ, hb, R0, (KG.bind (rel := rDs) k).imp fun x H1 ⟨xs, σ1, O1, R1, F1, d1, k1⟩ => ?_⟩
  obtain ⟨c, ec, q⟩ := k1.ofO
  refine hr (hide (O1 ++ C) H1) H1 x xs c Q ec hide_same d1 (fun v dv => q O1 v H1 R1 Fr.refl dv) fun p o hp hd => ?_
  obtain ⟨R3, F3⟩ := R1.laid (o := o) hp
  obtain ⟨s1, s2⟩ := hide_upd (o := o) hp (R1.ninA hp)
  exact q O1 (.ref p) _ R3 F3 (hd _ s1 s2)
theorem tCBL_of {r : List V → Hp → VK → Prop} {f : List D → Option (List D)} (hr : CNL X.K r f) {y : St} {H : Hp} {Q : VK} (h : tG X.K cA W bs rO (mCBL f ms) y H Q) : tCB r (tG X.K cA W bs rDs ms) y H Q := by
  obtain ⟨C, B, O, σ, hb, R0, k⟩ := h
  refine ⟨C, B, O, σ, hb, R0, (KG.bind (rel := rDs) k).imp fun x H1 ⟨xs, σ1, O1, R1, F1, d1, k1⟩ => ?_⟩
  cases ef : f xs with
  | none => rw [ef] at k1; exact k1.elim
  | some c =>
    rw [ef] at k1
    exact hr (hide (O1 ++ C) H1) H1 x xs c Q ef hide_same d1 fun p us hp du => rO_new R1 du hp k1

/-- one list or tuple of data: its items -/
def seq1 : List D → Option (List D)
  | [.list xs] => some xs
  | [.tuple xs] => some xs
  | _ => none
theorem dps1 {G : Hp} {vs : List V} {d : D} (h : DpAll K G vs [d]) : ∃ v, vs = [v] ∧ Dp K G v d := by
  cases h with
  | cons h t => cases t; exact ⟨_, rfl, h⟩
theorem dps2 {G : Hp} {vs : List V} {d d' : D} (h : DpAll K G vs [d, d']) : ∃ v v', vs = [v, v'] ∧ Dp K G v d ∧ Dp K G v' d' := by
  cases h with
  | cons h t =>
    obtain ⟨v', rfl, h'⟩ := dps1 t
    exact ⟨_, _, rfl, h, h'⟩
theorem seq1_inv {G H : Hp} {vs : List V} {ds xs : List D} (e : seq1 ds = some xs) (s : Same G H) (h : DpAll K G vs ds) : ∃ p us, vs = [.ref p] ∧ (SqL K H p us ∨ SqT K H p us) ∧ DpAll K G us xs := by
  unfold seq1 at e
  split at e
  · cases e
    obtain ⟨v, rfl, h9⟩ := dps1 h
    obtain ⟨p, us, rfl, t, r⟩ := h9.lst_inv
    exact ⟨p, us, rfl, .inl (sq_up s t), r⟩
  · cases e
    obtain ⟨v, rfl, h9⟩ := dps1 h
    obtain ⟨p, us, rfl, t, r⟩ := h9.tup_inv
    exact ⟨p, us, rfl, .inr (st_up s t), r⟩
  · cases e
def gLen : List D → Option D
  | [.str z] => if z.length ≤ sizeLine then some (.int z.length) else none
  | ds => (seq1 ds).map fun xs => .int xs.length
theorem cn_len : CN K (fun xs H Q => (∃ p ys, xs = [V.ref p] ∧ (SqL K H p ys ∨ SqT K H p ys) ∧ Q (V.int ys.length) H) ∨ ∃ z, xs = [V.str z] ∧ z.length ≤ sizeLine ∧ Q (V.int z.length) H) gLen := by
  intro G H vs ds c Q e s h q qn
  unfold gLen at e
  split at e
  · split at e
    · rename_i hl
      cases e
      obtain ⟨v, rfl, h9⟩ := dps1 h
      cases h9
      exact .inr ⟨_, rfl, hl, q _ (.int _)⟩
    · cases e
  · cases es : seq1 ds with
    | none => rw [es] at e; cases e
    | some xs =>
      rw [es] at e
      cases e
      obtain ⟨p, us, rfl, t, r⟩ := seq1_inv es s h
      exact .inl ⟨p, us, rfl, t, by rw [r.length]; exact q _ (.int _)⟩
theorem cr_len : CallR X (.builtin "len") (fun xs H Q => (∃ p ys, xs = [V.ref p] ∧ (SqL X.K H p ys ∨ SqT X.K H p ys) ∧ Q (V.int ys.length) H) ∨ ∃ z, xs = [V.str z] ∧ z.length ≤ sizeLine ∧ Q (V.int z.length) H) := call_len_seq.or call_len_str
def gAbs : List D → Option D
  | [.int i] => some (.int (if i < 0 then -i else i))
  | _ => none
theorem cn_abs : CN K (fun xs H Q => ∃ i, xs = [V.int i] ∧ Q (.int (if i < 0 then -i else i)) H) gAbs := by
  intro G H vs ds c Q e s h q qn
  unfold gAbs at e
  split at e
  · cases e
    obtain ⟨v, rfl, h9⟩ := dps1 h
    cases h9
    exact ⟨_, rfl, q _ (.int _)⟩
  · cases e
def gInt : List D → Option D
  | [.int i] => some (.int i)
  | [.bool k] => some (.int (if k then 1 else 0))
  | _ => none
theorem cn_int : CN K (fun xs H Q => (∃ i, xs = [V.int i] ∧ Q (.int i) H) ∨ ∃ k, xs = [V.bl k] ∧ Q (.int (if k then 1 else 0)) H) gInt := by
  intro G H vs ds c Q e s h q qn
  unfold gInt at e
  split at e
  · cases e
    obtain ⟨v, rfl, h9⟩ := dps1 h
    cases h9
    exact .inl ⟨_, rfl, q _ (.int _)⟩
  · cases e
    obtain ⟨v, rfl, h9⟩ := dps1 h
    cases h9
    exact .inr ⟨_, rfl, q _ (.int _)⟩
  · cases e
def gBool : List D → Option D
  | [.int i] => some (.bool (i != 0))
  | [.bool k] => some (.bool k)
  | _ => none
theorem cn_bool : CN K (fun xs H Q => (∃ i, xs = [V.int i] ∧ Q (.bl (i != 0)) H) ∨ ∃ k, xs = [V.bl k] ∧ Q (.bl k) H) gBool := by
  intro G H vs ds c Q e s h q qn
  unfold gBool at e
  split at e
  · cases e
    obtain ⟨v, rfl, h9⟩ := dps1 h
    cases h9
    exact .inl ⟨_, rfl, q _ (.bl _)⟩
  · cases e
    obtain ⟨v, rfl, h9⟩ := dps1 h
    cases h9
    exact .inr ⟨_, rfl, q _ (.bl _)⟩
  · cases e
def gMax2 : List D → Option D
  | [.int i, .int j] => some (.int (if j > i then j else i))
  | _ => none
theorem cn_max2 : CN K (fun xs H Q => ∃ i j, xs = [V.int i, .int j] ∧ Q (.int (if j > i then j else i)) H) gMax2 := by
  intro G H vs ds c Q e s h q qn
  unfold gMax2 at e
  split at e
  · cases e
    obtain ⟨v, v', rfl, h9, h8⟩ := dps2 h
    cases h9; cases h8
    exact ⟨_, _, rfl, q _ (.int _)⟩
  · cases e
def gMin2 : List D → Option D
  | [.int i, .int j] => some (.int (if j < i then j else i))
  | _ => none
theorem cn_min2 : CN K (fun xs H Q => ∃ i j, xs = [V.int i, .int j] ∧ Q (.int (if j < i then j else i)) H) gMin2 := by
  intro G H vs ds c Q e s h q qn
  unfold gMin2 at e
  split at e
  · cases e
    obtain ⟨v, v', rfl, h9, h8⟩ := dps2 h
    cases h9; cases h8
    exact ⟨_, _, rfl, q _ (.int _)⟩
  · cases e
def gGcd : List D → Option D
  | [.int i, .int j] => some (.int ((Nat.gcd i.natAbs j.natAbs : Nat) : Int))
  | _ => none
theorem cn_gcd : CN K rGcd gGcd := by
  intro G H vs ds c Q e s h q qn
  unfold gGcd at e
  split at e
  · cases e
    obtain ⟨v, v', rfl, h9, h8⟩ := dps2 h
    cases h9; cases h8
    exact ⟨_, _, rfl, q _ (.int _)⟩
  · cases e
/-- all ints of a list -/
def intsOf : List D → Option (List Int)
  | [] => some []
  | .int i :: r => (intsOf r).map (i :: ·)
  | _ => none
theorem intsOf_inv : ∀ {ds : List D} {ns : List Int}, intsOf ds = some ns → ds = ns.map PyData.int
  | [], ns, e => by cases e; rfl
  | .int i :: r, ns, e => by
    unfold intsOf at e
    cases h : intsOf r with
    | none => rw [h] at e; cases e
    | some ms => rw [h] at e; cases e; rw [intsOf_inv h]; rfl
  | .none :: _, _, e => by cases e
  | .bool _ :: _, _, e => by cases e
  | .str _ :: _, _, e => by cases e
  | .list _ :: _, _, e => by cases e
  | .tuple _ :: _, _, e => by cases e
  | .dict _ :: _, _, e => by cases e
theorem intsOf_map : ∀ ns : List Int, intsOf (ns.map PyData.int) = some ns
  | [] => rfl
  | i :: r => by
    show (intsOf (r.map PyData.int)).map (i :: ·) = _
    rw [intsOf_map r]; rfl
def boolsOf : List D → Option (List Bool)
  | [] => some []
  | .bool i :: r => (boolsOf r).map (i :: ·)
  | _ => none
theorem boolsOf_inv : ∀ {ds : List D} {ns : List Bool}, boolsOf ds = some ns → ds = ns.map PyData.bool
  | [], ns, e => by cases e; rfl
  | .bool i :: r, ns, e => by
    unfold boolsOf at e
    cases h : boolsOf r with
    | none => rw [h] at e; cases e
    | some ms => rw [h] at e; cases e; rw [boolsOf_inv h]; rfl
  | .none :: _, _, e => by cases e
  | .int _ :: _, _, e => by cases e
  | .str _ :: _, _, e => by cases e
  | .list _ :: _, _, e => by cases e
  | .tuple _ :: _, _, e => by cases e
  | .dict _ :: _, _, e => by cases e
theorem boolsOf_map : ∀ ns : List Bool, boolsOf (ns.map PyData.bool) = some ns
  | [] => rfl
  | i :: r => by
    show (boolsOf (r.map PyData.bool)).map (i :: ·) = _
    rw [boolsOf_map r]; rfl
theorem dps_bools {G : Hp} : ∀ {vs : List V} {ns : List Bool}, DpAll K G vs (ns.map PyData.bool) → vs = ns.map V.bl
  | [], [], _ => rfl
  | _ :: _, [], h => by cases h
  | [], _ :: _, h => by cases h
  | _ :: _, _ :: _, h => by
    cases h with
    | cons h t => cases h; rw [dps_bools t]; rfl

/-- a built-in of one list of data (of the list that a slot holds, too) -/
def CS (K : PySem.W.Frag) (r : List V → Hp → VK → Prop) (f : List D → Option D) : Prop := ∀ (G H : Hp) (p : Addr) (us : List V) (xs : List D) (c : D) (Q : VK), f xs = some c → Same G H → SqL K H p us → DpAll K G us xs → (∀ v, Dp K G v c → Q v H) →
  (∀ p o, H p = none → (∀ G', Same G G' → G' p = some o → Dp K G' (.ref p) c) → Q (.ref p) (upd H p o)) → r [.ref p] H Q
/-- .. that makes a held list -/
def CSL (K : PySem.W.Frag) (r : List V → Hp → VK → Prop) (f : List D → Option (List D)) : Prop := ∀ (G H : Hp) (p : Addr) (us : List V) (xs : List D) (c : List D) (Q : VK), f xs = some c → Same G H → SqL K H p us → DpAll K G us xs →
  (∀ p us, H p = none → DpAll K G us c → Q (.ref p) (upd H p (.lst us))) → r [.ref p] H Q
def lst1 : List D → Option (List D)
  | [.list xs] => some xs
  | _ => none
theorem lst1_inv {G H : Hp} {vs : List V} {ds xs : List D} (e : lst1 ds = some xs) (s : Same G H) (h : DpAll K G vs ds) : ∃ p us, vs = [.ref p] ∧ SqL K H p us ∧ DpAll K G us xs := by
  unfold lst1 at e
  split at e
  · cases e
    obtain ⟨v, rfl, h9⟩ := dps1 h
    obtain ⟨p, us, rfl, t, r⟩ := h9.lst_inv
    exact ⟨p, us, rfl, sq_up s t, r⟩
  · cases e
theorem CS.cn {r : List V → Hp → VK → Prop} {f : List D → Option D} (h : CS K r f) : CN K r (fun ds => (lst1 ds).bind f) := by
  intro G H vs ds c Q e s hd q qn
  have e : (lst1 ds).bind f = some c := e
  cases el : lst1 ds with
  | none => rw [el] at e; cases e
  | some xs =>
    rw [el] at e
    obtain ⟨p, us, rfl, t, r'⟩ := lst1_inv el s hd
    exact h G H p us xs c Q e s t r' q qn
theorem CSL.cnl {r : List V → Hp → VK → Prop} {f : List D → Option (List D)} (h : CSL K r f) : CNL K r (fun ds => (lst1 ds).bind f) := by
  intro G H vs ds c Q e s hd qn
  have e : (lst1 ds).bind f = some c := e
  cases el : lst1 ds with
  | none => rw [el] at e; cases e
  | some xs =>
    rw [el] at e
    obtain ⟨p, us, rfl, t, r'⟩ := lst1_inv el s hd
    exact h G H p us xs c Q e s t r' qn
def hLen (xs : List D) : Option D := some (.int xs.length)
theorem cs_len : CS K (fun xs H Q => (∃ p ys, xs = [V.ref p] ∧ (SqL K H p ys ∨ SqT K H p ys) ∧ Q (V.int ys.length) H) ∨ ∃ z, xs = [V.str z] ∧ z.length ≤ sizeLine ∧ Q (V.int z.length) H) hLen := by
  intro G H p us xs c Q e s t r q qn
  cases e
  exact .inl ⟨p, us, rfl, .inl t, by rw [r.length]; exact q _ (.int _)⟩
def hSum (xs : List D) : Option D := (intsOf xs).map fun ns => .int ns.sum
theorem cs_sum : CS K (rSum K) hSum := by
  intro G H p us xs c Q e s t r q qn
  unfold hSum at e
  cases ei : intsOf xs with
  | none => rw [ei] at e; cases e
  | some ns =>
    rw [ei] at e; cases e
    rw [intsOf_inv ei] at r
    rw [r.ints] at t
    exact ⟨p, ns, rfl, t, q _ (.int _)⟩
def hAll (xs : List D) : Option D := (boolsOf xs).map fun ns => .bool (ns.all id)
theorem cs_all : CS K (rAll K) hAll := by
  intro G H p us xs c Q e s t r q qn
  unfold hAll at e
  cases ei : boolsOf xs with
  | none => rw [ei] at e; cases e
  | some ns =>
    rw [ei] at e; cases e
    rw [boolsOf_inv ei] at r
    rw [dps_bools r] at t
    exact ⟨p, ns, rfl, t, q _ (.bl _)⟩
def hAny (xs : List D) : Option D := (boolsOf xs).map fun ns => .bool (ns.any id)
theorem cs_any : CS K (rAny K) hAny := by
  intro G H p us xs c Q e s t r q qn
  unfold hAny at e
  cases ei : boolsOf xs with
  | none => rw [ei] at e; cases e
  | some ns =>
    rw [ei] at e; cases e
    rw [boolsOf_inv ei] at r
    rw [dps_bools r] at t
    exact ⟨p, ns, rfl, t, q _ (.bl _)⟩
def hTuple (xs : List D) : Option D := some (.tuple xs)
abbrev rTupleB (K : PySem.W.Frag) : List V → Hp → VK → Prop := fun xs H Q => ∃ p ys, xs = [V.ref p] ∧ ((SqL K H p ys ∧ ∀ l, H l = none → Q (.ref l) (upd H l (.tup ys))) ∨ (SqT K H p ys ∧ Q (.ref p) H))
theorem cs_tuple : CS K (rTupleB K) hTuple := by
  intro G H p us xs c Q e s t r q qn
  cases e
  exact ⟨p, us, rfl, .inl ⟨t, fun l hl => qn l _ hl fun G' sg e => .tup (.inl (.inl e)) (dps_mono sg r)⟩⟩
def gTuple : List D → Option D
  | [.tuple xs] => some (.tuple xs)
  | [.list xs] => some (.tuple xs)
  | _ => none
theorem cn_tuple : CN K (rTupleB K) gTuple := by
  intro G H vs ds c Q e s h q qn
  unfold gTuple at e
  split at e
  · cases e
    obtain ⟨v, rfl, h9⟩ := dps1 h
    obtain ⟨p, us, rfl, t, r⟩ := h9.tup_inv
    exact ⟨p, us, rfl, .inr ⟨st_up s t, q _ (.tup t r)⟩⟩
  · cases e
    obtain ⟨v, rfl, h9⟩ := dps1 h
    obtain ⟨p, us, rfl, t, r⟩ := h9.lst_inv
    exact cs_tuple G H p us _ _ Q rfl s (sq_up s t) r q qn
  · cases e
abbrev rListB (K : PySem.W.Frag) : List V → Hp → VK → Prop := fun xs H Q => ∃ p ys, xs = [V.ref p] ∧ (SqL K H p ys ∨ SqT K H p ys) ∧ ∀ l, H l = none → Q (.ref l) (upd H l (.lst ys))
theorem cnl_list : CNL K (rListB K) seq1 := by
  intro G H vs ds c Q e s h qn
  obtain ⟨p, us, rfl, t, r⟩ := seq1_inv e s h
  exact ⟨p, us, rfl, t, fun l hl => qn l us hl r⟩
theorem csl_list : CSL K (rListB K) some := by
  intro G H p us xs c Q e s t r qn
  cases e
  exact ⟨p, us, rfl, .inl t, fun l hl => qn l us hl r⟩
/-- sorted of ints -/
def hSorted (xs : List D) : Option (List D) := (intsOf xs).map fun ns => (ns.mergeSort (fun i j => decide (i ≤ j))).map PyData.int
theorem sorted_unique : ∀ {as bs : List Int}, as.Perm bs → as.Pairwise (· ≤ ·) → bs.Pairwise (· ≤ ·) → as = bs
  | [], bs, h, _, _ => by rw [List.nil_perm.mp h]
  | a :: as, [], h, _, _ => by cases h.length_eq
  | a :: as, b :: bs, h, ha, hb => by
    have ha' := List.pairwise_cons.mp ha
    have hb' := List.pairwise_cons.mp hb
    have e : a = b := by
      have h1 : a ∈ b :: bs := h.subset List.mem_cons_self
      have h2 : b ∈ a :: as := h.symm.subset List.mem_cons_self
      rcases List.mem_cons.mp h1 with e | h1
      · exact e
      · rcases List.mem_cons.mp h2 with e | h2
        · exact e.symm
        · exact Int.le_antisymm (ha'.1 b h2) (hb'.1 a h1)
    subst e
    rw [sorted_unique (List.Perm.cons_inv h) ha'.2 hb'.2]
theorem sorted_is {ns ns' : List Int} (h : ns'.Perm ns) (p : ns'.Pairwise (· ≤ ·)) : ns' = ns.mergeSort (fun i j => decide (i ≤ j)) := by
  refine sorted_unique (h.trans (List.mergeSort_perm ns _).symm) p ?_
  have := List.pairwise_mergeSort (le := fun (i j : Int) => decide (i ≤ j)) (fun a b c h1 h2 => decide_eq_true (Int.le_trans (of_decide_eq_true h1) (of_decide_eq_true h2))) (fun a b => by
    rcases Int.le_total a b with h | h
    · simp [h]
    · simp [h]) ns
  exact this.imp fun h => of_decide_eq_true h
theorem csl_sorted : CSL K (rSortedI K) hSorted := by
  intro G H p us xs c Q e s t r qn
  unfold hSorted at e
  cases ei : intsOf xs with
  | none => rw [ei] at e; cases e
  | some ns =>
    rw [ei] at e; cases e
    rw [intsOf_inv ei] at r
    rw [r.ints] at t
    refine ⟨p, ns, rfl, t, fun ns' q hp hs hq => ?_⟩
    rw [sorted_is hp hs]
    exact qn q _ hq (.of_ints _)
end
end Pu

set_option Elab.async false
set_option linter.all false
set_option maxRecDepth 100000
set_option maxHeartbeats 2000000
namespace Pu
open PySem PySem.Spec L2
section
variable {X : Cx} {cA : String → Addr} {bs : Bs} {W : WX} {a b c e o : Expr} {es : List Expr} {ma mb mc : M D} {ms : M (List D)} {p pos apos cpos : Pos} {K : PySem.W.Frag} {x : Str} {id T : String} {r : List V → Hp → VK → Prop} {f : List D → Option D} {g : List D → Option (List D)}

theorem ie_callB (hc : CallR X (.builtin id) r) (hr : CN X.K r f) (ha : IA cA bs W X (e :: es) ms) (hg : Gl X x) (hm : X.mg x = none) (hv : bootBuiltins x = some (.builtin id)) (hn : x ≠ "__name__" := by decide) (hdb : (x == ("__debug__" : Str)) = false := by decide)
    (he : starEach (e :: es) X.env = (false, eval e X.env) :: starEach es X.env := by rfl) (hpl : (backTo pos (starEach es X.env)).any (·.1) = false := by rfl) : IE cA bs W X (.Call (.Name x p) (e :: es) [] pos) (mCB f ms) :=
  (pe_callB hc hg hm hv ha hn hdb he hpl).wk fun _ _ _ h => tCB_of hr h
theorem ie_callTy (hc : CallR X (.type T) r) (hr : CN X.K r f) (ha : IA cA bs W X (e :: es) ms) (hg : Gl X x) (hm : X.mg x = none) (hv : bootBuiltins x = some (.type T)) (hn : x ≠ "__name__" := by decide) (hdb : (x == ("__debug__" : Str)) = false := by decide)
    (he : starEach (e :: es) X.env = (false, eval e X.env) :: starEach es X.env := by rfl) (hpl : (backTo pos (starEach es X.env)).any (·.1) = false := by rfl) : IE cA bs W X (.Call (.Name x p) (e :: es) [] pos) (mCB f ms) :=
  (pe_callTy hc hg hm hv ha hn hdb he hpl).wk fun _ _ _ h => tCB_of hr h
theorem io_callB (hc : CallR X (.builtin id) r) (hr : CNL X.K r g) (ha : IA cA bs W X (e :: es) ms) (hg : Gl X x) (hm : X.mg x = none) (hv : bootBuiltins x = some (.builtin id)) (hn : x ≠ "__name__" := by decide) (hdb : (x == ("__debug__" : Str)) = false := by decide)
    (he : starEach (e :: es) X.env = (false, eval e X.env) :: starEach es X.env := by rfl) (hpl : (backTo pos (starEach es X.env)).any (·.1) = false := by rfl) : IO cA bs W X (.Call (.Name x p) (e :: es) [] pos) (mCBL g ms) :=
  (pe_callB hc hg hm hv ha hn hdb he hpl).wk fun _ _ _ h => tCBL_of hr h
theorem io_callTy (hc : CallR X (.type T) r) (hr : CNL X.K r g) (ha : IA cA bs W X (e :: es) ms) (hg : Gl X x) (hm : X.mg x = none) (hv : bootBuiltins x = some (.type T)) (hn : x ≠ "__name__" := by decide) (hdb : (x == ("__debug__" : Str)) = false := by decide)
    (he : starEach (e :: es) X.env = (false, eval e X.env) :: starEach es X.env := by rfl) (hpl : (backTo pos (starEach es X.env)).any (·.1) = false := by rfl) : IO cA bs W X (.Call (.Name x p) (e :: es) [] pos) (mCBL g ms) :=
  (pe_callTy hc hg hm hv ha hn hdb he hpl).wk fun _ _ _ h => tCBL_of hr h
/-- a function that the module has from a library (math.gcd) -/
theorem ie_callLib (hc : CallR X (.builtin id) r) (hr : CN X.K r f) (ha : IA cA bs W X (e :: es) ms) (hg : Gl X x) (hm : X.mg x = some (.builtin id)) (hdb : (x == ("__debug__" : Str)) = false := by decide)
    (he : starEach (e :: es) X.env = (false, eval e X.env) :: starEach es X.env := by rfl) (hpl : (backTo pos (starEach es X.env)).any (·.1) = false := by rfl) : IE cA bs W X (.Call (.Name x p) (e :: es) [] pos) (mCB f ms) :=
  (pe_callBfun hc hg hm ha hdb he hpl).wk fun _ _ _ h => tCB_of hr h

/-! ### what a slot's own list gives -/
/-- the items of the list that slot i holds -/
def slotL (σ : Loc) (i : Nat) : Option (List D) := match σ[i]? with | some (some (.o (.lst xs))) => some xs | _ => none
theorem slotL_inv {σ : Loc} {i : Nat} {xs : List D} (h : slotL σ i = some xs) : σ[i]? = some (some (.o (.lst xs))) := by
  unfold slotL at h
  split at h
  · rename_i q; cases h; exact q
  · cases h
def mOwn {α : Type} (i : Nat) (f : List D → Option α) : M α := fun σ => match slotL σ i with | some xs => ofO (f xs) σ | none => .stuck
theorem own_of {α β : Type} {rel : Rel β α} {C : List Addr} {B : Bx} {O : List Addr} {σ : Loc} {y : St} {H : Hp} {Q : β → Hp → Prop} {i : Nat} {fo : List D → ER α} (R0 : R K C B O σ y H)
    (k : KG K cA W rel C B O H y Q (match slotL σ i with | some xs => fo xs | none => .stuck)) : ∃ q vs xs, y[i]? = some (some (.ref q)) ∧ H q = some (.lst vs) ∧ q ∈ O ∧ DpAll K (hide (O ++ C) H) vs xs ∧ σ[i]? = some (some (.o (.lst xs))) ∧ KG K cA W rel C B O H y Q (fo xs) := by
  cases e : slotL σ i with
  | none => rw [e] at k; exact k.elim
  | some xs =>
    rw [e] at k
    obtain ⟨q, e1, e2, vs, e3, e4⟩ := R0.own i _ (slotL_inv e)
    exact ⟨q, vs, xs, e1, e3, e2, e4, slotL_inv e, k⟩
theorem tCBV_of {i : Nat} {f : List D → Option D} (hr : CS X.K r f) {y : St} {H : Hp} {Q : VK} (h : tG X.K cA W bs rD (mOwn i f) y H Q) : tCB r (tCons (tVar i) tNil) y H Q := by
  obtain ⟨C, B, O, σ, hb, R0, k⟩ := h
  obtain ⟨q, vs, xs, e1, e2, e3, e4, e5, k1⟩ := own_of R0 k
  obtain ⟨c, ec, qq⟩ := k1.ofO
  refine ⟨_, e1, hr (hide (O ++ C) H) H q vs xs c Q ec hide_same (.inl (.inl e2)) e4 (fun v dv => qq O v H R0 Fr.refl dv) fun p o hp hd => ?_⟩
  obtain ⟨R3, F3⟩ := R0.laid (o := o) hp
  obtain ⟨s1, s2⟩ := hide_upd (o := o) hp (R0.ninA hp)
  exact qq O (.ref p) _ R3 F3 (hd _ s1 s2)
theorem tCBLV_of {i : Nat} {g : List D → Option (List D)} (hr : CSL X.K r g) {y : St} {H : Hp} {Q : VK} (h : tG X.K cA W bs rO (mOwn i fun xs => (g xs).map OO.lst) y H Q) : tCB r (tCons (tVar i) tNil) y H Q := by
  obtain ⟨C, B, O, σ, hb, R0, k⟩ := h
  obtain ⟨q, vs, xs, e1, e2, e3, e4, e5, k1⟩ := own_of R0 k
  have k1 : KG X.K cA W rO C B O H y Q (ofO (Option.map OO.lst (g xs)) σ) := k1
  cases ef : g xs with
  | none => rw [ef] at k1; exact k1.elim
  | some c =>
    rw [ef] at k1
    exact ⟨_, e1, hr (hide (O ++ C) H) H q vs xs c Q ef hide_same (.inl (.inl e2)) e4 fun p us hp du => rO_new R0 du hp k1⟩
theorem ie_callBV {i : Nat} (hc : CallR X (.builtin id) r) (hr : CS X.K r f) (hv0 : PE X e (tVar i)) (hg : Gl X x) (hm : X.mg x = none) (hv : bootBuiltins x = some (.builtin id)) (hn : x ≠ "__name__" := by decide) (hdb : (x == ("__debug__" : Str)) = false := by decide)
    (he : starEach (e :: []) X.env = (false, eval e X.env) :: starEach [] X.env := by rfl) (hpl : (backTo pos (starEach [] X.env)).any (·.1) = false := by rfl) : IE cA bs W X (.Call (.Name x p) [e] [] pos) (mOwn i f) :=
  (pe_callB hc hg hm hv (pa_cons hv0 pa_nil he) hn hdb he hpl).wk fun _ _ _ h => tCBV_of hr h
theorem ie_callTyV {i : Nat} (hc : CallR X (.type T) r) (hr : CS X.K r f) (hv0 : PE X e (tVar i)) (hg : Gl X x) (hm : X.mg x = none) (hv : bootBuiltins x = some (.type T)) (hn : x ≠ "__name__" := by decide) (hdb : (x == ("__debug__" : Str)) = false := by decide)
    (he : starEach (e :: []) X.env = (false, eval e X.env) :: starEach [] X.env := by rfl) (hpl : (backTo pos (starEach [] X.env)).any (·.1) = false := by rfl) : IE cA bs W X (.Call (.Name x p) [e] [] pos) (mOwn i f) :=
  (pe_callTy hc hg hm hv (pa_cons hv0 pa_nil he) hn hdb he hpl).wk fun _ _ _ h => tCBV_of hr h
theorem io_callBV {i : Nat} (hc : CallR X (.builtin id) r) (hr : CSL X.K r g) (hv0 : PE X e (tVar i)) (hg : Gl X x) (hm : X.mg x = none) (hv : bootBuiltins x = some (.builtin id)) (hn : x ≠ "__name__" := by decide) (hdb : (x == ("__debug__" : Str)) = false := by decide)
    (he : starEach (e :: []) X.env = (false, eval e X.env) :: starEach [] X.env := by rfl) (hpl : (backTo pos (starEach [] X.env)).any (·.1) = false := by rfl) : IO cA bs W X (.Call (.Name x p) [e] [] pos) (mOwn i fun xs => (g xs).map OO.lst) :=
  (pe_callB hc hg hm hv (pa_cons hv0 pa_nil he) hn hdb he hpl).wk fun _ _ _ h => tCBLV_of hr h
theorem io_callTyV {i : Nat} (hc : CallR X (.type T) r) (hr : CSL X.K r g) (hv0 : PE X e (tVar i)) (hg : Gl X x) (hm : X.mg x = none) (hv : bootBuiltins x = some (.type T)) (hn : x ≠ "__name__" := by decide) (hdb : (x == ("__debug__" : Str)) = false := by decide)
    (he : starEach (e :: []) X.env = (false, eval e X.env) :: starEach [] X.env := by rfl) (hpl : (backTo pos (starEach [] X.env)).any (·.1) = false := by rfl) : IO cA bs W X (.Call (.Name x p) [e] [] pos) (mOwn i fun xs => (g xs).map OO.lst) :=
  (pe_callTy hc hg hm hv (pa_cons hv0 pa_nil he) hn hdb he hpl).wk fun _ _ _ h => tCBLV_of hr h

/-! ### isinstance -/
def tyN : D → String
  | .none => "NoneType" | .bool _ => "bool" | .int _ => "int" | .str _ => "str" | .list _ => "list" | .tuple _ => "tuple" | .dict _ => "dict"
theorem tyx {H : Hp} {v : V} {d : D} (h : Dp K H v d) : TyX K H v (.type (tyN d)) := by
  cases h with
  | non => exact .base .non
  | bl b => exact .base (.bl b)
  | int i => exact .base (.int i)
  | str x => exact .base (.str x)
  | lst h r =>
    rcases h with (h | ⟨o, h⟩) | ⟨o, its, n, h, hc, _⟩
    · exact .base (.lst h)
    · exact .base (.frz h)
    · exact .kList h hc
  | tup h r =>
    rcases h with (h | ⟨o, h⟩) | ⟨o, its, n, h, hc, _⟩
    · exact .base (.tup h)
    · exact .fTuple h
    · exact .kTuple h hc
def isInt : D → Bool
  | .int _ => true | .bool _ => true | _ => false
def isBool : D → Bool
  | .bool _ => true | _ => false
def isStr : D → Bool
  | .str _ => true | _ => false
def isTup : D → Bool
  | .tuple _ => true | _ => false
def isList : D → Bool
  | .list _ => true | _ => false
theorem kit_int : ∀ d : D, kitB (tyN d) "int" = some (isInt d)
  | .none => (by decide +kernel : kitB "NoneType" "int" = some false)
  | .bool _ => (by decide +kernel : kitB "bool" "int" = some true)
  | .int _ => (by decide +kernel : kitB "int" "int" = some true)
  | .str _ => (by decide +kernel : kitB "str" "int" = some false)
  | .list _ => (by decide +kernel : kitB "list" "int" = some false)
  | .tuple _ => (by decide +kernel : kitB "tuple" "int" = some false)
  | .dict _ => (by decide +kernel : kitB "dict" "int" = some false)
theorem kit_bool : ∀ d : D, kitB (tyN d) "bool" = some (isBool d)
  | .none => (by decide +kernel : kitB "NoneType" "bool" = some false)
  | .bool _ => (by decide +kernel : kitB "bool" "bool" = some true)
  | .int _ => (by decide +kernel : kitB "int" "bool" = some false)
  | .str _ => (by decide +kernel : kitB "str" "bool" = some false)
  | .list _ => (by decide +kernel : kitB "list" "bool" = some false)
  | .tuple _ => (by decide +kernel : kitB "tuple" "bool" = some false)
  | .dict _ => (by decide +kernel : kitB "dict" "bool" = some false)
theorem kit_str : ∀ d : D, kitB (tyN d) "str" = some (isStr d)
  | .none => (by decide +kernel : kitB "NoneType" "str" = some false)
  | .bool _ => (by decide +kernel : kitB "bool" "str" = some false)
  | .int _ => (by decide +kernel : kitB "int" "str" = some false)
  | .str _ => (by decide +kernel : kitB "str" "str" = some true)
  | .list _ => (by decide +kernel : kitB "list" "str" = some false)
  | .tuple _ => (by decide +kernel : kitB "tuple" "str" = some false)
  | .dict _ => (by decide +kernel : kitB "dict" "str" = some false)
theorem kit_tup : ∀ d : D, kitB (tyN d) "tuple" = some (isTup d)
  | .none => (by decide +kernel : kitB "NoneType" "tuple" = some false)
  | .bool _ => (by decide +kernel : kitB "bool" "tuple" = some false)
  | .int _ => (by decide +kernel : kitB "int" "tuple" = some false)
  | .str _ => (by decide +kernel : kitB "str" "tuple" = some false)
  | .list _ => (by decide +kernel : kitB "list" "tuple" = some false)
  | .tuple _ => (by decide +kernel : kitB "tuple" "tuple" = some true)
  | .dict _ => (by decide +kernel : kitB "dict" "tuple" = some false)
theorem kit_list : ∀ d : D, kitB (tyN d) "list" = some (isList d)
  | .none => (by decide +kernel : kitB "NoneType" "list" = some false)
  | .bool _ => (by decide +kernel : kitB "bool" "list" = some false)
  | .int _ => (by decide +kernel : kitB "int" "list" = some false)
  | .str _ => (by decide +kernel : kitB "str" "list" = some false)
  | .list _ => (by decide +kernel : kitB "list" "list" = some true)
  | .tuple _ => (by decide +kernel : kitB "tuple" "list" = some false)
  | .dict _ => (by decide +kernel : kitB "dict" "list" = some false)
theorem ie_isi {n : String} {t : D → Bool} (hk : ∀ d, kitB (tyN d) n = some (t d)) (ha : IE cA bs W X a ma) (hb : PE X b (tC (.ty n))) (hg : Gl X "isinstance") (hm : X.mg "isinstance" = none) (hv : bootBuiltins "isinstance" = some (.builtin "isinstance"))
    (hs : starEach (a :: [b]) X.env = (false, eval a X.env) :: starEach [b] X.env := by rfl) (hs2 : starEach (b :: []) X.env = (false, eval b X.env) :: starEach [] X.env := by rfl) (hpl : (backTo pos (starEach [b] X.env)).any (·.1) = false := by rfl) :
    IE cA bs W X (.Call (.Name "isinstance" p) [a, b] [] pos) (mUn (fun d => some (.bool (t d))) ma) :=
  (pe_callB call_isi hg hm hv (pa_cons ha (pa_cons hb pa_nil hs2) hs) (by decide) (by decide) hs hpl).wk fun y H Q h => by
    obtain ⟨C, B, O, σ, hb, R0, k⟩ := h
    refine ⟨C, B, O, σ, hb, R0, (KG.bind (rel := rD) k).imp fun v H1 ⟨d, σ1, O1, R1, F1, d1, k1⟩ => ?_⟩
    exact ⟨v, .ty n, .type (tyN d), .type n, t d, rfl, .ty n, tyx (dp_mono hide_same d1), kit_ty (hk d), k1 O1 _ H1 R1 Fr.refl (.bl _)⟩
/-- an own list is a list -/
theorem ie_isiV {n : String} {i : Nat} {t : Bool} (hk : kitB "list" n = some t) (ha : PE X a (tVar i)) (hb : PE X b (tC (.ty n))) (hg : Gl X "isinstance") (hm : X.mg "isinstance" = none) (hv : bootBuiltins "isinstance" = some (.builtin "isinstance"))
    (hs : starEach (a :: [b]) X.env = (false, eval a X.env) :: starEach [b] X.env := by rfl) (hs2 : starEach (b :: []) X.env = (false, eval b X.env) :: starEach [] X.env := by rfl) (hpl : (backTo pos (starEach [b] X.env)).any (·.1) = false := by rfl) :
    IE cA bs W X (.Call (.Name "isinstance" p) [a, b] [] pos) (mOwn i fun _ => some (.bool t)) :=
  (pe_callB call_isi hg hm hv (pa_cons ha (pa_cons hb pa_nil hs2) hs) (by decide) (by decide) hs hpl).wk fun y H Q h => by
    obtain ⟨C, B, O, σ, hb, R0, k⟩ := h
    obtain ⟨q, vs, xs, e1, e2, e3, e4, e5, k1⟩ := own_of R0 k
    exact ⟨_, e1, .ref q, .ty n, .type "list", .type n, t, rfl, .ty n, .base (.lst e2), kit_ty hk, k1 O _ H R0 Fr.refl (.bl _)⟩

/-! ### subscripts -/
theorem atI_dp {G : Hp} {vs : List V} {xs : List D} {i : Int} {d : D} (r : DpAll K G vs xs) (h : atI xs i = some d) : ∃ v, atI vs i = some v ∧ Dp K G v d := by
  unfold atI at h ⊢
  rw [r.length]
  cases e : ixN xs.length i with
  | none => rw [e] at h; cases h
  | some j =>
    rw [e] at h
    exact r.get h
def fIx : D → D → Option D
  | .list xs, .int i => atI xs i
  | .tuple xs, .int i => atI xs i
  | .str z, .int i => if z.length ≤ sizeLine then (atI z.cps.toList i).map fun c => .str ⟨#[c]⟩ else none
  | _, _ => none
theorem o2_ix : Op2N K (rIx K) fIx := by
  intro G H x z a b c Q e s h1 h2 q qn
  unfold fIx at e
  split at e
  · obtain ⟨p, us, rfl, t, r⟩ := h1.lst_inv
    cases h2
    obtain ⟨v, ev, dv⟩ := atI_dp r e
    exact .inl ⟨p, us, _, v, rfl, rfl, sq_up s t, ev, q _ dv⟩
  · obtain ⟨p, us, rfl, t, r⟩ := h1.tup_inv
    cases h2
    obtain ⟨v, ev, dv⟩ := atI_dp r e
    exact .inr (.inl ⟨p, us, _, v, rfl, rfl, st_up s t, ev, q _ dv⟩)
  · split at e
    · rename_i z i hl
      cases h1; cases h2
      cases ec : atI z.cps.toList i with
      | none => rw [ec] at e; cases e
      | some c =>
        rw [ec] at e; cases e
        exact .inr (.inr ⟨_, _, c, rfl, rfl, hl, ec, q _ (.str _)⟩)
    · cases e
  · cases e
theorem ie_ix (ha : IE cA bs W X a ma) (hb : IE cA bs W X b mb) (hs : PlainIx b := by intro _ _; rfl) : IE cA bs W X (.Subscript a b pos) (mBin fIx ma mb) := (pe_ix ix_seq ha hb hs).wk fun _ _ _ h => tOp_of o2_ix h
/-- an operation on a slot's own list and a value -/
def mOwn1 {α : Type} (i : Nat) (f : List D → D → Option α) (mb : M D) : M α := fun σ => match slotL σ i with
  | none => .stuck
  | some _ => (mb σ).bind fun b σ1 => match slotL σ1 i with | some xs => ofO (f xs b) σ1 | none => .stuck
def hIx (xs : List D) : D → Option D
  | .int i => atI xs i
  | _ => none
/-- r on a held list (its address is the first operand) -/
def OS1 (K : PySem.W.Frag) (r : R2) (f : List D → D → Option D) : Prop := ∀ (G H : Hp) (p : Addr) (us : List V) (z : V) (xs : List D) (b c : D) (Q : VK), f xs b = some c → Same G H → SqL K H p us → DpAll K G us xs → Dp K G z b → (∀ v, Dp K G v c → Q v H) → r (.ref p) z H Q
theorem tOpV_of {r : R2} {i : Nat} {f : List D → D → Option D} (hr : OS1 X.K r f) {y : St} {H : Hp} {Q : VK} (h : tG X.K cA W bs rD (mOwn1 i f mb) y H Q) : tOp r (tVar i) (tG X.K cA W bs rD mb) y H Q := by
  obtain ⟨C, B, O, σ, hb, R0, k⟩ := h
  obtain ⟨q, vs, xs, e1, e2, e3, e4, e5, k1⟩ := own_of (fo := fun _ => (mb σ).bind fun b σ1 => match slotL σ1 i with | some xs => ofO (f xs b) σ1 | none => .stuck) R0 (by
    unfold mOwn1 at k
    cases e : slotL σ i <;> rw [e] at k <;> exact k)
  refine ⟨_, e1, C, B, O, σ, hb, R0, (KG.bind (rel := rD) k1).imp fun z H2 ⟨b, σ2, O2, R2, F2, d2, k2⟩ => ?_⟩
  obtain ⟨q', vs', xs', f1, f2, f3, f4, f5, k3⟩ := own_of R2 k2
  rw [e1] at f1
  have z1 : q = q' := V.ref.inj (Option.some.inj (Option.some.inj f1))
  subst z1
  obtain ⟨c, ec, qq⟩ := k3.ofO
  exact hr (hide (O2 ++ C) H2) H2 q vs' z xs' b c Q ec hide_same (.inl (.inl f2)) f4 d2 fun v dv => qq O2 v H2 R2 Fr.refl dv
theorem os_ix : OS1 K (rIx K) hIx := by
  intro G H p us z xs b c Q e s t r h2 q
  cases b with
  | int i =>
    cases h2
    obtain ⟨v, ev, dv⟩ := atI_dp r e
    exact .inl ⟨p, us, _, v, rfl, rfl, t, ev, q _ dv⟩
  | _ => cases e
theorem ie_ixV {i : Nat} (ha : PE X a (tVar i)) (hb : IE cA bs W X b mb) (hs : PlainIx b := by intro _ _; rfl) : IE cA bs W X (.Subscript a b pos) (mOwn1 i hIx mb) := (pe_ix ix_seq ha hb hs).wk fun _ _ _ h => tOpV_of os_ix h
end
end Pu

set_option Elab.async false
set_option linter.all false
set_option maxRecDepth 100000
set_option maxHeartbeats 2000000
namespace Pu
open PySem PySem.Spec L2

/-! ### statements -/
inductive SR where
  | nx (σ : Loc)
  | rt (v : LV) (σ : Loc)
  | bk (σ : Loc)
  | ct (σ : Loc)
  | rs (x : Ex) (σ : Loc)
  | stuck
abbrev S := Loc → SR
def ER.toS {α : Type} (r : ER α) (f : α → Loc → SR) : SR :=
  match r with
  | .ok a σ => f a σ
  | .raise x σ => .rs x σ
  | .stuck => .stuck
/-- what a def hands back -/
def rR : Rel V LV := fun K C O B σ y H v r => match r with
  | .d x => rD K C O B σ y H v x
  | .o x => rO K C O B σ y H v x
  | .e _ => False
section
variable (K : PySem.W.Frag) (cA : String → Addr) (W : WX)
def KS (C : List Addr) (B : Bx) (O : List Addr) (H : Hp) (E : Ends) : SR → Prop
  | .nx σ => ∀ O' y H', R K C B O' σ y H' → Fr O H O' H' → E.nx y H'
  | .bk σ => ∀ O' y H', R K C B O' σ y H' → Fr O H O' H' → E.bk y H'
  | .ct σ => ∀ O' y H', R K C B O' σ y H' → Fr O H O' H' → E.ct y H'
  | .rt r σ => ∀ O' y H' v, R K C B O' σ y H' → Fr O H O' H' → rR K C O' B σ y H' v r → E.rt v H'
  | .rs x σ => ∀ O' y H' d fsv, R K C B O' σ y H' → Fr O H O' H' → hide (O' ++ C) H' d = some (.xd fsv) → FsOk K (hide (O' ++ C) H') fsv x.fs → W (.ref (cA x.c)) (some d) y H'
  | .stuck => False
def tS (bs : Bs) (m : S) : TS := fun E y H => ∃ C B O σ, B.is bs ∧ R K C B O σ y H ∧ KS K cA W C B O H E (m σ)
end
section
variable {K : PySem.W.Frag} {cA : String → Addr} {W : WX} {C : List Addr} {B : Bx} {O O1 : List Addr} {H H1 : Hp} {y : St} {α β : Type} {rel : Rel β α} {E : Ends}
theorem KS.on {r : SR} (h : KS K cA W C B O H E r) (f : Fr O H O1 H1) : KS K cA W C B O1 H1 E r := by
  cases r with
  | nx σ => exact fun O' y H' h1 h2 => h O' y H' h1 (f.trans h2)
  | bk σ => exact fun O' y H' h1 h2 => h O' y H' h1 (f.trans h2)
  | ct σ => exact fun O' y H' h1 h2 => h O' y H' h1 (f.trans h2)
  | rt r σ => exact fun O' y H' v h1 h2 h3 => h O' y H' v h1 (f.trans h2) h3
  | rs x σ => exact fun O' y H' d fsv h1 h2 h3 h4 => h O' y H' d fsv h1 (f.trans h2) h3 h4
  | stuck => exact h
theorem KS.bind {f : α → Loc → SR} {r : ER α} (h : KS K cA W C B O H E (r.toS f)) :
    KG K cA W rel C B O H y (fun b H1 => ∃ a σ1 O1, R K C B O1 σ1 y H1 ∧ Fr O H O1 H1 ∧ rel K C O1 B σ1 y H1 b a ∧ KS K cA W C B O1 H1 E (f a σ1)) r := by
  cases r with
  | ok a σ' => exact fun O' b H' h1 h2 h3 => ⟨a, σ', O', h1, h2, h3, h.on h2⟩
  | raise x σ' => exact fun O' H' d fsv h1 h2 h3 h4 => h O' y H' d fsv h1 h2 h3 h4
  | stuck => exact h
end
abbrev IS (cA : String → Addr) (bs : Bs) (W : WX) (X : Cx) (st : Stmt) (m : S) : Prop := PS X st (tS X.K cA W bs m)
abbrev ISs (cA : String → Addr) (bs : Bs) (W : WX) (X : Cx) (st : List Stmt) (m : S) : Prop := PSs X st (tS X.K cA W bs m)

def sSkip : S := fun σ => .nx σ
def SR.andThen (r : SR) (t : S) : SR := match r with
  | .nx σ => t σ
  | r => r
def sSeq (s t : S) : S := fun σ => (s σ).andThen t
def sIf (c : M Bool) (a b : S) : S := fun σ => (c σ).toS fun k σ1 => if k = true then a σ1 else b σ1
def sRet (m : M D) : S := fun σ => (m σ).toS fun d σ1 => .rt (.d d) σ1
def sRetN : S := fun σ => .rt (.d .none) σ
def sRetO (m : M OO) : S := fun σ => (m σ).toS fun o σ1 => .rt (.o o) σ1
def sExpr (m : M D) : S := fun σ => (m σ).toS fun _ σ1 => .nx σ1
/-- a target -/
abbrev Pt := D → Loc → Option Loc
def pName (i : Nat) : Pt := fun d σ => some (σ.set i (some (.d d)))
def pNil : List D → Loc → Option Loc := fun ds σ => match ds with | [] => some σ | _ => none
def pCons (p : Pt) (q : List D → Loc → Option Loc) : List D → Loc → Option Loc := fun ds σ => match ds with | d :: r => (p d σ).bind (q r) | _ => none
def pTup (q : List D → Loc → Option Loc) : Pt := fun d σ => match d with | .tuple ds => q ds σ | _ => none
def ofS (o : Option Loc) : SR := match o with | some σ => .nx σ | none => .stuck
def sAsg (m : M D) (p : Pt) : S := fun σ => (m σ).toS fun d σ1 => ofS (p d σ1)
def sSet (i : Nat) (m : M D) : S := sAsg m (pName i)
def sSetO (i : Nat) (m : M OO) : S := fun σ => (m σ).toS fun o σ1 => .nx (σ1.set i (some (.o o)))

/-- wipe, by indices -/
theorem wipe_get {y : St} {vs : List Nat} (i : Nat) : (wipe y vs)[i]? = if i ∈ vs ∧ i < y.length then some none else y[i]? := by
  induction vs with
  | nil => simp [wipe]
  | cons v vs ih =>
    unfold wipe
    by_cases e : v = i
    · subst e
      by_cases hl : v < y.length
      · rw [List.getElem?_set_self (by rw [wipe_length]; exact hl)]; simp [hl]
      · rw [List.set_eq_of_length_le (by rw [wipe_length]; omega), ih]; simp [hl]
    · rw [List.getElem?_set_ne e, ih]
      have : ¬ i = v := fun z => e z.symm
      simp [this]
theorem wipe_set {y : St} {vs : List Nat} {i : Nat} {v : Option V} (h : i ∈ vs) : wipe (y.set i v) vs = wipe y vs := by
  refine List.ext_getElem? fun j => ?_
  rw [wipe_get, wipe_get, List.length_set]
  by_cases e : j ∈ vs ∧ j < y.length
  · rw [if_pos e, if_pos e]
  · rw [if_neg e, if_neg e]
    by_cases q : i = j
    · subst q
      rw [List.set_eq_of_length_le (Nat.le_of_not_lt fun z => e ⟨h, z⟩)]
    · rw [List.getElem?_set_ne q]
def tP (K : PySem.W.Frag) (vs : List Nat) (bs : Bs) (p : Pt) : TG := fun v y H Q => ∃ C B O σ d, B.is bs ∧ R K C B O σ y H ∧ Dp K (hide (O ++ C) H) v d ∧ match p d σ with | some σ' => ∀ y', R K C B O σ' y' H → wipe y' vs = wipe y vs → Q y' H | none => False
def tPs (K : PySem.W.Frag) (vs : List Nat) (bs : Bs) (p : List D → Loc → Option Loc) : TGs := fun us y H Q => ∃ C B O σ ds, B.is bs ∧ R K C B O σ y H ∧ DpAll K (hide (O ++ C) H) us ds ∧ match p ds σ with | some σ' => ∀ y', R K C B O σ' y' H → wipe y' vs = wipe y vs → Q y' H | none => False
abbrev IG (vs : List Nat) (bs : Bs) (X : Cx) (tg : Expr) (p : Pt) : Prop := PG X tg (tP X.K vs bs p)
abbrev IGs (vs : List Nat) (bs : Bs) (X : Cx) (tg : List Expr) (p : List D → Loc → Option Loc) : Prop := PGs X tg (tPs X.K vs bs p)
theorem _root_.L2.PG.wk {X : Cx} {e : Expr} {t t' : TG} (h : PG X e t) (q : ∀ v y H Q, t' v y H Q → t v y H Q) : PG X e t' := ⟨fun pins s σ H v u Q I r k => h.run pins s σ H v u Q I r (q _ _ _ _ k)⟩
theorem _root_.L2.PGs.wk {X : Cx} {e : List Expr} {t t' : TGs} (h : PGs X e t) (q : ∀ v y H Q, t' v y H Q → t v y H Q) : PGs X e t' := ⟨fun pins s σ H v u Q I r k => h.run pins s σ H v u Q I r (q _ _ _ _ k)⟩

section
variable {X : Cx} {cA : String → Addr} {bs : Bs} {W : WX} {a b c e o tg : Expr} {es : List Expr} {ma mb mc : M D} {ms : M (List D)} {p pos apos cpos : Pos} {K : PySem.W.Frag} {x : Str} {st : Stmt} {sts : List Stmt} {s t u : S} {pt : Pt} {vs : List Nat}

theorem ig_name {i : Nat} (h : PG X tg (gName i)) (hb : bs.ids.contains i = false := by rfl) (hv : i ∈ vs := by simp) : IG vs bs X tg (pName i) := h.wk fun v y H Q h => by
  obtain ⟨C, B, O, σ, d, hB, R0, dd, k⟩ := h
  exact k _ (R0.setD dd (by
    rw [hB.1]
    intro z
    rw [List.contains_iff_mem.mpr z] at hb; cases hb)) (wipe_set hv)
theorem igs_nil : IGs vs bs X [] pNil := pgs_nil.wk fun v y H Q h => by
  obtain ⟨C, B, O, σ, d, hB, R0, dd, k⟩ := h
  cases dd with
  | nil => exact ⟨rfl, k _ R0 rfl⟩
  | cons h t => exact k.elim
theorem igs_cons {q : List D → Loc → Option Loc} (h1 : IG vs bs X e pt) (h2 : IGs vs bs X es q) (hs : (assignEach (e :: es) X.env).map (·.2) = assign e X.env :: (assignEach es X.env).map (·.2) := by rfl) : IGs vs bs X (e :: es) (pCons pt q) := (pgs_cons h1 h2 hs).wk fun v y H Q h => by
  obtain ⟨C, B, O, σ, ds, hB, R0, dd, k⟩ := h
  cases dd with
  | nil => exact k.elim
  | cons hd td =>
    rename_i v vr d ds
    refine ⟨v, vr, rfl, C, B, O, σ, d, hB, R0, hd, ?_⟩
    unfold pCons at k
    cases e : pt d σ with
    | none => simp only [e] at k; exact k.elim
    | some σ' =>
      simp only [e] at k
      refine fun y' R1 w1 => ⟨C, B, O, σ', ds, hB, R1, td, ?_⟩
      have k : match q ds σ' with | some σ' => ∀ y', R X.K C B O σ' y' H → wipe y' vs = wipe y vs → Q y' H | none => False := k
      cases e2 : q ds σ' with
      | none => rw [e2] at k; exact k.elim
      | some σ2 =>
        rw [e2] at k
        exact fun y2 R2 w2 => k y2 R2 (w2.trans w1)
theorem ig_tup {q : List D → Loc → Option Loc} {k : Nat} {n : Nat} (hc : X.calm = true) (h1 : IGs vs bs X es q) (hl : ∀ ds σ, (q ds σ).isSome = true → ds.length = n) (hn : (assignEach es X.env).length = n := by rfl) (hst : (assignEach es X.env).findIdx? (·.1) = none := by rfl) : IG vs bs X (.Tuple es k pos) (pTup q) := (pg_tup hc h1 hn hst).wk fun v y H Q h => by
  obtain ⟨C, B, O, σ, d, hB, R0, dd, k⟩ := h
  cases d with
  | tuple ds =>
    obtain ⟨a, us, rfl, t, r⟩ := dd.tup_inv
    cases e : q ds σ with
    | none => simp only [pTup, e] at k
    | some σ' =>
      simp only [pTup, e] at k
      exact ⟨a, us, rfl, st_up hide_same t, by rw [r.length]; exact hl ds σ (by rw [e]; rfl), C, B, O, σ, ds, hB, R0, r, by rw [e]; exact k⟩
  | _ => exact k.elim
theorem pNil_len {ds : List D} {σ : Loc} (h : (pNil ds σ).isSome = true) : ds.length = 0 := by
  cases ds with
  | nil => rfl
  | cons _ _ => cases h
theorem pCons_len {q : List D → Loc → Option Loc} {n : Nat} (hq : ∀ ds σ, (q ds σ).isSome = true → ds.length = n) : ∀ ds σ, (pCons pt q ds σ).isSome = true → ds.length = n + 1 := fun ds σ h => by
  cases ds with
  | nil => cases h
  | cons d r =>
    unfold pCons at h
    cases e : pt d σ with
    | none => simp [e] at h
    | some σ' => simp only [e] at h; rw [List.length_cons, hq r σ' h]
theorem is_nil : ISs cA bs W X [] sSkip := pss_nil.wk fun E y H h => by
  obtain ⟨C, B, O, σ, hB, R0, k⟩ := h
  exact k O y H R0 Fr.refl
theorem is_cons (h1 : IS cA bs W X st s) (h2 : ISs cA bs W X sts t) : ISs cA bs W X (st :: sts) (sSeq s t) := (pss_cons h1 h2).wk fun E y H h => by
  obtain ⟨C, B, O, σ, hB, R0, k⟩ := h
  refine ⟨C, B, O, σ, hB, R0, ?_⟩
  have k : KS X.K cA W C B O H E ((s σ).andThen t) := k
  cases e : s σ with
  | nx σ1 =>
    rw [e] at k
    have k : KS X.K cA W C B O H E (t σ1) := k
    exact fun O' y' H' R1 F1 => ⟨C, B, O', σ1, hB, R1, k.on F1⟩
  | bk σ1 => rw [e] at k; exact k
  | ct σ1 => rw [e] at k; exact k
  | rt r σ1 => rw [e] at k; exact k
  | rs x σ1 => rw [e] at k; exact k
  | stuck => rw [e] at k; exact k
theorem is_one (h : IS cA bs W X st s) : ISs cA bs W X [st] s := pss_one h
theorem is_pass : IS cA bs W X (.Pass pos) sSkip := ps_pass.wk fun E y H h => by
  obtain ⟨C, B, O, σ, hB, R0, k⟩ := h
  exact k O y H R0 Fr.refl
def sBreak : S := fun σ => .bk σ
def sCont : S := fun σ => .ct σ
theorem is_break : IS cA bs W X (.Break pos) sBreak := ps_break.wk fun E y H h => by
  obtain ⟨C, B, O, σ, hB, R0, k⟩ := h
  exact k O y H R0 Fr.refl
theorem is_cont : IS cA bs W X (.Continue pos) sCont := ps_continue.wk fun E y H h => by
  obtain ⟨C, B, O, σ, hB, R0, k⟩ := h
  exact k O y H R0 Fr.refl
theorem is_doc {x j pos'} : IS cA bs W X (.Expr (.Constant (.str x) j pos) pos') sSkip := ps_doc.wk fun E y H h => by
  obtain ⟨C, B, O, σ, hB, R0, k⟩ := h
  exact k O y H R0 Fr.refl
theorem is_expr {m : M D} (he : IE cA bs W X e m) (hs : swapsWith e none pos.line X.env = pure false := by rfl) : IS cA bs W X (.Expr e pos) (sExpr m) := (ps_expr he hs).wk fun E y H h => by
  obtain ⟨C, B, O, σ, hB, R0, k⟩ := h
  exact ⟨C, B, O, σ, hB, R0, (KS.bind (rel := rD) k).imp fun x H1 ⟨d, σ1, O1, R1, F1, d1, k1⟩ => k1 O1 y H1 R1 Fr.refl⟩
theorem is_ret {m : M D} (he : IE cA bs W X e m) : IS cA bs W X (.Return (some e) pos) (sRet m) := (ps_ret he).wk fun E y H h => by
  obtain ⟨C, B, O, σ, hB, R0, k⟩ := h
  exact ⟨C, B, O, σ, hB, R0, (KS.bind (rel := rD) k).imp fun x H1 ⟨d, σ1, O1, R1, F1, d1, k1⟩ => k1 O1 y H1 x R1 Fr.refl d1⟩
theorem is_retO {m : M OO} (he : IO cA bs W X e m) : IS cA bs W X (.Return (some e) pos) (sRetO m) := (ps_ret he).wk fun E y H h => by
  obtain ⟨C, B, O, σ, hB, R0, k⟩ := h
  exact ⟨C, B, O, σ, hB, R0, (KS.bind (rel := rO) k).imp fun x H1 ⟨d, σ1, O1, R1, F1, d1, k1⟩ => k1 O1 y H1 x R1 Fr.refl d1⟩
theorem is_retN : IS cA bs W X (.Return none pos) sRetN := ps_retN.wk fun E y H h => by
  obtain ⟨C, B, O, σ, hB, R0, k⟩ := h
  exact k O y H .non R0 Fr.refl Dp.non
theorem iteS_of {C : List Addr} {B : Bx} {O : List Addr} {H : Hp} {E : Ends} {c : Bool} {r1 r2 : SR} (k : KS K cA W C B O H E (if c = true then r1 else r2)) {P1 P2 : Prop}
    (h1 : KS K cA W C B O H E r1 → P1) (h2 : KS K cA W C B O H E r2 → P2) : if c = true then P1 else P2 := by
  cases c with
  | true => exact h1 k
  | false => exact h2 k
theorem is_if {m : M Bool} {sa sb : List Stmt} (hc : IT cA bs W X c m) (ha : ISs cA bs W X sa s) (hb : ISs cA bs W X sb t) : IS cA bs W X (.If c sa sb pos) (sIf m s t) := (ps_if hc ha hb).wk fun E y H h => by
  obtain ⟨C, B, O, σ, hB, R0, k⟩ := h
  refine ⟨C, B, O, σ, hB, R0, (KS.bind (rel := rB) k).imp fun x H1 ⟨d, σ1, O1, R1, F1, d1, k1⟩ => ?_⟩
  cases d1
  exact iteS_of k1 (fun k => ⟨C, B, O1, σ1, hB, R1, k⟩) fun k => ⟨C, B, O1, σ1, hB, R1, k⟩
theorem is_asg {m : M D} (he : IE cA bs W X e m) (hg : IG vs bs X tg pt) (hs : swapsWithSole [tg] e pos.line X.env = pure false := by rfl) (hw : swappedStores [tg] e X.env = pure none := by rfl) (h1 : (assignEach [tg] X.env).map (·.2) = [assign tg X.env] := by rfl) : IS cA bs W X (.Assign [tg] e pos) (sAsg m pt) := (ps_asg he hg hs hw h1).wk fun E y H h => by
  obtain ⟨C, B, O, σ, hB, R0, k⟩ := h
  refine ⟨C, B, O, σ, hB, R0, (KS.bind (rel := rD) k).imp fun x H1 ⟨d, σ1, O1, R1, F1, d1, k1⟩ => ⟨C, B, O1, σ1, d, hB, R1, d1, ?_⟩⟩
  cases eo : pt d σ1 with
  | none => rw [eo] at k1; exact k1.elim
  | some σ2 =>
    rw [eo] at k1
    exact fun y' R2 _ => k1 O1 y' H1 R2 Fr.refl
theorem is_set {i : Nat} {pos' : Pos} {m : M D} (hN : X.N.Nodup) (hi : X.N[i]? = some x) (hx : L2.Loc X.env.scope x) (he : IE cA bs W X e m) (hb : bs.ids.contains i = false := by rfl) (hs : swapsWith e (some (.Name x pos')) pos.line X.env = pure false := by rfl)
    (hf : X.fn x = true ∨ X.env.scope.names.lookup x = some .local := by first | exact .inl rfl | exact .inr rfl) : IS cA bs W X (.Assign [.Name x pos'] e pos) (sSet i m) := (ps_set hN hi hx he hs hf).wk fun E y H h => by
  obtain ⟨C, B, O, σ, hB, R0, k⟩ := h
  refine ⟨C, B, O, σ, hB, R0, (KS.bind (rel := rD) k).imp fun v H1 ⟨d, σ1, O1, R1, F1, d1, k1⟩ => ?_⟩
  exact k1 O1 _ H1 (R1.setD d1 (by
    rw [hB.1]
    intro z
    rw [List.contains_iff_mem.mpr z] at hb; cases hb)) Fr.refl
theorem is_setO {i : Nat} {pos' : Pos} {m : M OO} (hN : X.N.Nodup) (hi : X.N[i]? = some x) (hx : L2.Loc X.env.scope x) (he : IO cA bs W X e m) (hb : bs.ids.contains i = false := by rfl) (hs : swapsWith e (some (.Name x pos')) pos.line X.env = pure false := by rfl)
    (hf : X.fn x = true ∨ X.env.scope.names.lookup x = some .local := by first | exact .inl rfl | exact .inr rfl) : IS cA bs W X (.Assign [.Name x pos'] e pos) (sSetO i m) := (ps_set hN hi hx he hs hf).wk fun E y H h => by
  obtain ⟨C, B, O, σ, hB, R0, k⟩ := h
  refine ⟨C, B, O, σ, hB, R0, (KS.bind (rel := rO) k).imp fun v H1 ⟨d, σ1, O1, R1, F1, ⟨p, e1, e2, e3, e4, e5⟩, k1⟩ => ?_⟩
  subst e1
  exact k1 O1 _ H1 (R1.setO e2 e3 e4 e5 (by
    rw [hB.1]
    intro z
    rw [List.contains_iff_mem.mpr z] at hb; cases hb)) Fr.refl
end
end Pu

set_option Elab.async false
set_option linter.all false
set_option maxRecDepth 100000
set_option maxHeartbeats 2000000
namespace Pu
open PySem PySem.Spec L2

/-! ### what a loop walks -/
/-- J yields the data ds, one by one -/
def ItG (K : PySem.W.Frag) (J : It) (G0 : Hp) (ds : List D) : Prop := ∀ H, Same G0 H → ∀ i : Nat,
  (∀ d, ds[i]? = some d → J.go i H ∧ ∀ x H', J.yld i H x H' → (H' = H ∧ Dp K G0 x d) ∨ (∃ T o, x = V.ref T ∧ H T = none ∧ H' = upd H T o ∧ ∀ G', Same G0 G' → G' T = some o → Dp K G' (.ref T) d)) ∧ (ds.length ≤ i → J.stop i H)
def rIt : Rel It (List D) := fun K C O _ _ _ H J ds => ItG K J (hide (O ++ C) H) ds
abbrev II (cA : String → Addr) (bs : Bs) (W : WX) (X : Cx) (tg iter : Expr) (m : M (List D)) : Prop := PI X tg iter (tG X.K cA W bs rIt m)
theorem _root_.L2.PI.wk {X : Cx} {tg e : Expr} {t t' : TI} (h : PI X tg e t) (q : ∀ y H Q, t' y H Q → t y H Q) : PI X tg e t' := ⟨fun pins s σ H R I k => h.run pins s σ H R I (q _ _ _ k)⟩
theorem _root_.L2.PI.or {X : Cx} {tg e : Expr} {t t' : TI} (h : PI X tg e t) (h' : PI X tg e t') : PI X tg e (fun y H Q => t y H Q ∨ t' y H Q) := ⟨fun pins s σ H R I k => by
  rcases k with k | k
  · exact h.run pins s σ H R I k
  · exact h'.run pins s σ H R I k⟩
theorem itg_list {K : PySem.W.Frag} {a : Addr} {G0 : Hp} {vs : List V} {ds : List D} (h : SqL K G0 a vs) (r : DpAll K G0 vs ds) : ItG K (Itl K a) G0 ds := fun H s i => by
  refine ⟨fun d hd => ?_, fun hl => ⟨vs, same_sqL s h, by rw [r.length]; exact hl⟩⟩
  obtain ⟨v, ev, dv⟩ := r.get hd
  exact ⟨⟨vs, v, same_sqL s h, ev⟩, fun x H' ⟨e1, e2⟩ => .inl ⟨e1, by
    have e3 := e2 vs (same_sqL s h)
    rw [ev] at e3
    cases e3
    exact dv⟩⟩
theorem itg_tup {K : PySem.W.Frag} {a : Addr} {G0 : Hp} {vs : List V} {ds : List D} (h : SqT K G0 a vs) (r : DpAll K G0 vs ds) : ItG K (Itt K a) G0 ds := fun H s i => by
  refine ⟨fun d hd => ?_, fun hl => ⟨vs, same_sqT s h, by rw [r.length]; exact hl⟩⟩
  obtain ⟨v, ev, dv⟩ := r.get hd
  exact ⟨⟨vs, v, same_sqT s h, ev⟩, fun x H' ⟨e1, e2⟩ => .inl ⟨e1, by
    have e3 := e2 vs (same_sqT s h)
    rw [ev] at e3
    cases e3
    exact dv⟩⟩
def rangeD (lo : Int) (n : Nat) : List D := (List.range n).map fun i => .int (lo + (i : Nat))
theorem rangeD_get {lo : Int} {n i : Nat} {d : D} (h : (rangeD lo n)[i]? = some d) : i < n ∧ d = .int (lo + (i : Nat)) := by
  unfold rangeD at h
  rw [List.getElem?_map] at h
  by_cases hi : i < n
  · rw [List.getElem?_eq_getElem (by rw [List.length_range]; exact hi)] at h
    simp at h
    exact ⟨hi, h.symm⟩
  · rw [List.getElem?_eq_none (by rw [List.length_range]; omega)] at h
    cases h
theorem rangeD_len {lo : Int} {n : Nat} : (rangeD lo n).length = n := by unfold rangeD; rw [List.length_map, List.length_range]
theorem itg_range {K : PySem.W.Frag} {lo : Int} {n : Nat} {G0 : Hp} : ItG K (Itr lo n) G0 (rangeD lo n) := fun H s i => by
  refine ⟨fun d hd => ?_, fun hl => by rw [rangeD_len] at hl; exact hl⟩
  obtain ⟨h1, rfl⟩ := rangeD_get hd
  exact ⟨h1, fun x H' ⟨e1, e2⟩ => .inl ⟨e1, by subst e2; exact .int _⟩⟩
def enumD : Nat → List D → List D
  | _, [] => []
  | k, d :: r => .tuple [.int (k : Nat), d] :: enumD (k + 1) r
theorem enumD_get : ∀ {ds : List D} {k i : Nat} {d : D}, (enumD k ds)[i]? = some d → ∃ x, ds[i]? = some x ∧ d = .tuple [.int ((k + i : Nat) : Int), x]
  | [], k, i, d, h => by simp [enumD] at h
  | a :: r, k, 0, d, h => by simp [enumD] at h; exact ⟨a, rfl, h.symm⟩
  | a :: r, k, i + 1, d, h => by
    have h : (enumD (k + 1) r)[i]? = some d := h
    obtain ⟨x, e1, e2⟩ := enumD_get h
    refine ⟨x, e1, ?_⟩
    rw [e2, show k + 1 + i = k + (i + 1) by omega]
theorem enumD_len : ∀ {ds : List D} {k : Nat}, (enumD k ds).length = ds.length
  | [], _ => rfl
  | _ :: r, k => by show (enumD (k + 1) r).length + 1 = r.length + 1; rw [enumD_len]
theorem itg_enum {K : PySem.W.Frag} {a : Addr} {G0 : Hp} {vs : List V} {ds : List D} (h : SqL K G0 a vs) (r : DpAll K G0 vs ds) : ItG K (Ite K a) G0 (enumD 0 ds) := fun H s i => by
  refine ⟨fun d hd => ?_, fun hl => ⟨vs, same_sqL s h, by rw [enumD_len] at hl; rw [r.length]; exact hl⟩⟩
  obtain ⟨x0, ex, rfl⟩ := enumD_get hd
  obtain ⟨v, ev, dv⟩ := r.get ex
  refine ⟨⟨vs, v, same_sqL s h, ev⟩, fun x H' ⟨T, w, e0, e1, e2, e3⟩ => .inr ⟨T, _, e0, e1, e2, fun G' sg e => ?_⟩⟩
  have e3 := e3 vs (same_sqL s h)
  rw [ev] at e3
  cases e3
  rw [Nat.zero_add]
  exact .tup (.inl (.inl e)) (.cons (.int _) (.cons (dp_mono sg dv) .nil))
theorem rev_get {α : Type} {l : List α} {i : Nat} (h : i < l.length) : l.reverse[i]? = l[l.length - 1 - i]? := List.getElem?_reverse h
theorem itg_rev {K : PySem.W.Frag} {a : Addr} {G0 : Hp} {vs : List V} {ds : List D} (h : SqL K G0 a vs) (r : DpAll K G0 vs ds) : ItG K (Itv K a vs.length) G0 ds.reverse := fun H s i => by
  refine ⟨fun d hd => ?_, fun hl => by rw [List.length_reverse, ← r.length] at hl; exact hl⟩
  obtain ⟨v, ev, dv⟩ := r.reverse.get hd
  have hi : i < vs.length := by
    have := (List.getElem?_eq_some_iff.mp ev).1
    rw [List.length_reverse] at this; exact this
  rw [rev_get hi] at ev
  exact ⟨⟨hi, vs, v, same_sqL s h, ev⟩, fun x H' ⟨e1, e2⟩ => .inl ⟨e1, by
    have e3 := e2 vs (same_sqL s h)
    rw [ev] at e3
    cases e3
    exact dv⟩⟩
theorem itg_revT {K : PySem.W.Frag} {a : Addr} {G0 : Hp} {vs : List V} {ds : List D} (h : SqT K G0 a vs) (r : DpAll K G0 vs ds) : ItG K (RT.ItvT K a vs.length) G0 ds.reverse := fun H s i => by
  refine ⟨fun d hd => ?_, fun hl => by rw [List.length_reverse, ← r.length] at hl; exact hl⟩
  obtain ⟨v, ev, dv⟩ := r.reverse.get hd
  have hi : i < vs.length := by
    have := (List.getElem?_eq_some_iff.mp ev).1
    rw [List.length_reverse] at this; exact this
  rw [rev_get hi] at ev
  exact ⟨⟨hi, vs, v, same_sqT s h, ev⟩, fun x H' ⟨e1, e2⟩ => .inl ⟨e1, by
    have e3 := e2 vs (same_sqT s h)
    rw [ev] at e3
    cases e3
    exact dv⟩⟩
section
variable {X : Cx} {cA : String → Addr} {bs : Bs} {W : WX} {a b c e o tg iter : Expr} {es : List Expr} {ma mb mc : M D} {ms : M (List D)} {p pos apos cpos : Pos} {K : PySem.W.Frag} {x : Str} {st : Stmt} {sts : List Stmt} {s t u : S} {pt : Pt} {vs : List Nat}
def mSeq (m : M D) : M (List D) := fun σ => (m σ).bind fun d σ1 => match d with | .list xs => .ok xs σ1 | .tuple xs => .ok xs σ1 | _ => .stuck
theorem ii_seq {m : M D} (h : IE cA bs W X e m) : II cA bs W X tg e (mSeq m) := ((pi_list (tg := tg) h).or (pi_tup h)).wk fun y H Q h => by
  obtain ⟨C, B, O, σ, hB, R0, k⟩ := h
  unfold mSeq at k
  cases em : m σ with
  | stuck => rw [em] at k; exact k.elim
  | raise x σ1 =>
    rw [em] at k
    exact .inl ⟨C, B, O, σ, hB, R0, by rw [em]; exact k⟩
  | ok d σ1 =>
    rw [em] at k
    cases d with
    | list xs =>
      refine .inl ⟨C, B, O, σ, hB, R0, ?_⟩
      rw [em]
      intro O' v H' R1 F1 d1
      obtain ⟨a, vs, rfl, t, r⟩ := Dp.lst_inv d1
      exact ⟨a, rfl, ⟨vs, sq_up hide_same t⟩, k O' _ H' R1 F1 (itg_list t r)⟩
    | tuple xs =>
      refine .inr ⟨C, B, O, σ, hB, R0, ?_⟩
      rw [em]
      intro O' v H' R1 F1 d1
      obtain ⟨a, vs, rfl, t, r⟩ := Dp.tup_inv d1
      exact ⟨a, rfl, ⟨vs, st_up hide_same t⟩, k O' _ H' R1 F1 (itg_tup t r)⟩
    | _ => exact k.elim
def mRev (m : M D) : M (List D) := fun σ => (mSeq m σ).bind fun xs σ1 => .ok xs.reverse σ1
theorem ii_rev {m : M D} (h : IE cA bs W X e m) (hg : Gl X "reversed") (hm : X.mg "reversed" = none) (hs : starEach [e] X.env = (false, eval e X.env) :: starEach [] X.env := by rfl) : II cA bs W X tg (.Call (.Name "reversed" p) [e] [] pos) (mRev m) := (RT.pi_revA hg hm h hs).wk fun y H Q h => by
  obtain ⟨C, B, O, σ, hB, R0, k⟩ := h
  refine ⟨C, B, O, σ, hB, R0, ?_⟩
  unfold mRev mSeq at k
  cases em : m σ with
  | stuck => rw [em] at k; exact k.elim
  | raise x σ1 => rw [em] at k; exact k
  | ok d σ1 =>
    rw [em] at k
    cases d with
    | list xs =>
      intro O' v H' R1 F1 d1
      obtain ⟨a, vs, rfl, t, r⟩ := Dp.lst_inv d1
      exact ⟨a, vs, rfl, .inl ⟨sq_up hide_same t, k O' _ H' R1 F1 (itg_rev t r)⟩⟩
    | tuple xs =>
      intro O' v H' R1 F1 d1
      obtain ⟨a, vs, rfl, t, r⟩ := Dp.tup_inv d1
      exact ⟨a, vs, rfl, .inr ⟨st_up hide_same t, k O' _ H' R1 F1 (itg_revT t r)⟩⟩
    | _ => exact k.elim
def mRange1 (ms : M (List D)) : M (List D) := fun σ => (ms σ).bind fun ds σ1 => match ds with | [.int n] => if -(2 ^ 62) ≤ n ∧ n < 2 ^ 62 then .ok (rangeD 0 n.toNat) σ1 else .stuck | _ => .stuck
def mRange2 (ms : M (List D)) : M (List D) := fun σ => (ms σ).bind fun ds σ1 => match ds with | [.int i, .int j] => if (-(2 ^ 62) ≤ i ∧ i < 2 ^ 62 ∧ -(2 ^ 62) ≤ j ∧ j < 2 ^ 62) then .ok (rangeD i (j - i).toNat) σ1 else .stuck | _ => .stuck
theorem ii_range1 (hg : Gl X "range") (hm : X.mg "range" = none) (ha : IA cA bs W X [a] ms) (hs : starEach [a] X.env = [(false, eval a X.env)] := by rfl) : II cA bs W X tg (.Call (.Name "range" p) [a] [] pos) (mRange1 ms) := (pi_range1 hg hm ha hs).wk fun y H Q h => by
  obtain ⟨C, B, O, σ, hB, R0, k⟩ := h
  refine ⟨C, B, O, σ, hB, R0, (KG.bind (rel := rDs) k).imp fun x H1 ⟨ds, σ1, O1, R1, F1, d1, k1⟩ => ?_⟩
  split at k1
  · split at k1
    · rename_i n hn
      obtain ⟨v, rfl, h9⟩ := dps1 d1
      cases h9
      exact ⟨n, rfl, hn.1, hn.2, k1 O1 _ H1 R1 Fr.refl itg_range⟩
    · exact k1.elim
  · exact k1.elim
theorem ii_range2 (hg : Gl X "range") (hm : X.mg "range" = none) (ha : IA cA bs W X [a, b] ms) (hs : starEach [a, b] X.env = [(false, eval a X.env), (false, eval b X.env)] := by rfl) (hs2 : starEach [b] X.env = [(false, eval b X.env)] := by rfl) : II cA bs W X tg (.Call (.Name "range" p) [a, b] [] pos) (mRange2 ms) := (pi_range2 hg hm ha hs hs2).wk fun y H Q h => by
  obtain ⟨C, B, O, σ, hB, R0, k⟩ := h
  refine ⟨C, B, O, σ, hB, R0, (KG.bind (rel := rDs) k).imp fun x H1 ⟨ds, σ1, O1, R1, F1, d1, k1⟩ => ?_⟩
  split at k1
  · split at k1
    · rename_i i j hn
      obtain ⟨v, v', rfl, h9, h8⟩ := dps2 d1
      cases h9; cases h8
      exact ⟨i, j, rfl, hn, k1 O1 _ H1 R1 Fr.refl itg_range⟩
    · exact k1.elim
  · exact k1.elim
def mEnum (ms : M (List D)) : M (List D) := fun σ => (ms σ).bind fun ds σ1 => match ds with | [.list xs] => .ok (enumD 0 xs) σ1 | _ => .stuck
theorem ii_enum {elts : List Expr} {kk : Nat} {tpos : Pos} (hg : Gl X "enumerate") (hm : X.mg "enumerate" = none) (ha : IA cA bs W X [e] ms) (hs : starEach [e] X.env = [(false, eval e X.env)] := by rfl) : II cA bs W X (.Tuple elts kk tpos) (.Call (.Name "enumerate" p) [e] [] pos) (mEnum ms) := (pi_enum hg hm ha hs).wk fun y H Q h => by
  obtain ⟨C, B, O, σ, hB, R0, k⟩ := h
  refine ⟨C, B, O, σ, hB, R0, (KG.bind (rel := rDs) k).imp fun x H1 ⟨ds, σ1, O1, R1, F1, d1, k1⟩ => ?_⟩
  split at k1
  · obtain ⟨v, rfl, h9⟩ := dps1 d1
    obtain ⟨a, vs, rfl, t, r⟩ := h9.lst_inv
    exact ⟨a, vs, rfl, sq_up hide_same t, k1 O1 _ H1 R1 Fr.refl (itg_enum t r)⟩
  · exact k1.elim

/-! ### for -/
/-- what follows a turn's body -/
def SR.turn (r : SR) (rest : Loc → SR) : SR := match r with
  | .nx σ => rest σ
  | .ct σ => rest σ
  | .bk σ => .nx σ
  | r => r
def forD (pt : Pt) (body : S) : List D → Loc → SR
  | [], σ => .nx σ
  | d :: ds, σ => (ofS (pt d σ)).andThen fun σ1 => (body σ1).turn (forD pt body ds)
def sFor (m : M (List D)) (pt : Pt) (body : S) : S := fun σ => (m σ).toS fun ds σ1 => forD pt body ds σ1
theorem KS.turn {C : List Addr} {B : Bx} {O : List Addr} {H : Hp} {E : Ends} {r : SR} {rest : Loc → SR} {N : St → Hp → Prop} (k : KS K cA W C B O H E (r.turn rest))
    (hN : ∀ O' σ' y' H', R K C B O' σ' y' H' → Fr O H O' H' → KS K cA W C B O' H' E (rest σ') → N y' H') : KS K cA W C B O H { E with nx := N, ct := N, bk := E.nx } r := by
  cases r with
  | nx σ => exact fun O' y H' h1 h2 => hN O' σ y H' h1 h2 (KS.on (K := K) (cA := cA) (W := W) (r := rest σ) k h2)
  | ct σ => exact fun O' y H' h1 h2 => hN O' σ y H' h1 h2 (KS.on (K := K) (cA := cA) (W := W) (r := rest σ) k h2)
  | bk σ => exact k
  | rt r σ => exact k
  | rs x σ => exact k
  | stuck => exact k
theorem is_for {m : M (List D)} {body : List Stmt} (hp : PassesOwn (model X.prog X.w) X.A X.env X.xe) (hc : X.calm = true) (hi : II cA bs W X tg iter m) (hg : IG vs bs X tg pt) (hb : ISs cA bs W X body s) (hs : ∀ x, foldedSetIterable iter X.env x = pure x := by intro _; rfl) : IS cA bs W X (.For tg iter body [] pos) (sFor m pt s) :=
  (ps_for hp hc hi hg hb hs).wk fun E y H h => by
    obtain ⟨C, B, O, σ, hB, R0, k⟩ := h
    refine ⟨C, B, O, σ, hB, R0, (KS.bind (rel := rIt) k).imp fun J H1 ⟨ds, σ1, O1, R1, F1, d1, k1⟩ => ?_⟩
    refine ⟨fun i n y' H' => n = ds.length - i ∧ i ≤ ds.length ∧ ∃ O' σ', R X.K C B O' σ' y' H' ∧ Fr O1 H1 O' H' ∧ KS X.K cA W C B O' H' E (forD pt s (ds.drop i) σ'),
      ⟨ds.length, rfl, Nat.zero_le _, O1, σ1, R1, Fr.refl, k1⟩, ?_⟩
    rintro i n y' H' ⟨rfl, hi, O', σ', R2, F2, k2⟩
    have sm : Same (hide (O1 ++ C) H1) H' := fun a o e => (hide_some (F2.vis a o e)).2
    obtain ⟨g1, g2⟩ := d1 H' sm i
    by_cases hl : i < ds.length
    · obtain ⟨q1, q2⟩ := g1 ds[i] (List.getElem?_eq_getElem hl)
      refine .inr ⟨q1, fun y3 H3 => ∃ O3 σ3, R X.K C B O3 σ3 y3 H3 ∧ Fr O1 H1 O3 H3 ∧ KS X.K cA W C B O3 H3 E (forD pt s (ds.drop (i + 1)) σ3), fun y3 H3 ⟨O3, σ3, R3, F3, k3⟩ => ⟨ds.length - (i + 1), by omega, rfl, hl, O3, σ3, R3, F3, k3⟩, fun x H2 hy => ?_⟩
      rw [List.drop_eq_getElem_cons hl] at k2
      have k2 : KS X.K cA W C B O' H' E ((ofS (pt ds[i] σ')).andThen fun σ1 => (s σ1).turn (forD pt s (ds.drop (i + 1)))) := k2
      obtain ⟨R4, F4, dx⟩ : R X.K C B O' σ' y' H2 ∧ Fr O' H' O' H2 ∧ Dp X.K (hide (O' ++ C) H2) x ds[i] := by
        rcases q2 x H2 hy with ⟨rfl, dx⟩ | ⟨T, o, rfl, hT, rfl, dx⟩
        · exact ⟨R2, Fr.refl, dp_mono F2.vis dx⟩
        · obtain ⟨R3, F3⟩ := R2.laid (o := o) hT
          obtain ⟨s1, s2⟩ := hide_upd (o := o) hT (R2.ninA hT)
          exact ⟨R3, F3, dx _ (fun a o e => s1 a o (F2.vis a o e)) s2⟩
      refine ⟨C, B, O', σ', ds[i], hB, R4, dx, ?_⟩
      cases ep : pt ds[i] σ' with
      | none => rw [ep] at k2; exact k2.elim
      | some σ4 =>
        rw [ep] at k2
        exact fun y4 R5 _ => ⟨C, B, O', σ4, hB, R5, KS.turn (k2.on F4) fun O5 σ5 y5 H5 R6 F6 k6 => ⟨O5, σ5, R6, (F2.trans F4).trans F6, k6⟩⟩
    · have e : i = ds.length := by omega
      subst e
      rw [List.drop_length] at k2
      exact .inl ⟨g2 (Nat.le_refl _), k2 O' y' H' R2 Fr.refl⟩

/-! ### while -/
def whileD (c : M Bool) (body : S) : Nat → Loc → SR
  | 0, _ => .stuck
  | n + 1, σ => (c σ).toS fun k σ1 => if k = true then (body σ1).turn (whileD c body n) else .nx σ1
theorem is_while {m : M Bool} {body : List Stmt} (n : Nat) (hp : PassesOwn (model X.prog X.w) X.A X.env X.xe) (hc : IT cA bs W X c m) (hb : ISs cA bs W X body s) : IS cA bs W X (.While c body [] pos) (whileD m s n) :=
  (ps_while hp hc hb).wk fun E y H h => by
    obtain ⟨C, B, O, σ, hB, R0, k⟩ := h
    refine ⟨fun n y' H' => ∃ O' σ', R X.K C B O' σ' y' H' ∧ KS X.K cA W C B O' H' E (whileD m s n σ'), ⟨n, O, σ, R0, k⟩, ?_⟩
    rintro n y' H' ⟨O', σ', R2, k2⟩
    cases n with
    | zero => exact k2.elim
    | succ n =>
      refine ⟨C, B, O', σ', hB, R2, (KS.bind (rel := rB) k2).imp fun b H1 ⟨kk, σ1, O1, R1, F1, d1, k1⟩ => ?_⟩
      cases d1
      refine iteS_of k1 (fun k => ?_) fun k => k O1 y' H1 R1 Fr.refl
      exact ⟨fun y3 H3 => ∃ O3 σ3, R X.K C B O3 σ3 y3 H3 ∧ KS X.K cA W C B O3 H3 E (whileD m s n σ3), fun y3 H3 q => ⟨n, Nat.lt_succ_self _, q⟩, C, B, O1, σ1, hB, R1, KS.turn k fun O5 σ5 y5 H5 R6 F6 k6 => ⟨O5, σ5, R6, k6⟩⟩
end
end Pu

set_option Elab.async false
set_option linter.all false
set_option maxRecDepth 100000
set_option maxHeartbeats 2000000
namespace Pu
open PySem PySem.Spec L2

/-! ### comprehensions -/
abbrev W0 : WX := fun _ _ _ _ => False
def ER.calm {α : Type} (r : ER α) : ER α := match r with
  | .raise _ _ => .stuck
  | r => r
def dropS (vs : List Nat) (σ : Loc) : Loc := vs.foldr (fun v σ => σ.set v none) σ
theorem dropS_len {σ : Loc} : ∀ {vs : List Nat}, (dropS vs σ).length = σ.length
  | [] => rfl
  | v :: vs => by show ((dropS vs σ).set v none).length = _; rw [List.length_set, dropS_len]
theorem dropS_none {σ : Loc} {j : Nat} {z : LV} : ∀ {vs : List Nat}, (dropS vs σ)[j]? = some (some z) → j ∉ vs ∧ σ[j]? = some (some z)
  | [], h => ⟨by simp, h⟩
  | v :: vs, h => by
    have h : ((dropS vs σ).set v none)[j]? = some (some z) := h
    rcases get_set h with ⟨_, _, e⟩ | ⟨h1, h2⟩
    · cases e
    · obtain ⟨h3, h4⟩ := dropS_none h2
      exact ⟨fun q => (List.mem_cons.mp q).elim h1 h3, h4⟩
def compD (pt : Pt) (t : M Bool) (me : M D) (vs : List Nat) : List D → List D → Loc → ER OO
  | [], acc, σ => .ok (.lst acc) σ
  | d :: ds, acc, σ => match pt d σ with
    | none => .stuck
    | some σ1 => ((t σ1).calm).bind fun k σ2 => if k = true then ((me σ2).calm).bind fun v σ3 => compD pt t me vs ds (acc ++ [v]) (dropS vs σ3) else compD pt t me vs ds acc (dropS vs σ2)
def mComp (m : M (List D)) (pt : Pt) (t : M Bool) (me : M D) (vs : List Nat) : M OO := fun σ => (m σ).bind fun ds σ1 => if ds.length ≤ 1000000 then compD pt t me vs ds [] (dropS vs σ1) else .stuck
section
variable {K : PySem.W.Frag} {cA : String → Addr} {W : WX} {C : List Addr} {B : Bx} {O O1 : List Addr} {H H1 : Hp} {y y2 : St} {α β γ δ : Type} {rel : Rel β α} {rel2 : Rel δ γ} {Q : β → Hp → Prop} {Q2 : δ → Hp → Prop} {bs : Bs} {vs : List Nat} {σ : Loc}
theorem KG.bindC {C' : List Addr} {B' : Bx} {O' : List Addr} {H' : Hp} {f : α → Loc → ER γ} {r : ER α} (h : KG K cA W rel2 C B O H y Q2 (r.calm.bind f)) :
    KG K cA W0 rel C' B' O' H' y2 (fun b H1 => ∃ a σ1 O1, R K C' B' O1 σ1 y2 H1 ∧ Fr O' H' O1 H1 ∧ rel K C' O1 B' σ1 y2 H1 b a ∧ KG K cA W rel2 C B O H y Q2 (f a σ1)) r := by
  cases r with
  | ok a σ' => exact fun O' b H' h1 h2 h3 => ⟨a, σ', O', h1, h2, h3, h⟩
  | raise x σ' => exact h.elim
  | stuck => exact h
/-- a new held object, set aside -/
theorem R.aside (r : R K C B O σ y H) {p : Addr} {u : HO} (h : H p = none) : R K (p :: C) B O σ y (upd H p u) := by
  have np := r.nin h
  have ne : ∀ a o, H a = some o → a ≠ p := fun a o e => ne_of_none e h
  have hv : Same (hide (O ++ C) H) (hide (O ++ p :: C) (upd H p u)) := fun a o e => by
    obtain ⟨n, q⟩ := hide_some e
    refine hide_mk (fun z => ?_) (by rw [upd_ne (ne a o q)]; exact q)
    rcases List.mem_append.mp z with z | z
    · exact n (List.mem_append_left _ z)
    · rcases List.mem_cons.mp z with z | z
      · exact ne a o q z
      · exact n (List.mem_append_right _ z)
  refine ⟨r.len, fun i x e => ?_, fun i x e => ?_, r.inj, r.pin, fun a ha => ?_, r.bin, fun a ha z => ?_, r.pinO, r.excK hv, r.exl⟩
  · obtain ⟨v, e1, e2⟩ := r.dat i x e
    exact ⟨v, e1, dp_mono hv e2⟩
  · obtain ⟨a, e1, e2, e3⟩ := r.own i x e
    obtain ⟨o, ho⟩ := e3.there
    exact ⟨a, e1, e2, e3.mono hv (upd_ne (ne a o ho))⟩
  · by_cases q : a = p
    · subst q; exact ⟨u, upd_same⟩
    · rw [upd_ne q]
      rcases ha with ha | ha
      · exact r.trk a (.inl ha)
      · rcases List.mem_cons.mp ha with z | z
        · exact absurd z q
        · exact r.trk a (.inr z)
  · rcases List.mem_cons.mp z with z | z
    · subst z; exact np.1 ha
    · exact r.dis a ha z
/-- .. and taken back -/
theorem R.back {p : Addr} (r : R K (p :: C) B O σ y H) (hC : p ∉ C) : R K C B (p :: O) σ y H := by
  have hv : Same (hide (O ++ p :: C) H) (hide ((p :: O) ++ C) H) := fun a o e => by
    obtain ⟨n, q⟩ := hide_some e
    refine hide_mk (fun z => n ?_) q
    rw [List.mem_append, List.mem_cons] at z ⊢
    rcases z with (z | z) | z
    · exact .inr (.inl z)
    · exact .inl z
    · exact .inr (.inr z)
  refine ⟨r.len, fun i x e => ?_, fun i x e => ?_, r.inj, r.pin, fun a ha => ?_, fun q hq => List.mem_cons_of_mem _ (r.bin q hq), fun a ha z => ?_, r.pinO, r.excK hv, r.exl⟩
  · obtain ⟨v, e1, e2⟩ := r.dat i x e
    exact ⟨v, e1, dp_mono hv e2⟩
  · obtain ⟨a, e1, e2, e3⟩ := r.own i x e
    exact ⟨a, e1, List.mem_cons_of_mem _ e2, e3.mono hv rfl⟩
  · rcases ha with ha | ha
    · rcases List.mem_cons.mp ha with z | z
      · exact r.trk a (.inr (by rw [z]; exact List.mem_cons_self))
      · exact r.trk a (.inl z)
    · exact r.trk a (.inr (List.mem_cons_of_mem _ ha))
  · rcases List.mem_cons.mp ha with q | q
    · exact hC (q ▸ z)
    · exact r.dis a q (List.mem_cons_of_mem _ z)
/-- what is set aside may be changed: the rest stands as before -/
theorem R.asideUpd {p : Addr} {u : HO} (r : R K (p :: C) B O σ y H) : R K (p :: C) B O σ y (upd H p u) ∧ Same (hide (O ++ p :: C) H) (hide (O ++ p :: C) (upd H p u)) := by
  have hp : p ∈ O ++ p :: C := List.mem_append_right _ List.mem_cons_self
  have hv : Same (hide (O ++ p :: C) H) (hide (O ++ p :: C) (upd H p u)) := fun a o e => by
    obtain ⟨n, q⟩ := hide_some e
    exact hide_mk n (by rw [upd_ne fun z => n (by rw [z]; exact hp)]; exact q)
  refine ⟨⟨r.len, fun i x e => ?_, fun i x e => ?_, r.inj, r.pin, fun a ha => ?_, r.bin, r.dis, r.pinO, r.excK hv, r.exl⟩, hv⟩
  · obtain ⟨v, e1, e2⟩ := r.dat i x e
    exact ⟨v, e1, dp_mono hv e2⟩
  · obtain ⟨a, e1, e2, e3⟩ := r.own i x e
    exact ⟨a, e1, e2, e3.mono hv (upd_ne fun z => r.dis a e2 (by rw [z]; exact List.mem_cons_self))⟩
  · by_cases q : a = p
    · subst q; exact ⟨u, upd_same⟩
    · rw [upd_ne q]; exact r.trk a ha
/-- slots that hold nothing may hold anything below -/
theorem R.reslot (r : R K C B O σ y H) (hl : y2.length = y.length) (hs : ∀ (j : Nat) (z : LV), σ[j]? = some (some z) → y2[j]? = y[j]?) (hB : ∀ j ∈ B.ids, y2[j]? = y[j]?) : R K C B O σ y2 H := by
  refine ⟨r.len.trans hl.symm, fun i x e => ?_, fun i x e => ?_, fun i j x z a e1 e2 e3 e4 => ?_, fun p hp => ?_, r.trk, r.bin, r.dis, fun p hp i x e1 e2 => ?_, fun q hq => ?_, r.exl⟩
  · rw [hs i _ e]; exact r.dat i x e
  · rw [hs i _ e]; exact r.own i x e
  · rw [hs i _ e1] at e3; rw [hs j _ e2] at e4; exact r.inj i j x z a e1 e2 e3 e4
  · rw [hB p.1 (Bx.inr hp)]; exact r.pin p hp
  · rw [hs i _ e1] at e2; exact r.pinO p hp i x e1 e2
  · rw [hB q.i (Bx.ine hq)]; exact r.exc q hq
theorem R.dropS (r : R K C B O σ y H) : ∀ vs : List Nat, R K C B O (Pu.dropS vs σ) y H
  | [] => r
  | v :: vs => (R.dropS r vs).drop v
theorem nB {bs : Bs} (hb : B.is bs) (hv : ∀ i ∈ vs, i ∉ bs.ids) : ∀ p ∈ B.ids, p ∉ vs := fun p hp z => hv _ z (hb.1 ▸ hp)
end

section
variable {X : Cx} {cA : String → Addr} {bs : Bs} {W : WX} {a b c e o tg iter elt : Expr} {es ifs : List Expr} {ma mb mc me : M D} {ms : M (List D)} {p pos apos cpos : Pos} {K : PySem.W.Frag} {x : Str} {st : Stmt} {sts : List Stmt} {s t u : S} {pt : Pt} {vs : List Nat} {tt : M Bool}
abbrev ITs (cA : String → Addr) (bs : Bs) (W : WX) (X : Cx) (es : List Expr) (m : M Bool) : Prop := PTs X es (tG X.K cA W bs rB m)
theorem its_nil : ITs cA bs W X [] (mPure true) := ⟨fun pins s σ H Q I h => pts_nil.run pins s σ H Q I (by
  obtain ⟨C, B, O, σ, hB, R0, k⟩ := h
  exact k O true H R0 Fr.refl rfl)⟩
theorem its_one (h : IT cA bs W X e tt) : ITs cA bs W X [e] tt := pts_one h
theorem tLc_of {m : M (List D)} (hv : ∀ i ∈ vs, i ∉ bs.ids) {y : St} {H : Hp} {Q : VK} (h : tG X.K cA W bs rO (mComp m pt tt me vs) y H Q) :
    tLc (tG X.K cA W bs rIt m) (tP X.K vs bs pt) (tG X.K cA W0 bs rB tt) (tG X.K cA W0 bs rD me) vs y H Q := by
  obtain ⟨C, B, O, σ, hB, R0, k⟩ := h
  refine ⟨C, B, O, σ, hB, R0, (KG.bind (rel := rIt) k).imp fun J H1 ⟨ds, σ1, O1, R1, F1, d1, k1⟩ => ?_⟩
  intro Dd hD
  by_cases hz : ds.length ≤ 1000000
  · rw [if_pos hz] at k1
    have np := nB hB hv
    have wl : (wipe y vs).length = y.length := wipe_length y vs
    have wo : ∀ j : Nat, j ∉ vs → (wipe y vs)[j]? = y[j]? := fun j hj => wipe_out hj
    have nD := R1.nin hD
    have hBD : ∀ q ∈ B.r, q.2 ≠ Dd := fun q hq z => nD.1 (z ▸ R1.bin q hq)
    have R2 := (R1.dropS vs).aside (u := .lst []) hD
    have R2w : R X.K (Dd :: C) B O1 (dropS vs σ1) (wipe y vs) (upd H1 Dd (.lst [])) := R2.reslot wl (fun j z e => wo j (dropS_none e).1) fun p hp => wo _ (np p hp)
    refine ⟨fun i n H' => n = ds.length - i ∧ i ≤ ds.length ∧ ∃ O' σ' us acc, R X.K (Dd :: C) B O' σ' (wipe y vs) H' ∧ Fr O1 H1 O' H' ∧ H' Dd = some (.lst us) ∧ DpAll X.K (hide (O' ++ Dd :: C) H') us acc ∧ acc.length ≤ i ∧
        KG X.K cA W rO C B O1 H1 y Q (compD pt tt me vs (ds.drop i) acc σ') ∧ (∀ (j : Nat) (z : LV), σ'[j]? = some (some z) → j ∉ vs),
      ⟨ds.length, rfl, Nat.zero_le _, O1, dropS vs σ1, [], [], R2w, Fr.laid hD nD.1, upd_same, .nil, Nat.zero_le _, k1, fun j z e => (dropS_none e).1⟩, ?_⟩
    rintro i n H' ⟨rfl, hi, O', σ', us, acc, R3, F3, hDv, da, hla, k3, hdr⟩
    have hDO : ∀ O4 : List Addr, (∀ a ∈ O4, a ∉ Dd :: C) → Dd ∉ O4 := fun O4 h z => h Dd z List.mem_cons_self
    have sm : Same (hide (O1 ++ C) H1) H' := fun a o e => (hide_some (F3.vis (C := C) a o e)).2
    have vis : ∀ (O4 : List Addr) (H4 : Hp), Fr O1 H1 O4 H4 → Same (hide (O1 ++ C) H1) (hide (O4 ++ Dd :: C) H4) := fun O4 H4 f a o e => by
      obtain ⟨n, q⟩ := hide_some e
      obtain ⟨n4, q4⟩ := f.ext a o (fun z => n (List.mem_append_left _ z)) q
      refine hide_mk (fun z => ?_) q4
      rcases List.mem_append.mp z with z | z
      · exact n4 z
      · rcases List.mem_cons.mp z with z | z
        · exact ne_of_none q hD z
        · exact n (List.mem_append_right _ z)
    obtain ⟨g1, g2⟩ := d1 H' sm i
    by_cases hl : i < ds.length
    · obtain ⟨q1, q2⟩ := g1 ds[i] (List.getElem?_eq_getElem hl)
      rw [List.drop_eq_getElem_cons hl] at k3
      refine .inr ⟨q1, fun H4 => ∃ (O4 : List Addr) (σ4 : Loc) (y4 : St) (us4 : List V) (acc4 : List D), R X.K (Dd :: C) B O4 σ4 y4 H4 ∧ Fr O1 H1 O4 H4 ∧ wipe y4 vs = wipe y vs ∧ H4 Dd = some (.lst us4) ∧ DpAll X.K (hide (O4 ++ Dd :: C) H4) us4 acc4 ∧ acc4.length ≤ i + 1 ∧
          KG X.K cA W rO C B O1 H1 y Q (compD pt tt me vs (ds.drop (i + 1)) acc4 (dropS vs σ4)), fun H4 ⟨O4, σ4, y4, us4, acc4, R4, F4, w4, h1, h2, h3, h4⟩ => ?_, fun x H2 hy => ?_⟩
      · refine ⟨ds.length - (i + 1), by omega, rfl, hl, O4, dropS vs σ4, us4, acc4, ?_, F4, h1, h2, h3, h4, fun j z e => (dropS_none e).1⟩
        have wl4 : (wipe y vs).length = y4.length := by rw [← w4, wipe_length]
        refine (R4.dropS vs).reslot wl4 (fun j z e => ?_) fun p hp => ?_
        · rw [← w4]; exact wipe_out (dropS_none e).1
        · rw [← w4]; exact wipe_out (np p hp)
      obtain ⟨R4, F4, dx, hDv2⟩ : R X.K (Dd :: C) B O' σ' (wipe y vs) H2 ∧ Fr O' H' O' H2 ∧ Dp X.K (hide (O' ++ Dd :: C) H2) x ds[i] ∧ H2 Dd = some (.lst us) := by
        rcases q2 x H2 hy with ⟨rfl, dx⟩ | ⟨T, o, rfl, hT, rfl, dx⟩
        · exact ⟨R3, Fr.refl, dp_mono (vis _ _ F3) dx, hDv⟩
        · obtain ⟨R3', F3'⟩ := R3.laid (o := o) hT
          obtain ⟨s1, s2⟩ := hide_upd (o := o) hT (R3.ninA hT)
          exact ⟨R3', F3', dx _ (fun a o e => s1 a o (vis _ _ F3 a o e)) s2, by rw [upd_ne (ne_of_none hDv hT)]; exact hDv⟩
      have da2 : DpAll X.K (hide (O' ++ Dd :: C) H2) us acc := dps_mono F4.vis da
      have ww : wipe (wipe y vs) vs = wipe y vs := by
        refine List.ext_getElem? fun j => ?_
        rw [wipe_get, wipe_get, wipe_length]
        by_cases e : j ∈ vs ∧ j < y.length
        · rw [if_pos e, if_pos e]
        · rw [if_neg e]
      refine ⟨Dd :: C, B, O', σ', ds[i], hB, R4, dx, ?_⟩
      unfold compD at k3
      cases ep : pt ds[i] σ' with
      | none => rw [ep] at k3; exact k3.elim
      | some σ4 =>
        rw [ep] at k3
        refine fun y4 R5 w5 => ⟨w5.trans (by rw [ww]), Dd :: C, B, O', σ4, hB, R5, (KG.bindC (rel := rB) k3).imp fun bb H5 ⟨kk, σ5, O5, R6, F6, d6, k6⟩ => ?_⟩
        cases d6
        have w6 : wipe y4 vs = wipe y vs := w5.trans ww
        have F7 : Fr O1 H1 O5 H5 := (F3.trans F4).trans F6
        have hD5 : H5 Dd = some (.lst us) := (F6.ext Dd _ (hDO _ R5.dis) hDv2).2
        have da5 : DpAll X.K (hide (O5 ++ Dd :: C) H5) us acc := dps_mono F6.vis da2
        cases bb with
        | false =>
          rw [if_neg Bool.false_ne_true] at k6 ⊢
          exact ⟨O5, σ5, y4, us, acc, R6, F7, w6, hD5, da5, by omega, k6⟩
        | true =>
          rw [if_pos rfl] at k6 ⊢
          refine ⟨Dd :: C, B, O5, σ5, hB, R6, (KG.bindC (rel := rD) k6).imp fun v H6 ⟨dv, σ6, O6, R7, F8, d7, k7⟩ => ?_⟩
          have F9 : Fr O1 H1 O6 H6 := F7.trans F8
          have hD6 : H6 Dd = some (.lst us) := (F8.ext Dd _ (hDO _ R6.dis) hD5).2
          have da6 : DpAll X.K (hide (O6 ++ Dd :: C) H6) us acc := dps_mono F8.vis da5
          have d7 : Dp X.K (hide (O6 ++ Dd :: C) H6) v dv := d7
          obtain ⟨R8, s8⟩ := R7.asideUpd (u := .lst (us ++ [v]))
          refine ⟨us, hD6, ?_, O6, σ6, y4, us ++ [v], acc ++ [dv], R8, ?_, w6, upd_same, dps_mono s8 (da6.append (.one d7)), ?_, k7⟩
          · rw [da6.length]
            exact Nat.lt_of_lt_of_le (by omega : acc.length < 1000000) mil
          · refine ⟨fun a o n e => ?_, F9.new, fun a o e => ?_⟩
            · obtain ⟨n1, e1⟩ := F9.ext a o n e
              exact ⟨n1, by rw [upd_ne (ne_of_none e hD)]; exact e1⟩
            · obtain ⟨o', e'⟩ := F9.there a o e
              exact ⟨o', by rw [upd_ne (ne_of_none e hD)]; exact e'⟩
          · rw [List.length_append]
            show acc.length + 1 ≤ i + 1
            omega
    · have e : i = ds.length := by omega
      subst e
      rw [List.drop_length] at k3
      refine .inl ⟨g2 (Nat.le_refl _), k3 (Dd :: O') (.ref Dd) H' ?_ ?_ ⟨Dd, rfl, List.mem_cons_self, ⟨us, hDv, ?_⟩, fun j x e z => ?_, hBD⟩⟩
      · exact (R3.back nD.2).reslot wl.symm (fun j z e => (wo j (hdr j z e)).symm) fun p hp => (wo _ (np p hp)).symm
      · refine ⟨fun a o n e => ?_, fun a z => ?_, F3.there⟩
        · obtain ⟨n1, e1⟩ := F3.ext a o n e
          exact ⟨fun z => (List.mem_cons.mp z).elim (ne_of_none e hD) n1, e1⟩
        · rcases List.mem_cons.mp z with z | z
          · rw [z]; exact .inr hD
          · exact F3.new a z
      · refine dps_mono (fun a o e => ?_) da
        obtain ⟨n, q⟩ := hide_some e
        refine hide_mk (fun z => n ?_) q
        rw [List.mem_append, List.mem_cons] at z ⊢
        rcases z with (z | z) | z
        · exact .inr (.inl z)
        · exact .inl z
        · exact .inr (.inr z)
      · obtain ⟨a, ea, ha, hat⟩ := R3.own j x e
        rw [wo j (hdr j _ e), z] at ea
        have ea := V.ref.inj (Option.some.inj (Option.some.inj ea))
        subst ea
        exact R3.dis _ ha List.mem_cons_self
  · rw [if_neg hz] at k1; exact k1.elim
theorem io_comp {m : M (List D)} {scope : Scope} {own : List (Str × Nat)} (hc : X.calm = true) (hN : X.N.Nodup) (hi : II cA bs W X tg iter m) (ok : BlkOk X.N X.env.scope scope own) (hvs : own.map (·.2) = vs)
    (hg : ∀ (s : Shared) (H : Hp) (C : Addr) (cl : List (Str × Addr)) (fp : List Addr), IG vs bs (X.blk s H scope (compEnvC scope cl C X.env) fp) tg pt)
    (ht : ∀ (s : Shared) (H : Hp) (C : Addr) (cl : List (Str × Addr)) (fp : List Addr), ITs cA bs W0 (X.blk s H scope (compEnvC scope cl C X.env) fp) ifs tt)
    (he : ∀ (s : Shared) (H : Hp) (C : Addr) (cl : List (Str × Addr)) (fp : List Addr), IE cA bs W0 (X.blk s H scope (compEnvC scope cl C X.env) fp) elt me)
    (hs : ∀ x, foldedSetIterable iter X.env x = pure x := by intro _; rfl) (hv : ∀ i ∈ vs, i ∉ bs.ids := by decide) : IO cA bs W X (.ListComp elt [⟨tg, iter, ifs, 0⟩] scope pos) (mComp m pt tt me vs) :=
  (pe_lc (te := tG X.K cA W0 bs rD me) (tt := tG X.K cA W0 bs rB tt) (g := tP X.K vs bs pt) hc hN hi ok hg ht he hs).wk fun y H Q h => by
    rw [hvs]
    exact tLc_of hv h
/-- name = [..] -/
theorem is_lcO {i : Nat} {z : Str} {py spos : Pos} {m : M (List D)} {scope : Scope} {own : List (Str × Nat)} (hc : X.calm = true) (hN : X.N.Nodup) (hz : X.N[i]? = some z) (hzl : X.env.scope.names.lookup z = some .local) (hi : II cA bs W X tg iter m) (ok : BlkOk X.N X.env.scope scope own) (hvs : own.map (·.2) = vs)
    (hg : ∀ (s : Shared) (H : Hp) (C : Addr) (cl : List (Str × Addr)) (fp : List Addr), IG vs bs (X.blk s H scope (compEnvC scope cl C X.env) fp) tg pt)
    (ht : ∀ (s : Shared) (H : Hp) (C : Addr) (cl : List (Str × Addr)) (fp : List Addr), ITs cA bs W0 (X.blk s H scope (compEnvC scope cl C X.env) fp) ifs tt)
    (he : ∀ (s : Shared) (H : Hp) (C : Addr) (cl : List (Str × Addr)) (fp : List Addr), IE cA bs W0 (X.blk s H scope (compEnvC scope cl C X.env) fp) elt me)
    (hsw : swapsWith (.ListComp elt [⟨tg, iter, ifs, 0⟩] scope pos) (some (.Name z py)) spos.line X.env = pure true := by rfl) (hb : bs.ids.contains i = false := by rfl)
    (hs : ∀ x, foldedSetIterable iter X.env x = pure x := by intro _; rfl) (hv : ∀ i ∈ vs, i ∉ bs.ids := by decide) : IS cA bs W X (.Assign [.Name z py] (.ListComp elt [⟨tg, iter, ifs, 0⟩] scope pos) spos) (sSetO i (mComp m pt tt me vs)) :=
  (ps_setLc (te := tG X.K cA W0 bs rD me) (tt := tG X.K cA W0 bs rB tt) (g := tP X.K vs bs pt) hc hN hz hzl hsw hi ok hg ht he hs).wk fun E y H h => by
    obtain ⟨C, B, O, σ, hB, R0, k⟩ := h
    rw [hvs]
    refine tLc_of (cA := cA) (W := W) hv ⟨C, B, O, σ, hB, R0, (KS.bind (rel := rO) k).imp fun v H1 ⟨d, σ1, O1, R1, F1, ⟨p, e1, e2, e3, e4, e5⟩, k1⟩ => ?_⟩
    subst e1
    exact k1 O1 _ H1 (R1.setO e2 e3 e4 e5 (by
      rw [hB.1]
      intro z
      rw [List.contains_iff_mem.mpr z] at hb; cases hb)) Fr.refl
theorem is_lcD {i : Nat} {z : Str} {py spos : Pos} {m : M (List D)} {scope : Scope} {own : List (Str × Nat)} (hc : X.calm = true) (hN : X.N.Nodup) (hz : X.N[i]? = some z) (hzl : X.env.scope.names.lookup z = some .local) (hi : II cA bs W X tg iter m) (ok : BlkOk X.N X.env.scope scope own) (hvs : own.map (·.2) = vs)
    (hg : ∀ (s : Shared) (H : Hp) (C : Addr) (cl : List (Str × Addr)) (fp : List Addr), IG vs bs (X.blk s H scope (compEnvC scope cl C X.env) fp) tg pt)
    (ht : ∀ (s : Shared) (H : Hp) (C : Addr) (cl : List (Str × Addr)) (fp : List Addr), ITs cA bs W0 (X.blk s H scope (compEnvC scope cl C X.env) fp) ifs tt)
    (he : ∀ (s : Shared) (H : Hp) (C : Addr) (cl : List (Str × Addr)) (fp : List Addr), IE cA bs W0 (X.blk s H scope (compEnvC scope cl C X.env) fp) elt me)
    (hsw : swapsWith (.ListComp elt [⟨tg, iter, ifs, 0⟩] scope pos) (some (.Name z py)) spos.line X.env = pure true := by rfl) (hb : bs.ids.contains i = false := by rfl)
    (hs : ∀ x, foldedSetIterable iter X.env x = pure x := by intro _; rfl) (hv : ∀ i ∈ vs, i ∉ bs.ids := by decide) : IS cA bs W X (.Assign [.Name z py] (.ListComp elt [⟨tg, iter, ifs, 0⟩] scope pos) spos) (sSet i (mCold (mComp m pt tt me vs))) :=
  (ps_setLc (te := tG X.K cA W0 bs rD me) (tt := tG X.K cA W0 bs rB tt) (g := tP X.K vs bs pt) hc hN hz hzl hsw hi ok hg ht he hs).wk fun E y H h => by
    obtain ⟨C, B, O, σ, hB, R0, k⟩ := h
    rw [hvs]
    have k : KS X.K cA W C B O H E ((mCold (mComp m pt tt me vs) σ).toS fun d σ1 => .nx (σ1.set i (some (.d d)))) := k
    unfold mCold at k
    refine tLc_of (cA := cA) (W := W) hv ⟨C, B, O, σ, hB, R0, ?_⟩
    cases em : mComp m pt tt me vs σ with
    | stuck => rw [em] at k; exact k.elim
    | raise x σ1 => rw [em] at k; exact fun O' H' d fsv h1 h2 h3 h4 => k O' y H' d fsv h1 h2 h3 h4
    | ok o σ1 =>
      rw [em] at k
      cases o with
      | dk kvs => exact k.elim
      | lst xs =>
        intro O' v H' R1 F1 d1
        obtain ⟨O2, R2, F2, d2⟩ := cold_of R1 d1
        exact k O2 _ H' (R2.setD d2 (by
          rw [hB.1]
          intro z
          rw [List.contains_iff_mem.mpr z] at hb; cases hb)) (F2 _ _ F1)
end
end Pu

set_option Elab.async false
set_option linter.all false
set_option maxRecDepth 100000
set_option maxHeartbeats 2000000
namespace Pu
open PySem PySem.Spec L2
section
variable {X : Cx} {cA : String → Addr} {bs : Bs} {W : WX} {a b c e o tg iter elt : Expr} {es ifs : List Expr} {ma mb mc me : M D} {ms : M (List D)} {p pos apos cpos : Pos} {K : PySem.W.Frag} {x : Str} {st : Stmt} {sts : List Stmt} {s t u : S} {pt : Pt} {vs : List Nat} {tt : M Bool} {r : V → List V → Hp → VK → Prop}

/-! ### a slot's own list read as data from now on -/
def mMove (i : Nat) : M D := fun σ => match slotL σ i with | some xs => .ok (.list xs) (σ.set i (some (.d (.list xs)))) | none => .stuck
theorem R.coldV {C : List Addr} {B : Bx} {O : List Addr} {σ : Loc} {y : St} {H : Hp} {i : Nat} {xs : List D} (R0 : R K C B O σ y H) (e : σ[i]? = some (some (.o (.lst xs)))) (hb : i ∉ B.ids) :
    ∃ q O', y[i]? = some (some (.ref q)) ∧ R K C B O' (σ.set i (some (.d (.list xs)))) y H ∧ Fr O H O' H ∧ Dp K (hide (O' ++ C) H) (.ref q) (.list xs) := by
  obtain ⟨q, e1, e2, e3⟩ := R0.own i _ e
  have hn := R0.dropN e e1
  have hq : ∀ z ∈ B.r, z.2 ≠ q := fun z hz h => hb (by
    have := R0.pinO z hz i _ e (by rw [h]; exact e1)
    rw [this]
    exact Bx.inr hz)
  obtain ⟨O', R2, F2, d2⟩ := cold_of (xs := xs) (v := .ref q) (R0.drop i) ⟨q, rfl, e2, e3, hn, hq⟩
  have R3 := R2.setD (i := i) d2 hb
  rw [List.set_set] at R3
  have hl : i < y.length := (List.getElem?_eq_some_iff.mp e1).1
  have ey : y.set i (some (V.ref q)) = y := by
    refine List.ext_getElem? fun j => ?_
    by_cases h : i = j
    · subst h; rw [List.getElem?_set_self hl, e1]
    · rw [List.getElem?_set_ne h]
  rw [ey] at R3
  exact ⟨q, O', e1, R3, F2 _ _ Fr.refl, d2⟩
theorem nbs {B : Bx} {i : Nat} (hB : B.is bs) (hb : bs.ids.contains i = false) : i ∉ B.ids := fun z => by
  rw [hB.1] at z
  rw [List.contains_iff_mem.mpr z] at hb; cases hb
theorem ie_move {i : Nat} (h : PE X e (tVar i)) (hb : bs.ids.contains i = false := by rfl) : IE cA bs W X e (mMove i) := h.wk fun y H Q h => by
  obtain ⟨C, B, O, σ, hB, R0, k⟩ := h
  unfold mMove at k
  cases es : slotL σ i with
  | none => rw [es] at k; exact k.elim
  | some xs =>
    rw [es] at k
    obtain ⟨q, O', e1, R1, F1, d1⟩ := R0.coldV (slotL_inv es) (nbs hB hb)
    exact ⟨_, e1, k O' (.ref q) H R1 F1 d1⟩
/-- .. handed back as it is -/
def sRetV (i : Nat) : S := fun σ => match σ[i]? with | some (some (.o o)) => .rt (.o o) (σ.set i none) | _ => .stuck
theorem is_retV {i : Nat} (h : PE X e (tVar i)) (hb : bs.ids.contains i = false := by rfl) : IS cA bs W X (.Return (some e) pos) (sRetV i) := (ps_ret h).wk fun E y H h => by
  obtain ⟨C, B, O, σ, hB, R0, k⟩ := h
  unfold sRetV at k
  split at k
  · rename_i o es
    obtain ⟨q, e1, e2, e3⟩ := R0.own i _ es
    have hq : ∀ z ∈ B.r, z.2 ≠ q := fun z hz h => nbs hB hb (by
      have := R0.pinO z hz i _ es (by rw [h]; exact e1)
      rw [this]
      exact Bx.inr hz)
    exact ⟨_, e1, k O y H (.ref q) (R0.drop i) Fr.refl ⟨q, rfl, e2, e3, R0.dropN es e1, hq⟩⟩
  · exact k.elim

/-! ### methods that change a slot's own list -/
def MM (K : PySem.W.Frag) (r : V → List V → Hp → VK → Prop) (f : List D → List D → Option (D × List D)) : Prop := ∀ (G H : Hp) (q : Addr) (us vas : List V) (xs as : List D) (d : D) (xs' : List D) (Q : VK), f xs as = some (d, xs') → Same G H → H q = some (.lst us) → DpAll K G us xs → DpAll K G vas as →
  (∀ v us', Dp K G v d → DpAll K G us' xs' → Q v (upd H q (.lst us'))) → r (.ref q) vas H Q
def mMut (i : Nat) (f : List D → List D → Option (D × List D)) (ms : M (List D)) : M D := fun σ => match slotL σ i with
  | none => .stuck
  | some _ => (ms σ).bind fun as σ1 => match slotL σ1 i with
    | some xs => match f xs as with
      | some (d, xs') => .ok d (σ1.set i (some (.o (.lst xs'))))
      | none => .stuck
    | none => .stuck
/-- the state behind a change of the own list of slot i -/
theorem R.mutL {C : List Addr} {B : Bx} {O : List Addr} {σ : Loc} {y : St} {H : Hp} {i : Nat} {q : Addr} {xs xs' : List D} {us' : List V} (R0 : R K C B O σ y H) (e : σ[i]? = some (some (.o (.lst xs)))) (ep : y[i]? = some (some (.ref q)))
    (d : DpAll K (hide (O ++ C) H) us' xs') : R K C B O (σ.set i (some (.o (.lst xs')))) y (upd H q (.lst us')) ∧ Fr O H O (upd H q (.lst us')) := R0.mut e ep fun G s => ⟨us', upd_same, dps_mono s d⟩
theorem tBM_of {T : String} {i : Nat} {f : List D → List D → Option (D × List D)} (hT : T = "list") (hr : MM X.K r f) {y : St} {H : Hp} {Q : VK} (h : tG X.K cA W bs rD (mMut i f ms) y H Q) : tBM X.K T r (tVar i) (tG X.K cA W bs rDs ms) y H Q := by
  subst hT
  obtain ⟨C, B, O, σ, hB, R0, k⟩ := h
  obtain ⟨q, us, xs, e1, e2, e3, e4, e5, k1⟩ := own_of (fo := fun _ => (ms σ).bind fun as σ1 => match slotL σ1 i with
    | some xs => match f xs as with
      | some (d, xs') => .ok d (σ1.set i (some (.o (.lst xs'))))
      | none => .stuck
    | none => .stuck) R0 (by
    unfold mMut at k
    cases e : slotL σ i <;> rw [e] at k <;> exact k)
  refine ⟨_, e1, .inl ⟨rfl, us, .inl (.inl e2)⟩, C, B, O, σ, hB, R0, (KG.bind (rel := rDs) k1).imp fun z H2 ⟨as, σ2, O2, R2, F2, d2, k2⟩ => ?_⟩
  obtain ⟨q', us', xs2, f1, f2, f3, f4, f5, k3⟩ := own_of (fo := fun xs => match f xs as with
      | some (d, xs') => .ok d (σ2.set i (some (.o (.lst xs'))))
      | none => .stuck) R2 k2
  rw [e1] at f1
  have z1 : q = q' := V.ref.inj (Option.some.inj (Option.some.inj f1))
  subst z1
  cases ef : f xs2 as with
  | none => rw [ef] at k3; exact k3.elim
  | some dx =>
    obtain ⟨d, xs'⟩ := dx
    rw [ef] at k3
    refine hr (hide (O2 ++ C) H2) H2 q us' z xs2 as d xs' Q ef hide_same f2 f4 d2 fun v us3 dv du => ?_
    obtain ⟨R3, F3⟩ := R2.mutL f5 e1 du
    exact k3 O2 v _ R3 F3 (dp_mono F3.vis dv)
theorem ie_mut {name : Str} {T id : String} {i : Nat} {f : List D → List D → Option (D × List D)} (hT : T = "list") (pa : PlainAttrs T) (slot : Slot T name id) (hty : typeOf (.builtin id) = pure (.type "method_descriptor")) (hm : MtR X id r) (hr : MM X.K r f) (ho : PE X o (tVar i)) (ha : IA cA bs W X (e :: es) ms)
    (hbase : attributeBase o name X.env (eval o X.env) = eval o X.env := by rfl)
    (hfew : ((backTo cpos (starEach (e :: es) X.env)).all (fun x => !x.1) && (backToKw cpos (keywordEach [] X.env)).all (fun x => x.1.isSome)
      && decide ((e :: es).length + ([] : List Keyword).length + (if ([] : List Keyword).isEmpty then 0 else 1) < 30)) = true := by rfl)
    (hline : (apos.endLine == cpos.line) = true := by rfl) (hs : starEach (e :: es) X.env = (false, eval e X.env) :: starEach es X.env := by rfl) (hplain : (backTo cpos (starEach es X.env)).any (·.1) = false := by rfl) :
    IE cA bs W X (.Call (.Attribute o name apos) (e :: es) [] cpos) (mMut i f ms) := (pe_bm pa slot hty hm ho ha hbase hfew hline hs hplain).wk fun _ _ _ h => tBM_of hT hr h
def mMut0 (i : Nat) (f : List D → List D → Option (D × List D)) : M D := fun σ => match slotL σ i with
  | none => .stuck
  | some xs => match f xs [] with
      | some (d, xs') => .ok d (σ.set i (some (.o (.lst xs'))))
      | none => .stuck
theorem ie_mut0 {name : Str} {T id : String} {i : Nat} {f : List D → List D → Option (D × List D)} (hT : T = "list") (pa : PlainAttrs T) (slot : Slot T name id) (hty : typeOf (.builtin id) = pure (.type "method_descriptor")) (hm : MtR X id r) (hr : MM X.K r f) (ho : PE X o (tVar i))
    (hbase : attributeBase o name X.env (eval o X.env) = eval o X.env := by rfl) (hline : (apos.endLine == cpos.line) = true := by rfl) :
    IE cA bs W X (.Call (.Attribute o name apos) [] [] cpos) (mMut0 i f) := (pe_bm0 pa slot hty hm ho hbase hline).wk fun y H Q h => by
  subst hT
  obtain ⟨C, B, O, σ, hB, R0, k⟩ := h
  obtain ⟨q, us, xs, e1, e2, e3, e4, e5, k1⟩ := own_of (fo := fun xs => match f xs [] with
      | some (d, xs') => .ok d (σ.set i (some (.o (.lst xs'))))
      | none => .stuck) R0 (by
    unfold mMut0 at k
    cases e : slotL σ i <;> rw [e] at k <;> exact k)
  refine ⟨_, e1, .inl ⟨rfl, us, .inl (.inl e2)⟩, ?_⟩
  cases ef : f xs [] with
  | none => rw [ef] at k1; exact k1.elim
  | some dx =>
    obtain ⟨d, xs'⟩ := dx
    rw [ef] at k1
    refine hr (hide (O ++ C) H) H q us [] xs [] d xs' Q ef hide_same e2 e4 .nil fun v us3 dv du => ?_
    obtain ⟨R3, F3⟩ := R0.mutL e5 e1 du
    exact k1 O v _ R3 F3 (dp_mono F3.vis dv)
def uAppend (xs as : List D) : Option (D × List D) := match as with
  | [a] => if xs.length < 1000000 then some (.none, xs ++ [a]) else none
  | _ => none
theorem mm_append : MM K rAppend uAppend := by
  intro G H q us vas xs as d xs' Q e s hq du da qq
  unfold uAppend at e
  split at e
  · split at e
    · rename_i hl
      cases e
      obtain ⟨v, rfl, h9⟩ := dps1 da
      exact ⟨q, us, v, rfl, rfl, hq, by rw [du.length]; exact Nat.lt_of_lt_of_le hl mil, qq .non _ .non (du.append (.one h9))⟩
    · cases e
  · cases e
theorem DpAll.dropLast {G : Hp} {us : List V} {xs : List D} (h : DpAll K G us xs) : DpAll K G us.dropLast xs.dropLast := by
  rw [List.dropLast_eq_take, List.dropLast_eq_take, h.length]
  exact h.take _
def uPop (xs as : List D) : Option (D × List D) := match as with
  | [] => (xs[xs.length - 1]?).map fun d => (d, xs.dropLast)
  | _ => none
theorem mm_pop : MM K rPop uPop := by
  intro G H q us vas xs as d xs' Q e s hq du da qq
  unfold uPop at e
  split at e
  · cases ex : xs[xs.length - 1]? with
    | none => rw [ex] at e; cases e
    | some z =>
      rw [ex] at e
      cases e
      obtain ⟨v, ev, dv⟩ := du.get ex
      cases da
      rw [← du.length] at ev
      exact ⟨q, us, v, rfl, rfl, hq, ev, qq v _ dv (Pu.DpAll.dropLast du)⟩
  · cases e
def uPopAt (xs as : List D) : Option (D × List D) := match as with
  | [.int i] => if -(2 ^ 63) ≤ i ∧ i < 2 ^ 63 then (seqIndex? i xs.length).bind fun k => (xs[k]?).map fun d => (d, xs.eraseIdx k) else none
  | _ => none
theorem mm_popAt : MM K rPopAt uPopAt := by
  intro G H q us vas xs as d xs' Q e s hq du da qq
  unfold uPopAt at e
  split at e
  · split at e
    · rename_i i hi
      cases ek : seqIndex? i xs.length with
      | none => rw [ek] at e; cases e
      | some k =>
        rw [ek] at e
        have e : (xs[k]?).map (fun d => (d, xs.eraseIdx k)) = some (d, xs') := e
        cases ex : xs[k]? with
        | none => rw [ex] at e; cases e
        | some z =>
          rw [ex] at e
          cases e
          obtain ⟨v, ev, dv⟩ := du.get ex
          obtain ⟨w, rfl, h9⟩ := dps1 da
          cases h9
          exact ⟨q, us, i, k, v, rfl, rfl, hq, hi.1, hi.2, by rw [du.length]; exact ek, ev, qq v _ dv (du.eraseIdx k)⟩
    · cases e
  · cases e
def uInsert (xs as : List D) : Option (D × List D) := match as with
  | [.int i, a] => if xs.length < 1000000 ∧ 0 ≤ i ∧ i < 2 ^ 63 then some (.none, xs.take i.toNat ++ [a] ++ xs.drop i.toNat) else none
  | _ => none
abbrev rInsertB : V → List V → Hp → VK → Prop := fun x vs H Q => ∃ (l : Addr) (xs : List V) (i : Int) (y : V), x = .ref l ∧ vs = [.int i, y] ∧ H l = some (.lst xs) ∧ xs.length < sizeLine ∧ 0 ≤ i ∧ i < 2 ^ 63 ∧
    Q .non (upd H l (.lst (xs.take i.toNat ++ [y] ++ xs.drop i.toNat)))
theorem mm_insert : MM K rInsertB uInsert := by
  intro G H q us vas xs as d xs' Q e s hq du da qq
  unfold uInsert at e
  split at e
  · split at e
    · rename_i i a hi
      cases e
      obtain ⟨v, v', rfl, h9, h8⟩ := dps2 da
      cases h9
      exact ⟨q, us, i, v', rfl, rfl, hq, by rw [du.length]; exact Nat.lt_of_lt_of_le hi.1 mil, hi.2.1, hi.2.2, qq .non _ .non (((du.take _).append (.one h8)).append (du.drop _))⟩
    · cases e
  · cases e
/-- xs[i] = e -/
def putStep (i : Nat) (d j : D) (σ2 : Loc) (xs : List D) : SR := match j with
  | .int j => match ixN xs.length j with
    | some n => .nx (σ2.set i (some (.o (.lst (xs.set n d)))))
    | none => .stuck
  | _ => .stuck
def sPut (i : Nat) (mi m : M D) : S := fun σ => (m σ).toS fun d σ1 => match slotL σ1 i with
  | none => .stuck
  | some _ => (mi σ1).toS fun j σ2 => match slotL σ2 i with
    | some xs => putStep i d j σ2 xs
    | none => .stuck
theorem ownS_of {C : List Addr} {B : Bx} {O : List Addr} {σ : Loc} {y : St} {H : Hp} {E : Ends} {i : Nat} {fo : List D → SR} (R0 : R K C B O σ y H)
    (k : KS K cA W C B O H E (match slotL σ i with | some xs => fo xs | none => .stuck)) : ∃ q vs xs, y[i]? = some (some (.ref q)) ∧ H q = some (.lst vs) ∧ q ∈ O ∧ DpAll K (hide (O ++ C) H) vs xs ∧ σ[i]? = some (some (.o (.lst xs))) ∧ KS K cA W C B O H E (fo xs) := by
  cases e : slotL σ i with
  | none => rw [e] at k; exact k.elim
  | some xs =>
    rw [e] at k
    obtain ⟨q, e1, e2, vs, e3, e4⟩ := R0.own i _ (slotL_inv e)
    exact ⟨q, vs, xs, e1, e3, e2, e4, slotL_inv e, k⟩
theorem is_put {i : Nat} {mi m : M D} (ho : PE X o (tVar i)) (hi : IE cA bs W X a mi) (he : IE cA bs W X e m) (h : PS X st (tAsg (tG X.K cA W bs rD m) (gSub (tVar i) (tG X.K cA W bs rD mi) rSetL))) : IS cA bs W X st (sPut i mi m) := h.wk fun E y H h => by
  obtain ⟨C, B, O, σ, hB, R0, k⟩ := h
  refine ⟨C, B, O, σ, hB, R0, (KS.bind (rel := rD) k).imp fun v H1 ⟨d, σ1, O1, R1, F1, d1, k1⟩ => ?_⟩
  obtain ⟨q, us, xs, e1, e2, e3, e4, e5, k2⟩ := ownS_of (fo := fun _ => (mi σ1).toS fun j σ2 => match slotL σ2 i with
    | some xs => putStep i d j σ2 xs
    | none => .stuck) R1 (by cases e : slotL σ1 i <;> rw [e] at k1 <;> exact k1)
  refine ⟨_, e1, C, B, O1, σ1, hB, R1, (KS.bind (rel := rD) k2).imp fun z H2 ⟨j, σ2, O2, R2, F2, d2, k3⟩ => ?_⟩
  obtain ⟨q', us', xs2, f1, f2, f3, f4, f5, k4⟩ := ownS_of (fo := putStep i d j σ2) R2 k3
  rw [e1] at f1
  have z1 : q = q' := V.ref.inj (Option.some.inj (Option.some.inj f1))
  subst z1
  unfold putStep at k4
  cases j with
  | int j =>
    cases d2
    cases en : ixN xs2.length j with
    | none => simp only [en] at k4; exact k4.elim
    | some n =>
      simp only [en] at k4
      obtain ⟨R3, F3⟩ := R2.mutL f5 e1 (f4.set n (dp_mono F2.vis d1))
      exact ⟨q, us', j, n, rfl, rfl, f2, by rw [f4.length]; exact en, k4 O2 y _ R3 F3⟩
  | _ => exact k4.elim
/-! ### x op= e, a, b = c, d -/
def sAug (i : Nat) (f : Int → Int → Int) (m : M D) : S := fun σ => match σ[i]? with
  | some (some (.d (.int a))) => (m σ).toS fun d σ1 => match d with | .int b => .nx (σ1.set i (some (.d (.int (f a b))))) | _ => .stuck
  | _ => .stuck
theorem is_aug {i : Nat} {op : Operator} {pos' : Pos} {f : Int → Int → Int} {m : M D} (hN : X.N.Nodup) (hi : X.N[i]? = some x) (hx : L2.Loc X.env.scope x) (he : IE cA bs W X e m) (ho : PIp X op (ipI f)) (hb : bs.ids.contains i = false := by rfl)
    (hf : X.fn x = true ∨ X.env.scope.names.lookup x = some .local := by first | exact .inl rfl | exact .inr rfl) (h : PS X (.AugAssign (.Name x pos') op e pos) (tAug i (tG X.K cA W bs rD m) (ipI f))) : IS cA bs W X (.AugAssign (.Name x pos') op e pos) (sAug i f m) := h.wk fun E y H h => by
  obtain ⟨C, B, O, σ, hB, R0, k⟩ := h
  unfold sAug at k
  split at k
  · rename_i a0 q
    obtain ⟨v, e1, e2⟩ := R0.dat i _ q
    cases e2
    refine ⟨_, e1, C, B, O, σ, hB, R0, (KS.bind (rel := rD) k).imp fun z H1 ⟨d, σ1, O1, R1, F1, d1, k1⟩ => ?_⟩
    cases d with
    | int b0 =>
      cases d1
      exact ⟨a0, b0, rfl, rfl, k1 O1 _ H1 (R1.setD (.int _) (nbs hB hb)) Fr.refl⟩
    | _ => exact k1.elim
  · exact k.elim
def sPar (i j : Nat) (ms : M (List D)) : S := fun σ => (ms σ).toS fun ds σ1 => match ds with
  | [d1, d2] => .nx ((σ1.set i (some (.d d1))).set j (some (.d d2)))
  | _ => .stuck
theorem is_par {i j : Nat} (h : PS X st (tPar i j (tG X.K cA W bs rDs ms))) (hb : bs.ids.contains i = false := by rfl) (hb2 : bs.ids.contains j = false := by rfl) : IS cA bs W X st (sPar i j ms) := h.wk fun E y H h => by
  obtain ⟨C, B, O, σ, hB, R0, k⟩ := h
  refine ⟨C, B, O, σ, hB, R0, (KS.bind (rel := rDs) k).imp fun z H1 ⟨ds, σ1, O1, R1, F1, d1, k1⟩ => ?_⟩
  split at k1
  · obtain ⟨v, v', rfl, h9, h8⟩ := dps2 d1
    exact ⟨v, v', rfl, k1 O1 _ H1 ((R1.setD h9 (nbs hB hb)).setD h8 (nbs hB hb2)) Fr.refl⟩
  · exact k1.elim
end
end Pu

set_option Elab.async false
set_option linter.all false
set_option maxRecDepth 100000
set_option maxHeartbeats 2000000
namespace Pu
open PySem PySem.Spec L2

/-! ### defs -/
/-- an argument: data, or the list that slot i holds, to be changed -/
inductive Ag where
  | d (x : D)
  | s (i : Nat)
/-- how a call ends: outs, what the changed parameter (at most one) then is -/
inductive CRes where
  | ret (v : LV) (out : Option OO)
  | raise (x : Ex) (out : Option OO)
  | stuck
abbrev Fd := List LV → CRes
def slotO (σ : Loc) (i : Nat) : Option OO := match σ[i]? with | some (some (.o x)) => some x | _ => none
theorem slotO_inv {σ : Loc} {i : Nat} {x : OO} (h : slotO σ i = some x) : σ[i]? = some (some (.o x)) := by
  unfold slotO at h
  split at h
  · rename_i q; cases h; exact q
  · cases h
/-- the parameter that is changed for the caller: its slot -/
def outOf (b : Option Nat) (σ : Loc) (k : Option OO → CRes) : CRes := match b with
  | none => k none
  | some i => match slotO σ i with
    | some x => k (some x)
    | none => .stuck
def pad (n : Nat) (args : List LV) : Loc := args.map some ++ List.replicate (n - args.length) none
def mDef (n : Nat) (b : Option Nat) (body : S) : Fd := fun args => match body (pad n args) with
  | .rt v σ => outOf b σ (.ret v)
  | .nx σ => outOf b σ (.ret (.d .none))
  | .rs x σ => outOf b σ (.raise x)
  | _ => .stuck

section
variable (K : PySem.W.Frag) (cA : String → Addr)
/-- what a def's answer is, by values -/
def RetOk (C O' : List Addr) (H H' : Hp) (w : V) : LV → Prop
  | .d x => Dp K (hide (O' ++ C) H') w x
  | .o x => ∃ p, w = .ref p ∧ p ∈ O' ∧ H p = none ∧ OwnAt K (hide (O' ++ C) H') H' p x
  | .e _ => False
def OutOk (C O' : List Addr) (H' : Hp) (O : List Addr) : Option OO → Prop
  | none => True
  | some x => ∀ a ∈ O, a ∈ O' ∧ OwnAt K (hide (O' ++ C) H') H' a x
def bsO (b : Option Nat) : List Nat := match b with | none => [] | some i => [i]
def spOf (n : Nat) (b : Option Nat) (m : Fd) : Sp := fun vs H Q E => ∃ (C O : List Addr) (B : Bx) (args : List LV), vs.length = n ∧ B.e = [] ∧ B.r.map (·.1) = bsO b ∧ B.r.map (·.2) = O ∧ R K C B O (args.map some) (vs.map some) H ∧
  match m args with
  | .ret v out => ∀ O' w H', Fr O H O' H' → RetOk K C O' H H' w v → OutOk K C O' H' O out → Q w H'
  | .raise x out => ∀ O' H' d fsv, Fr O H O' H' → OutOk K C O' H' O out → hide (O' ++ C) H' d = some (.xd fsv) → FsOk K (hide (O' ++ C) H') fsv x.fs → E (.ref (cA x.c)) (some d) H'
  | .stuck => False
end
section
variable {K : PySem.W.Frag} {cA : String → Addr} {C O : List Addr} {B : Bx} {H H' : Hp} {σ : Loc} {y : St}
theorem R.pad {k : Nat} (r : R K C B O σ y H) (hB : ∀ p ∈ B.ids, p < σ.length) : R K C B O (σ ++ List.replicate k none) (y ++ List.replicate k none) H := by
  have g : ∀ (i : Nat) (z : LV), (σ ++ List.replicate k none)[i]? = some (some z) → σ[i]? = some (some z) ∧ (y ++ List.replicate k none)[i]? = y[i]? := fun i z e => by
    by_cases h : i < σ.length
    · rw [List.getElem?_append_left h] at e
      exact ⟨e, List.getElem?_append_left (by rw [← r.len]; exact h)⟩
    · rw [List.getElem?_append_right (by omega), List.getElem?_replicate] at e
      split at e <;> cases e
  refine ⟨by rw [List.length_append, List.length_append, r.len, List.length_replicate, List.length_replicate], fun i x e => ?_, fun i x e => ?_, fun i j x z a e1 e2 e3 e4 => ?_, fun p hp => ?_, r.trk, r.bin, r.dis, fun p hp i x e1 e2 => ?_, fun q hq => ?_, fun i fs e => r.exl i fs (g i _ e).1⟩
  · obtain ⟨e1, e2⟩ := g i _ e
    rw [e2]; exact r.dat i x e1
  · obtain ⟨e1, e2⟩ := g i _ e
    rw [e2]; exact r.own i x e1
  · obtain ⟨q1, q2⟩ := g i _ e1
    obtain ⟨q3, q4⟩ := g j _ e2
    rw [q2] at e3; rw [q4] at e4
    exact r.inj i j x z a q1 q3 e3 e4
  · rw [List.getElem?_append_left (by rw [← r.len]; exact hB p.1 (Bx.inr hp))]
    exact r.pin p hp
  · obtain ⟨q1, q2⟩ := g i _ e1
    rw [q2] at e2
    exact r.pinO p hp i x q1 e2
  · rw [List.getElem?_append_left (by rw [← r.len]; exact hB q.i (Bx.ine hq))]
    exact r.exc q hq
end
section
variable {P : Program} {w : World} {K : PySem.W.Frag} {mg : Str → Option Value} {base : Heap} {cA : String → Addr}
theorem out_of {b : Option Nat} {C O O' : List Addr} {B : Bx} {σ : Loc} {y : St} {H' : Hp} (hb : B.r.map (·.1) = bsO b) (hO : B.r.map (·.2) = O) (r : R K C B O' σ y H') {k : Option OO → CRes} {P : CRes → Prop} (h0 : ¬ P .stuck) (h : P (outOf b σ k)) : ∃ out, P (k out) ∧ OutOk K C O' H' O out := by
  unfold outOf at h
  cases b with
  | none => exact ⟨none, h, trivial⟩
  | some i =>
    cases e : slotO σ i with
    | none => simp only [e] at h; exact absurd h h0
    | some x =>
      simp only [e] at h
      refine ⟨some x, h, fun a ha => ?_⟩
      obtain ⟨q, e1, e2, e3⟩ := r.own i x (slotO_inv e)
      have : ∃ p, p ∈ B.r ∧ p.2 = a := by
        rw [← hO] at ha
        obtain ⟨p, hp, hpa⟩ := List.mem_map.mp ha
        exact ⟨p, hp, hpa⟩
      obtain ⟨p, hp, hpa⟩ := this
      have h1 : p.1 = i := by
        have : p.1 ∈ B.r.map (·.1) := List.mem_map_of_mem hp
        rw [hb] at this
        simpa [bsO] using this
      have h2 := r.pin p hp
      rw [h1, e1] at h2
      have h2 := V.ref.inj (Option.some.inj (Option.some.inj h2))
      rw [← hpa, ← h2]
      exact ⟨e2, e3⟩
theorem retOk_of {C O O' : List Addr} {B : Bx} {σ : Loc} {y : St} {H H' : Hp} {v : V} {r : LV} (hO : B.r.map (·.2) = O) (f : Fr O H O' H') (h : rR K C O' B σ y H' v r) : RetOk K C O' H H' v r := by
  cases r with
  | d x => exact h
  | e fs => exact h
  | o x =>
    obtain ⟨p, e, hp, ho, _, hq⟩ := h
    refine ⟨p, e, hp, ?_, ho⟩
    rcases f.new p hp with z | z
    · rw [← hO] at z
      obtain ⟨q, hq1, hq2⟩ := List.mem_map.mp z
      exact absurd hq2 (hq q hq1)
    · exact z
theorem def_ok {x qual : Str} {st : Stmt} {f : Addr} {fd : FuncData} {N ps : List Str} {k n : Nat} {b : Option Nat} {body : S} (F : Fun K x qual st f fd) (S : FnScope N ps (defScope st)) (hn : N.length = n) (hb : ∀ i, b = some i → i < ps.length)
    (hbody : ∀ (cdv : Value) (A : Around) (outer : List Env) (s : Shared) (H : Hp) (E : XK), Room k (A.deeper (PyProof.Rows.envOfC qual (defScope st) s.heap.objs.size f cdv)) →
      ISs cA ⟨bsO b, []⟩ (fun cls d _ H => E cls d H) (cxOf (L2.CX P w) P w K mg base N qual (defScope st) f cdv A outer s H E) (defBody st) body) : FnOk P w K mg base (L2.CX P w) (k + 1) f fd ps (spOf K cA ps.length b (mDef n b body)) := by
  subst hn
  refine F.okX S (fun vs H Q E h => ?_) (fun cdv A outer s H vs Q E hr h => ⟨_, hbody cdv A outer s H E hr, ?_⟩)
  · obtain ⟨C, O, B, args, e, _⟩ := h; exact e
  · obtain ⟨C, O, B, args, hl, hBe, hB, hO, R0, k⟩ := h
    have hB0 : B.ids = bsO b := by unfold Bx.ids; rw [hBe, hB]; simp
    have hla : args.length = vs.length := by have := R0.len; rw [List.length_map, List.length_map] at this; exact this
    have R1 := R0.pad (k := N.length - vs.length) (fun p hp => by
      rw [List.length_map, hla, hl]
      rw [hB0] at hp
      cases b with
      | none => cases hp
      | some i =>
        have : p = i := by simpa [bsO] using hp
        rw [this]; exact hb i rfl)
    refine ⟨C, B, O, Pu.pad N.length args, ⟨hB0, by rw [hBe]; rfl⟩, ?_, ?_⟩
    · unfold Pu.pad
      rw [hla]
      exact R1
    · unfold mDef at k
      cases e : body (Pu.pad N.length args) with
      | nx σ =>
        simp only [e] at k
        intro O' y H' R2 F2
        obtain ⟨out, k2, ho⟩ := out_of (P := fun c => match c with
          | .ret v out => ∀ O' w H', Fr O H O' H' → RetOk K C O' H H' w v → OutOk K C O' H' O out → Q w H'
          | .raise x out => ∀ O' H' d fsv, Fr O H O' H' → OutOk K C O' H' O out → hide (O' ++ C) H' d = some (.xd fsv) → FsOk K (hide (O' ++ C) H') fsv x.fs → E (.ref (cA x.c)) (some d) H'
          | .stuck => False) hB hO R2 (fun z => z) k
        exact k2 O' .non H' F2 Dp.non ho
      | rt v σ =>
        simp only [e] at k
        intro O' y H' u R2 F2 ru
        obtain ⟨out, k2, ho⟩ := out_of (P := fun c => match c with
          | .ret v out => ∀ O' w H', Fr O H O' H' → RetOk K C O' H H' w v → OutOk K C O' H' O out → Q w H'
          | .raise x out => ∀ O' H' d fsv, Fr O H O' H' → OutOk K C O' H' O out → hide (O' ++ C) H' d = some (.xd fsv) → FsOk K (hide (O' ++ C) H') fsv x.fs → E (.ref (cA x.c)) (some d) H'
          | .stuck => False) hB hO R2 (fun z => z) k
        exact k2 O' u H' F2 (retOk_of hO F2 ru) ho
      | rs x σ =>
        simp only [e] at k
        intro O' y H' d fsv R2 F2 h1 h2
        obtain ⟨out, k2, ho⟩ := out_of (P := fun c => match c with
          | .ret v out => ∀ O' w H', Fr O H O' H' → RetOk K C O' H H' w v → OutOk K C O' H' O out → Q w H'
          | .raise x out => ∀ O' H' d fsv, Fr O H O' H' → OutOk K C O' H' O out → hide (O' ++ C) H' d = some (.xd fsv) → FsOk K (hide (O' ++ C) H') fsv x.fs → E (.ref (cA x.c)) (some d) H'
          | .stuck => False) hB hO R2 (fun z => z) k
        exact k2 O' H' d fsv F2 ho h1 h2
      | bk σ => simp only [e] at k
      | ct σ => simp only [e] at k
      | stuck => simp only [e] at k
end
end Pu

set_option Elab.async false
set_option linter.all false
set_option maxRecDepth 100000
set_option maxHeartbeats 2000000
namespace Pu
open PySem PySem.Spec L2

/-! ### calls of defs -/
def rA : Rel (List V) (List Ag) := fun K C O _ _ y H vs as => vs.length = as.length ∧ (∀ (k : Nat) (x : D), as[k]? = some (.d x) → ∃ v, vs[k]? = some v ∧ Dp K (hide (O ++ C) H) v x) ∧ ∀ (k i : Nat), as[k]? = some (.s i) → ∃ v, vs[k]? = some v ∧ y[i]? = some (some v)
abbrev IG' (cA : String → Addr) (bs : Bs) (W : WX) (X : Cx) (es : List Expr) (m : M (List Ag)) : Prop := PA X es (tG X.K cA W bs rA m)
def gNilA : M (List Ag) := mPure []
def gConsD (a : M D) (b : M (List Ag)) : M (List Ag) := fun σ => (a σ).bind fun x σ1 => (b σ1).bind fun y σ2 => .ok (.d x :: y) σ2
def gConsS (i : Nat) (b : M (List Ag)) : M (List Ag) := fun σ => match slotO σ i with
  | none => .stuck
  | some _ => (b σ).bind fun y σ2 => .ok (.s i :: y) σ2
def toLV (σ : Loc) : Ag → Option LV
  | .d x => some (.d x)
  | .s i => (slotO σ i).map LV.o
def lvsOf (σ : Loc) : List Ag → Option (List LV)
  | [] => some []
  | a :: r => (toLV σ a).bind fun v => (lvsOf σ r).map (v :: ·)
/-- the arguments that are slots: (place, slot) -/
def refsOf : Nat → List Ag → List (Nat × Nat)
  | _, [] => []
  | k, .d _ :: r => refsOf (k + 1) r
  | k, .s i :: r => (k, i) :: refsOf (k + 1) r
/-- the call itself -/
def callRes (m : Fd) (as : List Ag) (b : Option Nat) (σ : Loc) : ER LV := match lvsOf σ as with
  | none => .stuck
  | some lvs => match refsOf 0 as, b with
    | [], none => (match m lvs with
      | .ret v _ => .ok v σ
      | .raise x _ => .raise x σ
      | .stuck => .stuck)
    | [(j, i)], some j' => if j = j' then (match m lvs with
      | .ret v (some z) => .ok v (σ.set i (some (.o z)))
      | .raise x (some z) => .raise x (σ.set i (some (.o z)))
      | _ => .stuck) else .stuck
    | _, _ => .stuck
def mCall (n : Nat) (m : Fd) (b : Option Nat) (ms : M (List Ag)) : M LV := fun σ => (ms σ).bind fun as σ1 => if as.length = n then callRes m as b σ1 else .stuck
def asD (m : M LV) : M D := fun σ => (m σ).bind fun v σ1 => match v with | .d x => .ok x σ1 | _ => .stuck
def asO (m : M LV) : M OO := fun σ => (m σ).bind fun v σ1 => match v with | .o x => .ok x σ1 | _ => .stuck
theorem lvsOf_len {σ : Loc} : ∀ {as : List Ag} {lvs : List LV}, lvsOf σ as = some lvs → lvs.length = as.length
  | [], lvs, h => by cases h; rfl
  | a :: r, lvs, h => by
    unfold lvsOf at h
    cases e1 : toLV σ a with
    | none => rw [e1] at h; cases h
    | some v =>
      rw [e1] at h
      have h : (lvsOf σ r).map (v :: ·) = some lvs := h
      cases e2 : lvsOf σ r with
      | none => rw [e2] at h; cases h
      | some vs => rw [e2] at h; cases h; rw [List.length_cons, List.length_cons, lvsOf_len e2]
theorem lvsOf_get {σ : Loc} : ∀ {as : List Ag} {lvs : List LV} {k : Nat} {v : LV}, lvsOf σ as = some lvs → lvs[k]? = some v → ∃ a, as[k]? = some a ∧ toLV σ a = some v
  | [], lvs, k, v, h, e => by cases h; simp at e
  | a :: r, lvs, k, v, h, e => by
    unfold lvsOf at h
    cases e1 : toLV σ a with
    | none => rw [e1] at h; cases h
    | some v0 =>
      rw [e1] at h
      have h : (lvsOf σ r).map (v0 :: ·) = some lvs := h
      cases e2 : lvsOf σ r with
      | none => rw [e2] at h; cases h
      | some vs =>
        rw [e2] at h
        cases h
        cases k with
        | zero => simp at e; exact ⟨a, rfl, by rw [e1, e]⟩
        | succ k => exact lvsOf_get (k := k) e2 (by simpa using e)
theorem refsOf_mem : ∀ {as : List Ag} {k0 k i : Nat}, as[k]? = some (.s i) → (k0 + k, i) ∈ refsOf k0 as
  | [], k0, k, i, h => by simp at h
  | .d x :: r, k0, 0, i, h => by simp at h
  | .d x :: r, k0, k + 1, i, h => by
    have := refsOf_mem (as := r) (k0 := k0 + 1) (k := k) (i := i) (by simpa using h)
    rw [show k0 + (k + 1) = k0 + 1 + k by omega]
    exact this
  | .s j :: r, k0, 0, i, h => by
    simp at h
    subst h
    exact List.mem_cons_self
  | .s j :: r, k0, k + 1, i, h => by
    have := refsOf_mem (as := r) (k0 := k0 + 1) (k := k) (i := i) (by simpa using h)
    rw [show k0 + (k + 1) = k0 + 1 + k by omega]
    exact List.mem_cons_of_mem _ this
theorem refsOf_inv : ∀ {as : List Ag} {k0 k i : Nat}, (k, i) ∈ refsOf k0 as → ∃ j, k = k0 + j ∧ as[j]? = some (.s i)
  | [], k0, k, i, h => by simp [refsOf] at h
  | .d x :: r, k0, k, i, h => by
    obtain ⟨j, e1, e2⟩ := refsOf_inv (as := r) (k0 := k0 + 1) h
    exact ⟨j + 1, by omega, by simpa using e2⟩
  | .s j :: r, k0, k, i, h => by
    rcases List.mem_cons.mp h with e | h
    · cases e; exact ⟨0, rfl, rfl⟩
    · obtain ⟨j', e1, e2⟩ := refsOf_inv (as := r) (k0 := k0 + 1) h
      exact ⟨j' + 1, by omega, by simpa using e2⟩
section
variable {X : Cx} {cA : String → Addr} {bs : Bs} {W : WX} {a b c e o : Expr} {es : List Expr} {ma mb mc : M D} {ms : M (List Ag)} {pos : Pos} {K : PySem.W.Frag}
theorem ga_nil : IG' cA bs W X [] gNilA := pa_nil.wk fun y H Q h => by
  obtain ⟨C, B, O, σ, hb, R0, k⟩ := h
  exact k O [] H R0 Fr.refl ⟨rfl, fun k x e => by simp at e, fun k i e => by simp at e⟩
theorem ga_d (ha : IE cA bs W X e ma) (hr : IG' cA bs W X es ms) (hs : starEach (e :: es) X.env = (false, eval e X.env) :: starEach es X.env := by rfl) : IG' cA bs W X (e :: es) (gConsD ma ms) := (pa_cons ha hr hs).wk fun y H Q h => by
  obtain ⟨C, B, O, σ, hb, R0, k⟩ := h
  refine ⟨C, B, O, σ, hb, R0, (KG.bind (rel := rD) k).imp fun x H1 ⟨a, σ1, O1, R1, F1, d1, k1⟩ => ⟨C, B, O1, σ1, hb, R1, (KG.bind (rel := rA) k1).imp fun z H2 ⟨b, σ2, O2, R2, F2, ⟨d2, d3, d4⟩, k2⟩ => ?_⟩⟩
  refine k2 O2 _ H2 R2 Fr.refl ⟨by rw [List.length_cons, List.length_cons, d2], fun k q e => ?_, fun k i e => ?_⟩
  · cases k with
    | zero => simp at e; subst e; exact ⟨x, rfl, dp_mono F2.vis d1⟩
    | succ k => simpa using d3 k q (by simpa using e)
  · cases k with
    | zero => simp at e
    | succ k => simpa using d4 k i (by simpa using e)
theorem ga_s {i : Nat} (ha : PE X e (tVar i)) (hr : IG' cA bs W X es ms) (hs : starEach (e :: es) X.env = (false, eval e X.env) :: starEach es X.env := by rfl) : IG' cA bs W X (e :: es) (gConsS i ms) := (pa_cons ha hr hs).wk fun y H Q h => by
  obtain ⟨C, B, O, σ, hb, R0, k⟩ := h
  unfold gConsS at k
  cases es : slotO σ i with
  | none => rw [es] at k; exact k.elim
  | some w =>
    rw [es] at k
    obtain ⟨q, e1, e2, e3⟩ := R0.own i _ (slotO_inv es)
    refine ⟨_, e1, C, B, O, σ, hb, R0, (KG.bind (rel := rA) k).imp fun z H2 ⟨b, σ2, O2, R2, F2, ⟨d2, d3, d4⟩, k2⟩ => ?_⟩
    refine k2 O2 _ H2 R2 Fr.refl ⟨by rw [List.length_cons, List.length_cons, d2], fun k x e => ?_, fun k j e => ?_⟩
    · cases k with
      | zero => simp at e
      | succ k => simpa using d3 k x (by simpa using e)
    · cases k with
      | zero => simp at e; subst e; exact ⟨.ref q, rfl, e1⟩
      | succ k => simpa using d4 k j (by simpa using e)

/-- the callee's state -/
theorem R.callee {C O : List Addr} {B : Bx} {σ : Loc} {y : St} {H : Hp} {as : List Ag} {vs : List V} {lvs : List LV} {B' : Bx} {O' : List Addr} (r : R K C B O σ y H) (hBe : B'.e = []) (ra : rA K C O B σ y H vs as) (hl : lvsOf σ as = some lvs) (hO : B'.r.map (·.2) = O')
    (hs : ∀ (k i : Nat), as[k]? = some (.s i) → ∃ a, y[i]? = some (some (.ref a)) ∧ (k, a) ∈ B'.r) (hB : ∀ p ∈ B'.r, p.2 ∈ O ∧ vs[p.1]? = some (.ref p.2)) (hu : ∀ p ∈ B'.r, ∀ q ∈ B'.r, p.2 = q.2 → p.1 = q.1) :
    R K (C ++ O.filter fun a => decide (a ∉ O')) B' O' (lvs.map some) (vs.map some) H := by
  have O'sub : ∀ a ∈ O', a ∈ O := fun a ha => by
    rw [← hO] at ha
    obtain ⟨p, hp, rfl⟩ := List.mem_map.mp ha
    exact (hB p hp).1
  have hv : Same (hide (O ++ C) H) (hide (O' ++ (C ++ O.filter fun a => decide (a ∉ O'))) H) := fun a o e => by
    obtain ⟨n, q⟩ := hide_some e
    refine hide_mk (fun z => n ?_) q
    rcases List.mem_append.mp z with z | z
    · exact List.mem_append_left _ (O'sub a z)
    · rcases List.mem_append.mp z with z | z
      · exact List.mem_append_right _ z
      · exact List.mem_append_left _ (List.mem_filter.mp z).1
  have getL : ∀ (i : Nat) (z : LV), (lvs.map some)[i]? = some (some z) → ∃ a, as[i]? = some a ∧ toLV σ a = some z := fun i z e => by
    rw [List.getElem?_map] at e
    cases q : lvs[i]? with
    | none => rw [q] at e; cases e
    | some w => rw [q] at e; cases e; exact lvsOf_get hl q
  have getO : ∀ (i : Nat) (x : OO), (lvs.map some)[i]? = some (some (.o x)) → ∃ (j : Nat) (a : Addr), as[i]? = some (.s j) ∧ slotO σ j = some x ∧ y[j]? = some (some (.ref a)) ∧ (i, a) ∈ B'.r ∧ (vs.map some)[i]? = some (some (.ref a)) := fun i x e => by
    obtain ⟨g, e1, e2⟩ := getL i _ e
    cases g with
    | d z => cases e2
    | s j =>
      obtain ⟨a, e3, e4⟩ := hs i j e1
      have e2 : (slotO σ j).map LV.o = some (.o x) := e2
      cases q : slotO σ j with
      | none => rw [q] at e2; cases e2
      | some w =>
        rw [q] at e2
        cases e2
        exact ⟨j, a, e1, q, e3, e4, by rw [List.getElem?_map, (hB _ e4).2]; rfl⟩
  refine ⟨by rw [List.length_map, List.length_map, lvsOf_len hl, ra.1], fun i x e => ?_, fun i x e => ?_, fun i j x z a e1 e2 e3 e4 => ?_, fun p hp => ?_, fun a ha => ?_, fun p hp => ?_, fun a ha z => ?_, fun p hp i x e1 e2 => ?_, fun q hq => (by rw [hBe] at hq; cases hq), fun i fs e => ?_⟩
  · obtain ⟨g, e1, e2⟩ := getL i _ e
    cases g with
    | d z =>
      cases e2
      obtain ⟨v, e3, e4⟩ := ra.2.1 i x e1
      exact ⟨v, by rw [List.getElem?_map, e3]; rfl, dp_mono hv e4⟩
    | s j =>
      have e2 : (slotO σ j).map LV.o = some (.d x) := e2
      cases q : slotO σ j with
      | none => rw [q] at e2; cases e2
      | some w => rw [q] at e2; cases e2
  · obtain ⟨j, a, e1, e2, e3, e4, e5⟩ := getO i x e
    obtain ⟨a', f1, f2, f3⟩ := r.own j x (slotO_inv e2)
    rw [e3] at f1
    have f1 := V.ref.inj (Option.some.inj (Option.some.inj f1))
    subst f1
    exact ⟨a, e5, by rw [← hO]; exact List.mem_map_of_mem (f := (·.2)) e4, f3.mono hv rfl⟩
  · obtain ⟨_, a1, _, _, _, f4, f5⟩ := getO i x e1
    obtain ⟨_, a2, _, _, _, g4, g5⟩ := getO j z e2
    rw [e3] at f5
    rw [e4] at g5
    have f5 := V.ref.inj (Option.some.inj (Option.some.inj f5))
    have g5 := V.ref.inj (Option.some.inj (Option.some.inj g5))
    exact hu _ f4 _ g4 (f5.symm.trans g5)
  · rw [List.getElem?_map, (hB p hp).2]; rfl
  · rcases ha with ha | ha
    · exact r.trk a (.inl (O'sub a ha))
    · rcases List.mem_append.mp ha with ha | ha
      · exact r.trk a (.inr ha)
      · exact r.trk a (.inl (List.mem_filter.mp ha).1)
  · rw [← hO]; exact List.mem_map_of_mem hp
  · rcases List.mem_append.mp z with z | z
    · exact r.dis a (O'sub a ha) z
    · exact absurd ha (of_decide_eq_true (List.mem_filter.mp z).2)
  · obtain ⟨_, a1, _, _, _, f4, f5⟩ := getO i x e1
    rw [e2] at f5
    have f5 := V.ref.inj (Option.some.inj (Option.some.inj f5))
    exact hu _ f4 _ hp f5.symm
  · obtain ⟨g, e1, e2⟩ := getL i _ e
    cases g with
    | d z => cases e2
    | s j =>
      have e2 : (slotO σ j).map LV.o = some (.e fs) := e2
      cases q : slotO σ j with
      | none => rw [q] at e2; cases e2
      | some w => rw [q] at e2; cases e2
end
end Pu

set_option Elab.async false
set_option linter.all false
set_option maxRecDepth 100000
set_option maxHeartbeats 2000000
namespace Pu
open PySem PySem.Spec L2
section
variable {K : PySem.W.Frag} {cA : String → Addr} {C O O' O'' : List Addr} {B : Bx} {H H' : Hp} {σ : Loc} {y : St}
/-- the caller's state behind a call: E, what came new -/
theorem R.after0 (r : R K C B O σ y H) (sub : ∀ a ∈ O', a ∈ O) (f : Fr O' H O'' H') (E : List Addr) (hE : ∀ a ∈ E, H a = none ∧ ∃ o, H' a = some o) (hun : ∀ (i : Nat) (x : OO) (a : Addr), σ[i]? = some (some (.o x)) → y[i]? = some (some (.ref a)) → a ∉ O') :
    R K C B (E ++ O) σ y H' ∧ Fr O H (E ++ O) H' ∧ Same (hide (O ++ C) H) (hide ((E ++ O) ++ C) H') := by
  have hF : Fr O H (E ++ O) H' := by
    refine ⟨fun a o n e => ⟨fun z => ?_, (f.ext a o (fun z => n (sub a z)) e).2⟩, fun a z => ?_, f.there⟩
    · rcases List.mem_append.mp z with z | z
      · have := (hE a z).1; rw [e] at this; cases this
      · exact n z
    · rcases List.mem_append.mp z with z | z
      · exact .inr (hE a z).1
      · exact .inl z
  have hv := hF.vis (C := C)
  refine ⟨⟨r.len, fun i x e => ?_, fun i x e => ?_, r.inj, r.pin, fun a ha => ?_, fun p hp => List.mem_append_right _ (r.bin p hp), fun a ha z => ?_, r.pinO, r.excK hv, r.exl⟩, hF, hv⟩
  · obtain ⟨v, e1, e2⟩ := r.dat i x e
    exact ⟨v, e1, dp_mono hv e2⟩
  · obtain ⟨a, e1, e2, e3⟩ := r.own i x e
    obtain ⟨o, ho⟩ := e3.there
    refine ⟨a, e1, List.mem_append_right _ e2, e3.mono hv ?_⟩
    rw [(f.ext a o (hun i x a e e1) ho).2, ho]
  · rcases ha with ha | ha
    · rcases List.mem_append.mp ha with z | z
      · exact (hE a z).2
      · obtain ⟨o, e⟩ := r.trk a (.inl z)
        exact f.there a o e
    · obtain ⟨o, e⟩ := r.trk a (.inr ha)
      exact f.there a o e
  · rcases List.mem_append.mp ha with q | q
    · obtain ⟨o, e⟩ := r.trk a (.inr z)
      rw [(hE a q).1] at e; cases e
    · exact r.dis a q z
/-- .. slot i's object was changed by it -/
theorem R.after1 {i : Nat} {a0 : Addr} {x0 x : OO} (r : R K C B O σ y H) (e0 : σ[i]? = some (some (.o x0))) (ey : y[i]? = some (some (.ref a0))) (f : Fr [a0] H O'' H') (E : List Addr) (hE : ∀ a ∈ E, H a = none ∧ ∃ o, H' a = some o)
    (hx : ∀ G, Same (hide (O'' ++ (C ++ O.filter fun a => decide (a ∉ [a0]))) H') G → OwnAt K G H' a0 x) (ha0 : a0 ∈ O'') (hEO : ∀ a ∈ E, a ∈ O'') :
    R K C B (E ++ O) (σ.set i (some (.o x))) y H' ∧ Fr O H (E ++ O) H' ∧ Same (hide (O ++ C) H) (hide ((E ++ O) ++ C) H') := by
  have h0 : a0 ∈ O := by
    obtain ⟨a, e1, e2, _⟩ := r.own i x0 e0
    rw [ey] at e1
    have e1 := V.ref.inj (Option.some.inj (Option.some.inj e1))
    rw [e1]; exact e2
  have sub : ∀ a ∈ [a0], a ∈ O := fun a ha => by rw [List.mem_singleton.mp ha]; exact h0
  -- without the slot
  have hun : ∀ (j : Nat) (z : OO) (a : Addr), (σ.set i none)[j]? = some (some (.o z)) → y[j]? = some (some (.ref a)) → a ∉ [a0] := fun j z a e1 e2 h => by
    rw [List.mem_singleton.mp h] at e2
    exact r.dropN e0 ey j z e1 e2
  obtain ⟨R1, F1, s1⟩ := (r.drop i).after0 sub f E hE hun
  refine ⟨?_, F1, s1⟩
  have hv2 : Same (hide (O'' ++ (C ++ O.filter fun a => decide (a ∉ [a0]))) H') (hide ((E ++ O) ++ C) H') := fun a o e => by
    obtain ⟨n, q⟩ := hide_some e
    refine hide_mk (fun z => n ?_) q
    rcases List.mem_append.mp z with z | z
    · rcases List.mem_append.mp z with z | z
      · exact List.mem_append_left _ (hEO a z)
      · by_cases h : a ∈ [a0]
        · rw [List.mem_singleton.mp h]; exact List.mem_append_left _ ha0
        · exact List.mem_append_right _ (List.mem_append_right _ (List.mem_filter.mpr ⟨z, decide_eq_true h⟩))
    · exact List.mem_append_right _ (List.mem_append_left _ z)
  have hox := hx _ hv2
  have hl : i < σ.length := (List.getElem?_eq_some_iff.mp e0).1
  have back : ∀ (j : Nat) (z : OO), (σ.set i (some (.o x)))[j]? = some (some (.o z)) → ∃ z', σ[j]? = some (some (.o z')) := fun j z q => by
    rcases get_set q with ⟨h, _, q'⟩ | ⟨h, q'⟩
    · rw [h]; exact ⟨x0, e0⟩
    · exact ⟨z, q'⟩
  refine ⟨by rw [List.length_set, r.len], fun j z q => ?_, fun j z q => ?_, fun j k z w b e1 e2 e3 e4 => ?_, r.pin, R1.trk, R1.bin, R1.dis, fun p hp j z e1 e2 => ?_, r.excK s1, fun j fs q => ?_⟩
  · rcases get_set q with ⟨h, _, q'⟩ | ⟨h, q'⟩
    · cases q'
    · exact R1.dat j z (by rw [set_get_ne h]; exact q')
  · rcases get_set q with ⟨h, _, q'⟩ | ⟨h, q'⟩
    · subst h
      cases q'
      exact ⟨a0, ey, List.mem_append_right _ h0, hox⟩
    · exact R1.own j z (by rw [set_get_ne h]; exact q')
  · obtain ⟨z', q1⟩ := back j z e1
    obtain ⟨w', q2⟩ := back k w e2
    exact r.inj j k z' w' b q1 q2 e3 e4
  · obtain ⟨z', q1⟩ := back j z e1
    exact r.pinO p hp j z' q1 e2
  · rcases get_set q with ⟨_, _, e'⟩ | ⟨_, e'⟩
    · cases e'
    · exact r.exl j fs e'
theorem R.afterN {a0 : Addr} {i : Nat} {x0 : OO} (r : R K C B O σ y H) (e0 : σ[i]? = some (some (.o x0))) (ey : y[i]? = some (some (.ref a0))) {p : Addr} (hp : H p = none) : p ≠ a0 := fun z => by
  obtain ⟨a, e1, _, e3⟩ := r.own i x0 e0
  rw [ey] at e1
  have e1 := V.ref.inj (Option.some.inj (Option.some.inj e1))
  obtain ⟨u, hu⟩ := e3.there
  rw [← e1, ← z, hp] at hu; cases hu
end
section
variable {X : Cx} {cA : String → Addr} {bs : Bs} {W : WX} {a b c e o : Expr} {es : List Expr} {ms : M (List Ag)} {pos p : Pos} {x : Str} {k : Nat} {f : Addr} {fd : FuncData} {ps : List Str} {m : Fd} {br : Option Nat} {n : Nat}
/-- what a def's answer is for the caller -/
def rRet : Rel V LV := rR
theorem call_core {C O1 : List Addr} {B : Bx} {σ1 : Loc} {y : St} {H1 : Hp} {Q : VK} {vs : List V} {as : List Ag} (R1 : R X.K C B O1 σ1 y H1) (d1 : rA X.K C O1 B σ1 y H1 vs as) (hln : as.length = n) (k1 : KG X.K cA W rR C B O1 H1 y Q (callRes m as br σ1)) : spOf X.K cA n br m vs H1 Q (WE W y) := by
  unfold callRes at k1
  cases el : lvsOf σ1 as with
  | none => rw [el] at k1; exact k1.elim
  | some lvs =>
    rw [el] at k1
    cases er : refsOf 0 as with
    | nil =>
      rw [er] at k1
      cases br with
      | some j => exact k1.elim
      | none =>
        have nos : ∀ (k i : Nat), as[k]? ≠ some (.s i) := fun k i e => by
          have := refsOf_mem (k0 := 0) e
          rw [er] at this; cases this
        have Rc := R1.callee (B' := ⟨[], []⟩) (O' := []) rfl d1 el rfl (fun k i e => absurd e (nos k i)) (fun p hp => by cases hp) (fun p hp => by cases hp)
        refine ⟨_, [], ⟨[], []⟩, lvs, by rw [d1.1, hln], rfl, rfl, rfl, Rc, ?_⟩
        have fin : ∀ O' H' E, Fr [] H1 O' H' → (∀ a ∈ E, H1 a = none ∧ ∃ o, H' a = some o) → R X.K C B (E ++ O1) σ1 y H' ∧ Fr O1 H1 (E ++ O1) H' ∧ Same (hide (O1 ++ C) H1) (hide ((E ++ O1) ++ C) H') := fun O' H' E f hE => R1.after0 (fun a h => by cases h) f E hE fun _ _ _ _ _ h => by cases h
        have hv : ∀ O' H' E, (∀ a ∈ E, a ∈ O') → Same (hide (O' ++ (C ++ O1.filter fun a => decide (a ∉ ([] : List Addr)))) H') (hide ((E ++ O1) ++ C) H') := fun O' H' E hE a o e => by
          obtain ⟨n, q⟩ := hide_some e
          refine hide_mk (fun z => n ?_) q
          rcases List.mem_append.mp z with z | z
          · rcases List.mem_append.mp z with z | z
            · exact List.mem_append_left _ (hE a z)
            · exact List.mem_append_right _ (List.mem_append_right _ (List.mem_filter.mpr ⟨z, by simp⟩))
          · exact List.mem_append_right _ (List.mem_append_left _ z)
        cases em : m lvs with
        | stuck => simp only [em] at k1; exact k1.elim
        | ret v out =>
          simp only [em] at k1
          intro O' w H' f' rv _
          cases v with
          | d z =>
            obtain ⟨R2, F2, s2⟩ := fin O' H' [] f' (fun a h => by cases h)
            exact k1 _ w H' R2 F2 (dp_mono (hv O' H' [] (fun a h => by cases h)) rv)
          | e z => exact rv.elim
          | o z =>
            obtain ⟨q, rfl, hq, hq0, ho⟩ := rv
            obtain ⟨R2, F2, s2⟩ := fin O' H' [q] f' (fun a h => by rw [List.mem_singleton.mp h]; exact ⟨hq0, ho.there⟩)
            exact k1 _ (.ref q) H' R2 F2 ⟨q, rfl, List.mem_cons_self, ho.mono (hv O' H' [q] (fun a h => by rw [List.mem_singleton.mp h]; exact hq)) rfl, R1.fresh hq0, R1.freshB hq0⟩
        | raise ex out =>
          simp only [em] at k1
          intro O' H' d fsv f' _ h1 h2
          obtain ⟨R2, F2, s2⟩ := fin O' H' [] f' (fun a h => by cases h)
          have s3 := hv O' H' [] (fun a h => by cases h)
          exact k1 _ H' d fsv R2 F2 (s3 _ _ h1) (Paired.mapP h2 fun _ _ z => ⟨z.1, dp_mono s3 z.2⟩)
    | cons ji rest =>
      obtain ⟨j, i⟩ := ji
      rw [er] at k1
      cases rest with
      | cons _ _ => cases br <;> exact k1.elim
      | nil =>
        cases br with
        | none => exact k1.elim
        | some j' =>
          by_cases hj : j = j'
          · subst hj
            simp only [if_true] at k1
            obtain ⟨j0, ej, eas⟩ := refsOf_inv (k0 := 0) (as := as) (k := j) (i := i) (by rw [er]; exact List.mem_cons_self)
            have ej : j = j0 := by omega
            subst ej
            have only : ∀ (k i' : Nat), as[k]? = some (.s i') → k = j ∧ i' = i := fun k i' e => by
              have := refsOf_mem (k0 := 0) e
              rw [er] at this
              have := List.mem_singleton.mp this
              injection this with h1 h2
              exact ⟨by omega, h2⟩
            obtain ⟨v0, ev0, ey0⟩ := d1.2.2 j i eas
            -- the slot holds an object
            have hjl : j < lvs.length := by rw [lvsOf_len el]; exact (List.getElem?_eq_some_iff.mp eas).1
            obtain ⟨g, eg1, eg2⟩ := lvsOf_get el (List.getElem?_eq_getElem hjl)
            rw [eas] at eg1
            cases eg1
            have eg2 : (slotO σ1 i).map LV.o = some lvs[j] := eg2
            cases es : slotO σ1 i with
            | none => rw [es] at eg2; cases eg2
            | some x0 =>
              obtain ⟨a0, e1, e2, e3⟩ := R1.own i x0 (slotO_inv es)
              rw [e1] at ey0
              have ey0 := (Option.some.inj (Option.some.inj ey0))
              subst ey0
              have Rc := R1.callee (B' := ⟨[(j, a0)], []⟩) (O' := [a0]) rfl d1 el rfl (fun k i' e => by
                  obtain ⟨rfl, rfl⟩ := only k i' e
                  exact ⟨a0, e1, List.mem_cons_self⟩) (fun p hp => by
                  rw [List.mem_singleton.mp hp]; exact ⟨e2, ev0⟩) (fun p hp q hq _ => by rw [List.mem_singleton.mp hp, List.mem_singleton.mp hq])
              refine ⟨_, [a0], ⟨[(j, a0)], []⟩, lvs, by rw [d1.1, hln], rfl, rfl, rfl, Rc, ?_⟩
              have hv : ∀ O' H' E, a0 ∈ O' → (∀ a ∈ E, a ∈ O') → Same (hide (O' ++ (C ++ O1.filter fun a => decide (a ∉ [a0]))) H') (hide ((E ++ O1) ++ C) H') := fun O' H' E h0 hE a o e => by
                obtain ⟨n, q⟩ := hide_some e
                refine hide_mk (fun z => n ?_) q
                rcases List.mem_append.mp z with z | z
                · rcases List.mem_append.mp z with z | z
                  · exact List.mem_append_left _ (hE a z)
                  · by_cases h : a ∈ [a0]
                    · rw [List.mem_singleton.mp h]; exact List.mem_append_left _ h0
                    · exact List.mem_append_right _ (List.mem_append_right _ (List.mem_filter.mpr ⟨z, decide_eq_true h⟩))
                · exact List.mem_append_right _ (List.mem_append_left _ z)
              cases em : m lvs with
              | stuck => simp only [em] at k1; exact k1.elim
              | ret v out =>
                cases out with
                | none => simp only [em] at k1; exact k1.elim
                | some x1 =>
                  simp only [em] at k1
                  intro O' w H' f' rv ro
                  obtain ⟨h1, h2⟩ := ro a0 List.mem_cons_self
                  cases v with
                  | d z =>
                    obtain ⟨R2, F2, s2⟩ := R1.after1 (x := x1) (slotO_inv es) e1 f' [] (fun a h => by cases h) (fun G s => h2.mono s rfl) h1 (fun a h => by cases h)
                    exact k1 _ w H' R2 F2 (dp_mono (hv O' H' [] h1 (fun a h => by cases h)) rv)
                  | e z => exact rv.elim
                  | o z =>
                    obtain ⟨q, rfl, hq, hq0, ho⟩ := rv
                    obtain ⟨R2, F2, s2⟩ := R1.after1 (x := x1) (slotO_inv es) e1 f' [q] (fun a h => by rw [List.mem_singleton.mp h]; exact ⟨hq0, ho.there⟩) (fun G s => h2.mono s rfl) h1 (fun a h => by rw [List.mem_singleton.mp h]; exact hq)
                    refine k1 _ (.ref q) H' R2 F2 ⟨q, rfl, List.mem_cons_self, ho.mono (hv O' H' [q] h1 (fun a h => by rw [List.mem_singleton.mp h]; exact hq)) rfl, fun jj xx e z => ?_, R1.freshB hq0⟩
                    rcases get_set e with ⟨hh, _, _⟩ | ⟨hh, e'⟩
                    · subst hh
                      rw [e1] at z
                      exact R1.afterN (slotO_inv es) e1 hq0 (V.ref.inj (Option.some.inj (Option.some.inj z))).symm
                    · exact R1.fresh hq0 jj xx e' z
              | raise ex out =>
                cases out with
                | none => simp only [em] at k1; exact k1.elim
                | some x1 =>
                  simp only [em] at k1
                  intro O' H' d fsv f' ro h1 h2
                  obtain ⟨g1, g2⟩ := ro a0 List.mem_cons_self
                  obtain ⟨R2, F2, s2⟩ := R1.after1 (x := x1) (slotO_inv es) e1 f' [] (fun a h => by cases h) (fun G s => g2.mono s rfl) g1 (fun a h => by cases h)
                  have s3 := hv O' H' [] g1 (fun a h => by cases h)
                  exact k1 _ H' d fsv R2 F2 (s3 _ _ h1) (Paired.mapP h2 fun _ _ z => ⟨z.1, dp_mono s3 z.2⟩)
          · simp only [if_neg hj] at k1; exact k1.elim
theorem tCall_of (hn : n = ps.length) {y : St} {H : Hp} {Q : VK} (h : tG X.K cA W bs rR (mCall n m br ms) y H Q) : tCallS (spOf X.K cA n br m) (WE W) (tG X.K cA W bs rA ms) y H Q := by
  obtain ⟨C, B, O, σ, hB, R0, k⟩ := h
  refine ⟨C, B, O, σ, hB, R0, (KG.bind (rel := rA) k).imp fun vs H1 ⟨as, σ1, O1, R1, F1, d1, k1⟩ => ?_⟩
  by_cases hln : as.length = n
  · rw [if_pos hln] at k1
    exact call_core R1 d1 hln k1
  · rw [if_neg hln] at k1; exact k1.elim
end
end Pu

set_option Elab.async false
set_option linter.all false
set_option maxRecDepth 100000
set_option maxHeartbeats 2000000
namespace Pu
open PySem PySem.Spec L2
section
variable {X : Cx} {cA : String → Addr} {bs : Bs} {W : WX} {a b c e : Expr} {es : List Expr} {ms : M (List Ag)} {pos p : Pos} {x : Str} {k : Nat} {f : Addr} {fd : FuncData} {ps : List Str} {m : Fd} {br : Option Nat} {n : Nat} {kws : List Keyword}
theorem asD_of {m : M LV} {y : St} {H : Hp} {Q : VK} (h : tG X.K cA W bs rD (asD m) y H Q) : tG X.K cA W bs rR m y H Q := by
  obtain ⟨C, B, O, σ, hB, R0, k⟩ := h
  refine ⟨C, B, O, σ, hB, R0, (KG.bind (rel := rR) k).imp fun v H1 ⟨r, σ1, O1, R1, F1, d1, k1⟩ => ?_⟩
  cases r with
  | d x => exact k1 O1 v H1 R1 Fr.refl d1
  | o x => exact k1.elim
  | e x => exact k1.elim
theorem asO_of {m : M LV} {y : St} {H : Hp} {Q : VK} (h : tG X.K cA W bs rO (asO m) y H Q) : tG X.K cA W bs rR m y H Q := by
  obtain ⟨C, B, O, σ, hB, R0, k⟩ := h
  refine ⟨C, B, O, σ, hB, R0, (KG.bind (rel := rR) k).imp fun v H1 ⟨r, σ1, O1, R1, F1, d1, k1⟩ => ?_⟩
  cases r with
  | d x => exact k1.elim
  | o x => exact k1 O1 v H1 R1 Fr.refl d1
  | e x => exact k1.elim
abbrev IC (cA : String → Addr) (bs : Bs) (W : WX) (X : Cx) (e : Expr) (m : M LV) : Prop := PE X e (tG X.K cA W bs rR m)
theorem IC.d {m : M LV} (h : IC cA bs W X e m) : IE cA bs W X e (asD m) := h.wk fun _ _ _ h => asD_of h
theorem IC.o {m : M LV} (h : IC cA bs W X e m) : IO cA bs W X e (asO m) := h.wk fun _ _ _ h => asO_of h
theorem ic_call (F : FnOk X.prog X.w X.K X.mg X.base (L2.CX X.prog X.w) k f fd ps (spOf X.K cA n br m)) (hn : n = ps.length) (hr : Room k X.A) (hm : X.mg x = some (.ref f)) (hk : PySem.W.keepIn X.K (.ref f) = true) (hb : Binds X.K fd ps []) (tk : Takes X W) (ha : IG' cA bs W X (e :: es) ms)
    (hg : Gl X x) (hdb : (x == ("__debug__" : Str)) = false := by decide) (he : starEach (e :: es) X.env = (false, eval e X.env) :: starEach es X.env := by rfl) (hpl : (backTo pos (starEach es X.env)).any (·.1) = false := by rfl) :
    IC cA bs W X (.Call (.Name x p) (e :: es) [] pos) (mCall n m br ms) := (pe_callS F hr hg hm hk hb (fun σ => passAt tk σ) ha hdb he hpl).wk fun _ _ _ h => tCall_of hn h
/-- f() -/
theorem ic_call0 (F : FnOk X.prog X.w X.K X.mg X.base (L2.CX X.prog X.w) k f fd ps (spOf X.K cA n br m)) (hn : n = ps.length) (hr : Room k X.A) (hm : X.mg x = some (.ref f)) (hk : PySem.W.keepIn X.K (.ref f) = true) (hb : Binds X.K fd ps []) (tk : Takes X W)
    (hg : Gl X x) (hdb : (x == ("__debug__" : Str)) = false := by decide) : IC cA bs W X (.Call (.Name x p) [] [] pos) (mCall n m br gNilA) := by
  refine ⟨fun pins s σ H Q I h => ?_⟩
  refine wpAny_Call_Name_kw (ld_glob I hg hm ?_ hdb)
  refine PySem.W.callWith_K0 I.kIn hk (run_fnS (us := []) (vs := []) F hr hb (passAt tk σ) I .nil ?_)
  have h2 := tCall_of (ms := gNilA) hn h
  obtain ⟨C, B, O, σ1, hB, R0, kk⟩ := h2
  exact kk O [] H R0 Fr.refl ⟨rfl, fun k x e => by simp at e, fun k i e => by simp at e⟩

/-! ### f(k = v, ..) -/
def permL (is : List Nat) {α : Type} (l : List α) : List α := is.filterMap fun i => l[i]?
theorem permL_cons {α : Type} {i : Nat} {is : List Nat} {l : List α} {a : α} (h : l[i]? = some a) : permL (i :: is) l = a :: permL is l := by
  unfold permL
  rw [List.filterMap_cons, h]
theorem permL_none {α : Type} {i : Nat} {is : List Nat} {l : List α} (h : l[i]? = none) : permL (i :: is) l = permL is l := by
  unfold permL
  rw [List.filterMap_cons, h]
theorem permL_vals {us : List Value} {vs : List V} (r : Vals vs us) : ∀ is : List Nat, Vals (permL is vs) (permL is us)
  | [] => .nil
  | i :: is => by
    cases h : vs[i]? with
    | none =>
      rw [permL_none h, permL_none (r.none_of h)]
      exact permL_vals r is
    | some v =>
      obtain ⟨u, e1, e2⟩ := r.get h
      rw [permL_cons h, permL_cons e1]
      exact .cons e2 (permL_vals r is)
theorem permL_dps {K : PySem.W.Frag} {G : Hp} {vs : List V} {ds : List D} (r : DpAll K G vs ds) : ∀ is : List Nat, DpAll K G (permL is vs) (permL is ds)
  | [] => .nil
  | i :: is => by
    cases h : ds[i]? with
    | none =>
      have h2 : vs[i]? = none := by
        rw [List.getElem?_eq_none_iff] at h ⊢
        rw [r.length]; exact h
      rw [permL_none h, permL_none h2]
      exact permL_dps r is
    | some d =>
      obtain ⟨v, e1, e2⟩ := r.get h
      rw [permL_cons h, permL_cons e1]
      exact .cons e2 (permL_dps r is)
abbrev IK (cA : String → Addr) (bs : Bs) (W : WX) (X : Cx) (kws : List Keyword) (m : M (List D)) : Prop := PK X kws (tG X.K cA W bs rDs m)
theorem ik_nil : IK cA bs W X [] mNil := ⟨fun pos pins s σ H Q I h => pk_nil.run pos pins s σ H Q I (by
  obtain ⟨C, B, O, σ, hb, R0, k⟩ := h
  exact k O [] H R0 Fr.refl .nil)⟩
theorem ik_cons {ma : M D} {ms : M (List D)} {nm : Option Str} {kpos : Pos} (ha : IE cA bs W X e ma) (hr : IK cA bs W X kws ms) : IK cA bs W X (⟨nm, e, kpos⟩ :: kws) (mCons ma ms) := ⟨fun pos pins s σ H Q I h => (pk_cons ha hr).run pos pins s σ H Q I (by
  obtain ⟨C, B, O, σ, hb, R0, k⟩ := h
  refine ⟨C, B, O, σ, hb, R0, (KG.bind (rel := rD) k).imp fun x H1 ⟨a, σ1, O1, R1, F1, d1, k1⟩ => ⟨C, B, O1, σ1, hb, R1, (KG.bind (rel := rDs) k1).imp fun z H2 ⟨b, σ2, O2, R2, F2, d2, k2⟩ => ?_⟩⟩
  exact k2 O2 _ H2 R2 Fr.refl (.cons (dp_mono F2.vis d1) d2))⟩
def mKw (n : Nat) (m : Fd) (is : List Nat) (ms : M (List D)) : M LV := fun σ => (ms σ).bind fun ds σ1 => if (permL is ds).length = n then callRes m ((permL is ds).map Ag.d) none σ1 else .stuck
theorem ic_kw {ks : List Str} {is : List Nat} {ms : M (List D)} (F : FnOk X.prog X.w X.K X.mg X.base (L2.CX X.prog X.w) k f fd ps (spOf X.K cA n none m)) (hn : n = ps.length) (hr : Room k X.A) (hm : X.mg x = some (.ref f)) (hk : PySem.W.keepIn X.K (.ref f) = true)
    (hb : ∀ ws : List Value, ws.length = ks.length → bindArgs fd ⟨[], ks.zip ws⟩ = pure (ps.zip (permL is ws))) (tk : Takes X W) (ha : IK cA bs W X kws ms) (hg : Gl X x)
    (hall : (backToKw pos (keywordEach kws X.env)).all (·.1.isSome) = true := by rfl) (hks : (backToKw pos (keywordEach kws X.env)).filterMap (·.1) = ks := by rfl)
    (hdb : (x == ("__debug__" : Str)) = false := by decide) (hpl : ((backTo pos (starEach [] X.env)).any (·.1) || (backToKw pos (keywordEach kws X.env)).any (·.1.isNone)) = false := by rfl) (hlen : ∀ (σ σ1 : Loc) (ds : List D), ms σ = .ok ds σ1 → ds.length = ks.length) :
    IC cA bs W X (.Call (.Name x p) [] kws pos) (mKw n m is ms) := by
  refine ⟨fun pins s σ H Q I h => ?_⟩
  refine wpAny_Call_Name_kw (ld_glob I hg hm ?_ hdb)
  refine PySem.W.callWith_KW0 (h₀ := X.base) I.ok.mod.kin hk hall ?_ hpl
  obtain ⟨C, B, O, σ0, hB, R0, kk⟩ := h
  have key : tG X.K cA W bs rDs ms σ H (fun zs H1 => zs.length = ks.length ∧ spOf X.K cA n none m (permL is zs) H1 Q (WE W σ)) := by
    refine ⟨C, B, O, σ0, hB, R0, ?_⟩
    unfold mKw at kk
    cases em : ms σ0 with
    | stuck => rw [em] at kk; exact kk.elim
    | raise x σ1 => rw [em] at kk; exact kk
    | ok ds σ1 =>
      rw [em] at kk
      intro O' zs H' R1 F1 d1
      have d1 : DpAll X.K (hide (O' ++ C) H') zs ds := d1
      refine ⟨by rw [d1.length]; exact hlen σ0 σ1 ds em, ?_⟩
      have kk : KG X.K cA W rR C B O H σ Q (if (permL is ds).length = n then callRes m ((permL is ds).map Ag.d) none σ1 else .stuck) := kk
      have dd := permL_dps d1 is
      by_cases hl : (permL is ds).length = n
      · rw [if_pos hl] at kk
        refine call_core R1 ⟨by rw [dd.length, List.length_map], fun k x e => ?_, fun k i e => ?_⟩ (by rw [List.length_map]; exact hl) (kk.on F1)
        · rw [List.getElem?_map] at e
          cases q : (permL is ds)[k]? with
          | none => rw [q] at e; cases e
          | some d => rw [q] at e; cases e; exact dd.get q
        · rw [List.getElem?_map] at e
          cases q : (permL is ds)[k]? with
          | none => rw [q] at e; cases e
          | some d => rw [q] at e; cases e
      · rw [if_neg hl] at kk; exact kk.elim
  refine thn (ha.run pos pins s σ H _ I key) fun ws s2 ⟨zs, H2, I2, rz, hzl, q2⟩ => ⟨I2.kIn, ?_⟩
  rw [hks]
  show wpAny _ _ (call (.ref f) ([] ++ []) (ks.zip ws)) _ _ _
  have r2 := permL_vals rz is
  have hwl : ws.length = ks.length := by rw [← rz.length]; exact hzl
  refine wpAny_call (codeAny_mono (F.run X.A X.stack s2 H2 ⟨[], ks.zip ws⟩ (permL is ws) (permL is zs) Q (WE W σ) hr I2.env0 (.of_eq (hb ws hwl)) r2 q2) fun r s' hq => ?_)
  cases r with
  | error e => exact passAt tk σ pins H2 s2 e s' I2 hq
  | ok fl =>
    cases fl with
    | ret u => exact I2.after hq
    | next => exact False.elim hq
    | brk => exact False.elim hq
    | cont => exact False.elim hq
end
end Pu

set_option Elab.async false
set_option linter.all false
set_option maxRecDepth 100000
set_option maxHeartbeats 2000000
namespace Pu
open PySem PySem.Spec L2

/-! ### errors of one's own: made -/
def spIni2 (K : PySem.W.Frag) (f1 f2 : Str) : Sp := fun vs H Q _ => ∃ (a C : Addr) (u z : V), vs = [.ref a, u, z] ∧ OexC K C ∧ PySem.W.findIn K (.ref C) f1 = some none ∧ PySem.W.findIn K (.ref C) f2 = some none ∧ H a = some (exo a C none) ∧
  ∀ dx, H dx = none → dx ≠ a → Q .non (upd (upd (upd H dx (exd dx [(f1, u)])) a (exo a C (some dx))) dx (exd dx [(f2, z), (f1, u)]))
def spIni1 (K : PySem.W.Frag) (f1 : Str) : Sp := fun vs H Q _ => ∃ (a C : Addr) (u : V), vs = [.ref a, u] ∧ OexC K C ∧ PySem.W.findIn K (.ref C) f1 = some none ∧ H a = some (exo a C none) ∧
  ∀ dx, H dx = none → dx ≠ a → Q .non (upd (upd H dx (exd dx [(f1, u)])) a (exo a C (some dx)))
def tIni2 (K : PySem.W.Frag) (f1 f2 : Str) : TS := tSeq (tOst K f1 (tVar 0) (tVar 1)) (tOst K f2 (tVar 0) (tVar 2))
theorem ini2_of {K : PySem.W.Frag} {f1 f2 : Str} {vs : List V} {H : Hp} {Q : VK} {E : XK} {n1 n2 n3 : Str} (h : spIni2 K f1 f2 vs H Q E) : tIni2 K f1 f2 { nx := fun _ H' => Q .non H', rt := Q } (start [n1, n2, n3] vs) H := by
  obtain ⟨a, C, u, z, rfl, T, h1, h2, ha, q⟩ := h
  refine ⟨_, rfl, _, rfl, a, C, rfl, T, h1, .inl ⟨ha, fun dx hdx ndx => ?_⟩⟩
  refine ⟨_, rfl, _, rfl, a, C, rfl, T, h2, .inr ⟨dx, [(f1, u)], upd_same, ?_, (by show 1 ≤ 900; decide), q dx hdx ndx⟩⟩
  rw [upd_ne ndx, upd_same]
theorem ini1_of {K : PySem.W.Frag} {f1 : Str} {vs : List V} {H : Hp} {Q : VK} {E : XK} {n1 n2 : Str} (h : spIni1 K f1 vs H Q E) : tOst K f1 (tVar 0) (tVar 1) { nx := fun _ H' => Q .non H', rt := Q } (start [n1, n2] vs) H := by
  obtain ⟨a, C, u, rfl, T, h1, ha, q⟩ := h
  exact ⟨_, rfl, _, rfl, a, C, rfl, T, h1, .inl ⟨ha, fun dx hdx ndx => q dx hdx ndx⟩⟩
def sRaise2 (c : String) (f1 f2 : Str) (ms : M (List D)) : S := fun σ => (ms σ).toS fun ds σ1 => match ds with
  | [d1, d2] => .rs ⟨c, [(f2, d2), (f1, d1)]⟩ σ1
  | _ => .stuck
def sRaise1 (c : String) (f1 : Str) (ms : M (List D)) : S := fun σ => (ms σ).toS fun ds σ1 => match ds with
  | [d1] => .rs ⟨c, [(f1, d1)]⟩ σ1
  | _ => .stuck
theorem made_eq {H : Hp} {a dx : Addr} {o1 o2 o3 o4 : HO} (ha : H a = none) (nd : dx ≠ a) : upd (del (upd (upd (upd (upd H a o1) dx o2) a o3) dx o4) a) dx (.xd fs) = upd H dx (.xd fs) := by
  funext b
  by_cases h : b = dx
  · subst h; rw [upd_same, upd_same]
  · rw [upd_ne h, upd_ne h]
    by_cases h2 : b = a
    · subst h2; rw [del_same, ha]
    · rw [del_ne h2, upd_ne h, upd_ne h2, upd_ne h, upd_ne h2]
theorem made_eq1 {H : Hp} {a dx : Addr} {o1 o2 o3 : HO} (ha : H a = none) (nd : dx ≠ a) : upd (del (upd (upd (upd H a o1) dx o2) a o3) a) dx (.xd fs) = upd H dx (.xd fs) := by
  funext b
  by_cases h : b = dx
  · subst h; rw [upd_same, upd_same]
  · rw [upd_ne h, upd_ne h]
    by_cases h2 : b = a
    · subst h2; rw [del_same, ha]
    · rw [del_ne h2, upd_ne h2, upd_ne h, upd_ne h2]
section
variable {X : Cx} {cA : String → Addr} {bs : Bs} {W : WX} {a b e : Expr} {es : List Expr} {ms : M (List D)} {pos p pos2 : Pos} {x : Str} {k : Nat} {fI : Addr} {fd : FuncData} {ps : List Str} {c : String} {f1 f2 : Str}
theorem is_raise2 (hc : X.calm = true) (tk : Takes X W) (T : OexC X.K (cA c)) (iC : PySem.W.findIn X.K (.ref (cA c)) "__init__" = some (some (.ref fI))) (tI : PySem.W.typeIn X.K (.ref fI) = some (.type "function")) (n1 : PySem.W.findIn X.K (.ref (cA c)) f1 = some none) (n2 : PySem.W.findIn X.K (.ref (cA c)) f2 = some none)
    (F : FnOk X.prog X.w X.K X.mg X.base (L2.CX X.prog X.w) k fI fd ps (spIni2 X.K f1 f2)) (hr : Room (k + 1) X.A) (hb : Binds X.K fd ps []) (hm : X.mg x = some (.ref (cA c))) (ha : IA cA bs W X (e :: es) ms) (hg : Gl X x)
    (hdb : (x == ("__debug__" : Str)) = false := by decide) (he : starEach (e :: es) X.env = (false, eval e X.env) :: starEach es X.env := by rfl) (hpl : (backTo pos (starEach es X.env)).any (·.1) = false := by rfl) :
    IS cA bs W X (.Raise (some (.Call (.Name x p) (e :: es) [] pos)) none pos2) (sRaise2 c f1 f2 ms) := (ps_raise hc tk (pmk_oex T iC tI F hr hb .nil passL hg hm ha hdb he hpl)).wk fun E y H h => by
  obtain ⟨C, B, O, σ, hB, R0, k⟩ := h
  refine ⟨C, B, O, σ, hB, R0, (KS.bind (rel := rDs) k).imp fun vs H1 ⟨ds, σ1, O1, R1, F1, d1, k1⟩ => ?_⟩
  split at k1
  · obtain ⟨v, v', rfl, h9, h8⟩ := dps2 d1
    refine ⟨(by show 2 ≤ 1000; decide), fun a ha => ⟨a, cA c, v, v', rfl, T, n1, n2, upd_same, fun dx hdx ndx => ⟨rfl, dx, [(f2, v'), (f1, v)], ?_, upd_same, ?_, ?_⟩⟩⟩
    · rw [upd_ne ndx.symm, upd_same]
    · rw [← hdx, upd_ne ndx]
    · rw [made_eq ha ndx]
      have hd1 : H1 dx = none := by rw [← hdx, upd_ne ndx]
      obtain ⟨R3, F3⟩ := R1.laid (o := .xd [(f2, v'), (f1, v)]) hd1
      obtain ⟨s1, s2⟩ := hide_upd (o := .xd [(f2, v'), (f1, v)]) hd1 (R1.ninA hd1)
      exact k1 O1 y _ dx _ R3 F3 s2 (.cons ⟨rfl, dp_mono s1 h8⟩ (.cons ⟨rfl, dp_mono s1 h9⟩ .nil))
  · exact k1.elim
theorem is_raise1 (hc : X.calm = true) (tk : Takes X W) (T : OexC X.K (cA c)) (iC : PySem.W.findIn X.K (.ref (cA c)) "__init__" = some (some (.ref fI))) (tI : PySem.W.typeIn X.K (.ref fI) = some (.type "function")) (n1 : PySem.W.findIn X.K (.ref (cA c)) f1 = some none)
    (F : FnOk X.prog X.w X.K X.mg X.base (L2.CX X.prog X.w) k fI fd ps (spIni1 X.K f1)) (hr : Room (k + 1) X.A) (hb : Binds X.K fd ps []) (hm : X.mg x = some (.ref (cA c))) (ha : IA cA bs W X (e :: es) ms) (hg : Gl X x)
    (hdb : (x == ("__debug__" : Str)) = false := by decide) (he : starEach (e :: es) X.env = (false, eval e X.env) :: starEach es X.env := by rfl) (hpl : (backTo pos (starEach es X.env)).any (·.1) = false := by rfl) :
    IS cA bs W X (.Raise (some (.Call (.Name x p) (e :: es) [] pos)) none pos2) (sRaise1 c f1 ms) := (ps_raise hc tk (pmk_oex T iC tI F hr hb .nil passL hg hm ha hdb he hpl)).wk fun E y H h => by
  obtain ⟨C, B, O, σ, hB, R0, k⟩ := h
  refine ⟨C, B, O, σ, hB, R0, (KS.bind (rel := rDs) k).imp fun vs H1 ⟨ds, σ1, O1, R1, F1, d1, k1⟩ => ?_⟩
  split at k1
  · obtain ⟨v, rfl, h9⟩ := dps1 d1
    refine ⟨(by show 1 ≤ 1000; decide), fun a ha => ⟨a, cA c, v, rfl, T, n1, upd_same, fun dx hdx ndx => ⟨rfl, dx, [(f1, v)], upd_same, ?_, ?_, ?_⟩⟩⟩
    · rw [upd_ne ndx, upd_same]
    · rw [← hdx, upd_ne ndx]
    · rw [made_eq1 ha ndx]
      have hd1 : H1 dx = none := by rw [← hdx, upd_ne ndx]
      obtain ⟨R3, F3⟩ := R1.laid (o := .xd [(f1, v)]) hd1
      obtain ⟨s1, s2⟩ := hide_upd (o := .xd [(f1, v)]) hd1 (R1.ninA hd1)
      exact k1 O1 y _ dx _ R3 F3 s2 (.cons ⟨rfl, dp_mono s1 h9⟩ .nil)
  · exact k1.elim
end

/-! ### try .. except X as n -/
def SR.behind (r : SR) (i : Nat) : SR := match r with
  | .nx σ => .nx (σ.set i none)
  | .bk σ => .bk (σ.set i none)
  | .ct σ => .ct (σ.set i none)
  | .rt v σ => .rt v (σ.set i none)
  | .rs _ _ => .stuck
  | .stuck => .stuck
def sTryAs (body : S) (c0 : String) (nm : List String) (i : Nat) (su : S) : S := fun σ => match body σ with
  | .rs x σ1 => if x.c = c0 then (if i < σ1.length then (su (σ1.set i (some (.e x.fs)))).behind i else .stuck) else if x.c ∈ nm then .rs x σ1 else .stuck
  | r => r
/-- .. without a name -/
def SR.noRs (r : SR) : SR := match r with
  | .rs _ _ => .stuck
  | r => r
def sTry (body : S) (c0 : String) (nm : List String) (su : S) : S := fun σ => match body σ with
  | .rs x σ1 => if x.c = c0 then (su σ1).noRs else if x.c ∈ nm then .rs x σ1 else .stuck
  | r => r
section
variable {K : PySem.W.Frag} {cA : String → Addr} {C O : List Addr} {B : Bx} {H : Hp} {σ : Loc} {y : St}
theorem R.held (r : R K C B O σ y H) {i : Nat} {a d : Addr} {fs : List (Str × D)} {fsv : List (Str × V)} (hi : i ∉ B.ids) (hl : i < σ.length) (hd : hide (O ++ C) H d = some (.xd fsv)) (hf : FsOk K (hide (O ++ C) H) fsv fs) :
    R K C ⟨B.r, B.e ++ [⟨i, a, d, fs⟩]⟩ O (σ.set i (some (.e fs))) (y.set i (some (.ref a))) H := by
  have ne : ∀ (j : Nat) (z : LV), (∀ g, z ≠ .e g) → (σ.set i (some (.e fs)))[j]? = some (some z) → j ≠ i ∧ σ[j]? = some (some z) := fun j z hz e => by
    rcases get_set e with ⟨_, _, e'⟩ | ⟨h, e'⟩
    · exact absurd (Option.some.inj e') (hz fs)
    · exact ⟨h, e'⟩
  refine ⟨by rw [List.length_set, List.length_set, r.len], fun j x e => ?_, fun j x e => ?_, fun j k x z b e1 e2 e3 e4 => ?_, fun p hp => ?_, r.trk, r.bin, r.dis, fun p hp j x e1 e2 => ?_, fun q hq => ?_, fun j gs e => ?_⟩
  · obtain ⟨h, e'⟩ := ne j _ (fun _ z => by cases z) e
    rw [set_get_ne h]; exact r.dat j x e'
  · obtain ⟨h, e'⟩ := ne j _ (fun _ z => by cases z) e
    rw [set_get_ne h]; exact r.own j x e'
  · obtain ⟨h1, e1'⟩ := ne j _ (fun _ z => by cases z) e1
    obtain ⟨h2, e2'⟩ := ne k _ (fun _ z => by cases z) e2
    rw [set_get_ne h1] at e3; rw [set_get_ne h2] at e4
    exact r.inj j k x z b e1' e2' e3 e4
  · have n : p.1 ≠ i := fun z => hi (z ▸ Bx.inr hp)
    rw [set_get_ne n]; exact r.pin p hp
  · obtain ⟨h1, e1'⟩ := ne j _ (fun _ z => by cases z) e1
    rw [set_get_ne h1] at e2
    exact r.pinO p hp j x e1' e2
  · rcases List.mem_append.mp hq with hq | hq
    · have n : q.i ≠ i := fun z => hi (z ▸ Bx.ine hq)
      rw [set_get_ne n]; exact r.exc q hq
    · rw [List.mem_singleton.mp hq]
      exact ⟨set_get_eq (by rw [← r.len]; exact hl), fsv, hd, hf⟩
  · rcases get_set e with ⟨h, _, e'⟩ | ⟨h, e'⟩
    · cases e'
      exact ⟨_, List.mem_append_right _ List.mem_cons_self, h.symm, rfl⟩
    · obtain ⟨q, h1, h2⟩ := r.exl j gs e'
      exact ⟨q, List.mem_append_left _ h1, h2⟩
theorem R.unheld {i : Nat} {x : Xe} (r : R K C ⟨B.r, B.e ++ [x]⟩ O σ y H) (hx : x.i = i) (hi : i ∉ B.ids) : R K C B O (σ.set i none) (y.set i none) H := by
  have ne : ∀ (j : Nat) (z : LV), (σ.set i none)[j]? = some (some z) → j ≠ i ∧ σ[j]? = some (some z) := fun j z e => by
    rcases get_set e with ⟨_, _, e'⟩ | ⟨h, e'⟩
    · cases e'
    · exact ⟨h, e'⟩
  refine ⟨by rw [List.length_set, List.length_set, r.len], fun j x e => ?_, fun j x e => ?_, fun j k x z b e1 e2 e3 e4 => ?_, fun p hp => ?_, r.trk, r.bin, r.dis, fun p hp j x e1 e2 => ?_, fun q hq => ?_, fun j gs e => ?_⟩
  · obtain ⟨h, e'⟩ := ne j _ e
    rw [set_get_ne h]; exact r.dat j x e'
  · obtain ⟨h, e'⟩ := ne j _ e
    rw [set_get_ne h]; exact r.own j x e'
  · obtain ⟨h1, e1'⟩ := ne j _ e1
    obtain ⟨h2, e2'⟩ := ne k _ e2
    rw [set_get_ne h1] at e3; rw [set_get_ne h2] at e4
    exact r.inj j k x z b e1' e2' e3 e4
  · have n : p.1 ≠ i := fun z => hi (z ▸ Bx.inr hp)
    rw [set_get_ne n]; exact r.pin p hp
  · obtain ⟨h1, e1'⟩ := ne j _ e1
    rw [set_get_ne h1] at e2
    exact r.pinO p hp j x e1' e2
  · have n : q.i ≠ i := fun z => hi (z ▸ Bx.ine hq)
    rw [set_get_ne n]; exact r.exc q (List.mem_append_left _ hq)
  · obtain ⟨h1, e1'⟩ := ne j _ e
    obtain ⟨q, g1, g2, g3⟩ := r.exl j gs e1'
    rcases List.mem_append.mp g1 with g1 | g1
    · exact ⟨q, g1, g2, g3⟩
    · rw [List.mem_singleton.mp g1] at g2
      exact absurd (g2.symm.trans hx) h1
end
theorem psS_ex {X : Cx} {st : List Stmt} {P : Prop} {α : Type} {q : α → Prop} {t : α → TS} (h : P → ∀ d, q d → PSs X st (t d)) : PSs X st (fun E y H => P ∧ ∃ d, q d ∧ t d E y H) := ⟨fun pins s σ H D I hh => by
  obtain ⟨hp, d, hq, ht⟩ := hh
  exact (h hp d hq).run pins s σ H D I ht⟩
section
variable {X : Cx} {cA : String → Addr} {bs : Bs} {W : WX} {pos pos' np : Pos} {x n : Str} {c0 : String} {nm : List String} {i : Nat} {body suite : List Stmt} {b₀ : Stmt} {sb su : S}
/-- what is wanted behind the suite, the error's name gone -/
theorem behind_of {C O : List Addr} {B : Bx} {H : Hp} {E : Ends} {x : Xe} {r : SR} (hx : x.i = i) (hi : i ∉ B.ids) (k : KS X.K cA W C B O H E (r.behind i)) :
    KS X.K cA W0 C ⟨B.r, B.e ++ [x]⟩ O H { nx := fun σ' H' => E.nx (σ'.set i none) H', rt := E.rt, bk := fun σ' H' => E.bk (σ'.set i none) H', ct := fun σ' H' => E.ct (σ'.set i none) H' } r := by
  cases r with
  | nx σ => exact fun O' y H' h1 h2 => k O' _ H' (h1.unheld hx hi) h2
  | bk σ => exact fun O' y H' h1 h2 => k O' _ H' (h1.unheld hx hi) h2
  | ct σ => exact fun O' y H' h1 h2 => k O' _ H' (h1.unheld hx hi) h2
  | rt v σ =>
    intro O' y H' u h1 h2 h3
    refine k O' _ H' u (h1.unheld hx hi) h2 ?_
    cases v with
    | d z => exact h3
    | e z => exact h3
    | o z =>
      obtain ⟨p, e, hp, ho, hn, hb⟩ := h3
      refine ⟨p, e, hp, ho, fun j w e1 => ?_, hb⟩
      rcases get_set e1 with ⟨_, _, e'⟩ | ⟨h, e'⟩
      · cases e'
      · rw [set_get_ne h]; exact hn j w e'
  | rs x σ => exact k.elim
  | stuck => exact k
theorem noRs_of {C O : List Addr} {B : Bx} {H : Hp} {E : Ends} {r : SR} (k : KS X.K cA W C B O H E r.noRs) : KS X.K cA W0 C B O H E r := by
  cases r with
  | rs x σ => exact k.elim
  | nx σ => exact k
  | bk σ => exact k
  | ct σ => exact k
  | rt v σ => exact k
  | stuck => exact k
theorem is_tryAs (hs : X.stack = X.env :: X.outer) (hf : X.env.frame = some X.env.locals) (hN : X.N.Nodup) (hi : X.N[i]? = some n) (hln : X.env.kindOf n = some .local) (hc : Names X x (.ref (cA c0))) (tk : Takes X W)
    (hte : PySem.W.exmOne X.K (.ref (cA c0)) (.ref (cA c0)) = some true) (hnm : ∀ c ∈ nm, PySem.W.exmOne X.K (.ref (cA c)) (.ref (cA c0)) = some false) (hil : ∀ (C : List Addr) (B : Bx) (O : List Addr) (σ : Loc) (y : St) (H : Hp), R X.K C B O σ y H → B.is bs → i ∉ B.ids)
    (hb : ∀ (W : WX) (pn : List (Addr × Obj)) (xe : Value → Shared → Prop), Takes (X.tr pn xe) W → PassesOwn (model X.prog X.w) X.A X.env xe → ISs cA bs W (X.tr pn xe) body sb)
    (hsu : ∀ (a : Addr) (oe : Obj) (dd : Addr) (pn : List (Addr × Obj)), Zc (.ref (cA c0)) (some dd) oe → (∃ vs, oe.data = .fields vs) → ISs cA ⟨bs.ids ++ [i], bs.xs ++ [(i, a, dd)]⟩ W0 (X.suite a ((a, oe) :: pn)) (b₀ :: suite) su) :
    IS cA bs W X (.Try body [.ExceptHandler (some (.Name x np)) (some n) (b₀ :: suite) pos'] [] [] pos) (sTryAs sb c0 nm i su) :=
  (ps_try_as (tb := fun W => tS X.K cA W bs sb) (ts := fun a cls d E y H => cls = .ref (cA c0) ∧ ∃ dd, d = some dd ∧ tS X.K cA W0 ⟨bs.ids ++ [i], bs.xs ++ [(i, a, dd)]⟩ su E y H) hs hf hN hi hln hc tk hb (fun a oe cls d pn hz hv => psS_ex fun e1 dd e2 => by
    subst e1; subst e2
    exact hsu a oe dd pn hz hv)).wk fun E y H h => by
      obtain ⟨C, B, O, σ, hB, R0, k⟩ := h
      refine ⟨C, B, O, σ, hB, R0, ?_⟩
      unfold sTryAs at k
      cases eb : sb σ with
      | nx σ1 => rw [eb] at k; exact k
      | bk σ1 => rw [eb] at k; exact k
      | ct σ1 => rw [eb] at k; exact k
      | rt v σ1 => rw [eb] at k; exact k
      | stuck => rw [eb] at k; exact k
      | rs ex σ1 =>
        rw [eb] at k
        intro O' y' H' d fsv R1 F1 hd hf1
        by_cases hcx : ex.c = c0
        · have k : KS X.K cA W C B O H E (if ex.c = c0 then (if i < σ1.length then (su (σ1.set i (some (.e ex.fs)))).behind i else .stuck) else if ex.c ∈ nm then .rs ex σ1 else .stuck) := k
          rw [if_pos hcx] at k
          by_cases hil2 : i < σ1.length
          case neg => rw [if_neg hil2] at k; exact k.elim
          rw [if_pos hil2] at k
          rw [hcx]
          refine ⟨true, hte, fun _ a ha => ⟨rfl, d, rfl, C, ⟨B.r, B.e ++ [⟨i, a, d, ex.fs⟩]⟩, O', σ1.set i (some (.e ex.fs)), ?_, ?_, ?_⟩, fun z => nomatch z⟩
          · constructor
            · unfold Bx.ids
              rw [List.map_append, ← List.append_assoc]
              have := hB.1
              unfold Bx.ids at this
              rw [this]; rfl
            · rw [List.map_append, hB.2]; rfl
          · exact R1.held (hil C B O' σ1 y' H' R1 hB) hil2 hd hf1
          · exact behind_of rfl (hil C B O' σ1 y' H' R1 hB) (k.on F1)
        · have k : KS X.K cA W C B O H E (if ex.c = c0 then (if i < σ1.length then (su (σ1.set i (some (.e ex.fs)))).behind i else .stuck) else if ex.c ∈ nm then .rs ex σ1 else .stuck) := k
          rw [if_neg hcx] at k
          by_cases hm : ex.c ∈ nm
          · rw [if_pos hm] at k
            exact ⟨false, hnm _ hm, (fun z => nomatch z), fun _ => k O' y' H' d fsv R1 F1 hd hf1⟩
          · rw [if_neg hm] at k; exact k.elim
theorem is_try (hs : X.stack = X.env :: X.outer) (hf : X.env.frame = some X.env.locals) (hc : Names X x (.ref (cA c0))) (tk : Takes X W)
    (hte : PySem.W.exmOne X.K (.ref (cA c0)) (.ref (cA c0)) = some true) (hnm : ∀ c ∈ nm, PySem.W.exmOne X.K (.ref (cA c)) (.ref (cA c0)) = some false)
    (hb : ∀ (W : WX) (pn : List (Addr × Obj)) (xe : Value → Shared → Prop), Takes (X.tr pn xe) W → PassesOwn (model X.prog X.w) X.A X.env xe → ISs cA bs W (X.tr pn xe) body sb)
    (hsu : ∀ (a : Addr) (oe : Obj) (dd : Addr) (pn : List (Addr × Obj)), Zc (.ref (cA c0)) (some dd) oe → (∃ vs, oe.data = .fields vs) → ISs cA bs W0 (X.suite a ((a, oe) :: pn)) (b₀ :: suite) su) :
    IS cA bs W X (.Try body [.ExceptHandler (some (.Name x np)) none (b₀ :: suite) pos'] [] [] pos) (sTry sb c0 nm su) :=
  (ps_try_only (tb := fun W => tS X.K cA W bs sb) (ts := fun a cls d E y H => cls = .ref (cA c0) ∧ ∃ dd, d = some dd ∧ tS X.K cA W0 bs su E y H) hs hf hc tk hb (fun a oe cls d pn hz hv => psS_ex fun e1 dd e2 => by
    subst e1; subst e2
    exact hsu a oe dd pn hz hv)).wk fun E y H h => by
      obtain ⟨C, B, O, σ, hB, R0, k⟩ := h
      refine ⟨C, B, O, σ, hB, R0, ?_⟩
      unfold sTry at k
      cases eb : sb σ with
      | nx σ1 => rw [eb] at k; exact k
      | bk σ1 => rw [eb] at k; exact k
      | ct σ1 => rw [eb] at k; exact k
      | rt v σ1 => rw [eb] at k; exact k
      | stuck => rw [eb] at k; exact k
      | rs ex σ1 =>
        rw [eb] at k
        intro O' y' H' d fsv R1 F1 hd hf1
        have k : KS X.K cA W C B O H E (if ex.c = c0 then (su σ1).noRs else if ex.c ∈ nm then .rs ex σ1 else .stuck) := k
        by_cases hcx : ex.c = c0
        · rw [if_pos hcx] at k
          rw [hcx]
          exact ⟨true, hte, fun _ a ha => ⟨rfl, d, rfl, C, B, O', σ1, hB, R1, noRs_of (k.on F1)⟩, fun z => nomatch z⟩
        · rw [if_neg hcx] at k
          by_cases hm : ex.c ∈ nm
          · rw [if_pos hm] at k
            exact ⟨false, hnm _ hm, (fun z => nomatch z), fun _ => k O' y' H' d fsv R1 F1 hd hf1⟩
          · rw [if_neg hm] at k; exact k.elim
end
/-! ### in the suite: n.f, isinstance(n, C) -/
def mFld (i : Nat) (f : Str) : M D := fun σ => match σ[i]? with | some (some (.e fs)) => ofO (fs.lookup f) σ | _ => .stuck
def mExc (i : Nat) (b : Bool) : M D := fun σ => match σ[i]? with | some (some (.e _)) => .ok (.bool b) σ | _ => .stuck
theorem fs_lookup {K : PySem.W.Frag} {G : Hp} {f : Str} : ∀ {fsv : List (Str × V)} {fs : List (Str × D)} {d : D}, FsOk K G fsv fs → fs.lookup f = some d → ∃ v, fsv.lookup f = some v ∧ Dp K G v d
  | _, _, _, .nil, h => by simp at h
  | (n1, v1) :: r, (n2, d2) :: r2, d, .cons ⟨e1, e2⟩ t, h => by
    have e1 : n1 = n2 := e1
    subst e1
    rw [List.lookup_cons] at h ⊢
    cases q : f == n1 with
    | true =>
      rw [q] at h
      have h : some d2 = some d := h
      cases h
      exact ⟨v1, rfl, e2⟩
    | false =>
      rw [q] at h
      exact fs_lookup t h
section
variable {X : Cx} {cA : String → Addr} {bs : Bs} {pos p p2 : Pos} {n m : Str} {i : Nat} {a dd C : Addr} {oe : Obj} {pn : List (Addr × Obj)} {e b : Expr}
theorem held_at {C : List Addr} {B : Bx} {O : List Addr} {σ : Loc} {y : St} {H : Hp} {fs : List (Str × D)} (hx : ∀ t ∈ bs.xs, t.1 = i → t = (i, a, dd)) (hB : B.is bs) (r : R X.K C B O σ y H) (e : σ[i]? = some (some (.e fs))) :
    y[i]? = some (some (.ref a)) ∧ ∃ fsv, hide (O ++ C) H dd = some (.xd fsv) ∧ FsOk X.K (hide (O ++ C) H) fsv fs := by
  obtain ⟨q, hq, e1, e2⟩ := r.exl i fs e
  have : (q.i, q.a, q.d) ∈ bs.xs := by rw [← hB.2]; exact List.mem_map_of_mem hq
  have h3 := hx _ this e1
  injection h3 with h4 h5
  injection h5 with h6 h7
  obtain ⟨g1, fsv, g2, g3⟩ := r.exc q hq
  rw [← e2, ← h6, ← h7, ← e1]
  exact ⟨g1, fsv, g2, g3⟩
theorem ie_fld (T : XfC X.K C) (hno : PySem.W.findIn X.K (.ref C) n = some none) (hz : Zc (.ref C) (some dd) oe) (hf : ∃ vs, oe.data = .fields vs) (he : PE (X.suite a ((a, oe) :: pn)) e (tVar i)) (hx : ∀ t ∈ bs.xs, t.1 = i → t = (i, a, dd))
    (hb : attributeBase e n X.env (eval e X.env) = eval e X.env := by rfl) : IE cA bs W0 (X.suite a ((a, oe) :: pn)) (.Attribute e n pos) (mFld i n) := (pe_xf T hno hz hf he hb).wk fun y H Q h => by
  obtain ⟨C', B, O, σ, hB, R0, k⟩ := h
  unfold mFld at k
  split at k
  · rename_i fs es
    obtain ⟨e1, fsv, e2, e3⟩ := held_at hx hB R0 es
    obtain ⟨d, ed, q⟩ := k.ofO
    obtain ⟨v, ev, dv⟩ := fs_lookup e3 ed
    exact ⟨_, e1, rfl, rfl, dd, fsv, v, rfl, (hide_some e2).2, ev, q O v H R0 Fr.refl dv⟩
  · exact k.elim
/-- what the written part says of an error's class, for isinstance -/
structure ExI (K : PySem.W.Frag) (D : Addr) : Prop where
  cl : (PySem.W.clsIn K D).isSome = true
  ga : PySem.W.findIn K (.ref D) "__getattribute__" = some (some (.builtin "BaseException.__getattribute__"))
  gg : PySem.W.findIn K (.ref D) "__getattr__" = some none
  sb : PySem.W.subIn K (.ref D) (.type "BaseException") = some true
  kc : PySem.W.findIn K (.ref D) "__class__" = some (some (.builtin "object.__class__"))
  gs : PySem.W.specialIn K (.builtin "object.__class__") "__get__" = some (some (.builtin "getset_descriptor.__get__"))
  tk : PySem.W.takesIn K (.builtin "object.__class__") = some true
  mr : PySem.W.mroIn K D (.type "object") = some true
def rIsX (K : PySem.W.Frag) (D a dd : Addr) : List V → Hp → VK → Prop := fun xs H Q => ∃ (c : V) (cv : Value) (b : Bool) (fs : List (Str × V)), xs = [.ref a, c] ∧ (∀ u, RelV c u → u = cv) ∧ PySem.W.kitOne K (.ref D) cv = some b ∧ H dd = some (.xd fs) ∧ Q (.bl b) H
theorem call_isX {D : Addr} (T : ExI X.K D) (hz : Zc (.ref D) (some dd) oe) (hf : ∃ vs, oe.data = .fields vs) : CallR (X.suite a ((a, oe) :: pn)) (.builtin "isinstance") (rIsX X.K D a dd) := by
  intro pins s σ H xs us Q I r h
  obtain ⟨c, cv, b, fs, rfl, hcv, e, hd, q⟩ := h
  cases r with
  | cons rx rr =>
    cases rr with
    | cons rt rr =>
      cases rr
      cases rx
      obtain rfl := hcv _ rt
      have hget := (I.pin (a, oe) (List.mem_append_left _ List.mem_cons_self)).1
      obtain ⟨vs, hv⟩ := hf
      obtain ⟨mA, hns, _⟩ := (show ObjOk X.prog X.w H s.heap dd (.xd fs) from I.hok dd _ hd)
      obtain ⟨od, ho, _⟩ := lookIn_ns hns
      have J : PySem.W.InstAt s.heap a oe D (some od) := ⟨hget, hz.1, (by unfold PySem.W.notCls; rw [hv] <;> rfl), (by rw [hz.2]; exact ho)⟩
      exact PySem.W.kia_one (PySem.W.kitx_exc T.cl T.ga T.gg T.sb T.kc T.gs T.tk T.mr) I.kIn J e (fun z => nomatch z) fun tk => ⟨.bl b, H, I.kept (t' := tk) fun _ _ z => z, rfl, q⟩
theorem ie_isX {D : Addr} {cv : Value} {c : V} {r : Bool} (T : ExI X.K D) (hz : Zc (.ref D) (some dd) oe) (hf : ∃ vs, oe.data = .fields vs) (hk : PySem.W.kitOne X.K (.ref D) cv = some r) (hcv : ∀ u, RelV c u → u = cv)
    (he : PE (X.suite a ((a, oe) :: pn)) e (tVar i)) (hc : PE (X.suite a ((a, oe) :: pn)) b (tC c)) (hx : ∀ t ∈ bs.xs, t.1 = i → t = (i, a, dd)) (hg : Gl X "isinstance") (hm : X.mg "isinstance" = none) (hv : bootBuiltins "isinstance" = some (.builtin "isinstance"))
    (hs : starEach (e :: [b]) X.env = (false, eval e X.env) :: starEach [b] X.env := by rfl) (hs2 : starEach (b :: []) X.env = (false, eval b X.env) :: starEach [] X.env := by rfl) (hpl : (backTo pos (starEach [b] X.env)).any (·.1) = false := by rfl) :
    IE cA bs W0 (X.suite a ((a, oe) :: pn)) (.Call (.Name "isinstance" p) [e, b] [] pos) (mExc i r) :=
  (pe_callB (X := X.suite a ((a, oe) :: pn)) (call_isX T hz hf) hg hm hv (pa_cons he (pa_cons hc pa_nil hs2) hs) (by decide) (by decide) hs hpl).wk fun y H Q h => by
    obtain ⟨C', B, O, σ, hB, R0, k⟩ := h
    unfold mExc at k
    split at k
    · rename_i fs es
      obtain ⟨e1, fsv, e2, e3⟩ := held_at hx hB R0 es
      exact ⟨_, e1, c, cv, r, fsv, rfl, hcv, hk, (hide_some e2).2, k O _ H R0 Fr.refl (.bl _)⟩
    · exact k.elim
end
end Pu

set_option Elab.async false
set_option linter.all false
set_option maxRecDepth 100000
set_option maxHeartbeats 4000000
namespace Pu
open PySem PySem.Spec L2

/-! ### list + list, list * int: what stands still may be an operand -/
theorem list_mulW (l : Addr) (items : Array Value) (n : Nat) (dd : Option Addr) (sl : Array (Option Value)) (x : Int) (u : Tok) (hc0 : ¬(!Builtin.List.listFitsIndex x) = true) (hc1 : ¬items.size * x.toNat > (2 ^ 63 - 1) / 8) (hc2 : ¬Builtin.List.listTooLong (items.size * x.toNat) = true)
    (hsz : (List.foldl (fun x1 x2 => x1 ++ x2) #[] (List.replicate (if items.isEmpty = true then 0 else x.toNat) items)).size ≤ sizeLine) :
    Meets (Builtin.«list.__mul__» ⟨[.ref l, .int x u], []⟩) (fun _ R s => s.heap.get? l = some { cls := .type "list", dict := dd, data := .seq items n, slots := sl } ∧
      R (.ok (.ret (Value.ref s.heap.objs.size))) { s with heap := s.heap.push { cls := Value.type "list", data := Data.seq (List.foldl (fun x1 x2 => x1 ++ x2) #[] (List.replicate (if items.isEmpty = true then 0 else x.toNat) items)) }, toks := s.toks }) :=
  .of_wp fun prog w A R s h => by
    obtain ⟨hp, g, d, tk, os⟩ := s; obtain ⟨hl, h⟩ := h
    wp_walk using wpAny_loadPart' hl
    refine wpAny_ite_false (decide_eq_false (Nat.not_lt.mpr hsz)) ?_
    wp_walk using wpAny_loadPart' hl
    exact ⟨_, rfl, h⟩
theorem int_rmulW (a : Int) (t : Tok) (l : Addr) (items : Array Value) (n : Nat) (dd : Option Addr) (sl : Array (Option Value)) :
    Meets (Builtin.«int.__rmul__» ⟨[.int a t, .ref l], []⟩) (fun _ R s => s.heap.get? l = some { cls := .type "list", dict := dd, data := .seq items n, slots := sl } ∧ R (.ok (.ret Value.notImplemented)) s) :=
  .of_wp fun prog w A R s h => by obtain ⟨hp, g, d, tk, os⟩ := s; obtain ⟨hl, h⟩ := h; wp_walk using wpAny_loadPart' hl; exact ⟨_, rfl, h⟩
def rCatS (K : PySem.W.Frag) : R2 := fun x y H Q => ∃ a b xs zs, x = .ref a ∧ y = .ref b ∧ SqL K H a xs ∧ SqL K H b zs ∧ xs.length + zs.length ≤ sizeLine ∧ ∀ p, H p = none → Q (.ref p) (upd H p (.lst (xs ++ zs)))
def rRepS (K : PySem.W.Frag) : R2 := fun x y H Q => ∃ a k xs, x = .ref a ∧ y = .int k ∧ SqL K H a xs ∧ -(2 ^ 63) ≤ k ∧ k < 2 ^ 63 ∧ xs.length * k.toNat ≤ sizeLine ∧
  ∀ p, H p = none → Q (.ref p) (upd H p (.lst (List.replicate k.toNat xs).flatten))
section
variable {X : Cx}
theorem op_catS : OpR X (binaryOp .Add) (rCatS X.K) := by
  intro pins s σ H x y v u Q I rx ry h
  obtain ⟨l, b, xs, zs, rfl, rfl, hH, hB, hz, q⟩ := h
  cases rx
  cases ry
  obtain ⟨its, r, ⟨⟨cls, dd, data, sl⟩, n, ho, hc, hdn, hd⟩, hl⟩ := I.list hH
  obtain ⟨its2, r2, ⟨⟨cls2, dd2, data2, sl2⟩, n2, ho2, hc2, hdn2, hd2⟩, hl2⟩ := I.list hB
  simp only at hc hd hc2 hd2
  subst hc hd hc2 hd2
  have h1 := r.length
  have h2 := r2.length
  refine concat_meets ⟨_, ho, rfl⟩ ⟨_, ho2, rfl⟩ noFill_list_add seq_list_add PySem.F.slot_list_add PySem.F.entry_list_add (PySem.F.args_list_add_2 _ _) (PyProof.Rows.list_addW l b its.toArray its2.toArray n n2 dd dd2 sl sl2 (by simp only [List.size_toArray]; omega)) ⟨ho, ho2, ?_⟩
  have ea : its.toArray ++ its2.toArray = (its ++ its2).toArray := by simp
  rw [ea]
  exact ⟨.ref _, _, I.lnew (t' := s.toks) (r.append r2) (by rw [List.length_append]; omega), rfl, q _ I.fresh⟩
theorem op_repS : OpR X (binaryOp .Mult) (rRepS X.K) := by
  intro pins s σ H x y v u Q I rx ry h
  obtain ⟨l, k, xs, rfl, rfl, hH, h1, h2, hz, q⟩ := h
  cases rx
  obtain ⟨t, rfl⟩ := ry
  obtain ⟨its, r, ⟨⟨cls, dd, data, sl⟩, n, e, hc, hdn, hd⟩, _⟩ := I.list hH
  simp only at hc hd
  subst hc hd
  have hl := r.length
  have hlen : its.toArray.size * k.toNat ≤ sizeLine := by rw [List.size_toArray, ← hl]; exact hz
  have hcap : ¬ its.toArray.size * k.toNat > (2 ^ 63 - 1) / 8 := by
    have : (sizeLine : Nat) ≤ (2 ^ 63 - 1) / 8 := by decide
    omega
  have hfit : ¬ (!Builtin.List.listFitsIndex k) = true := by
    rw [fitsIndex_both h1 h2]
    exact Bool.false_ne_true
  have hlong : ¬ Builtin.List.listTooLong (its.toArray.size * k.toNat) = true := by
    rw [notLongL hlen]
    exact Bool.false_ne_true
  have hnew : List.foldl (fun x1 x2 => x1 ++ x2) #[] (List.replicate (if its.toArray.isEmpty = true then 0 else k.toNat) its.toArray) = (List.replicate k.toNat its).flatten.toArray := by
    have f0 : ∀ m : Nat, List.foldl (fun x1 x2 => x1 ++ x2) #[] (List.replicate m its.toArray) = (List.replicate m its).flatten.toArray := fun m => by
      have := foldl_rep its m []
      rw [List.nil_append] at this
      exact this
    rw [f0]
    cases its with
    | nil => simp
    | cons a r' => rw [if_neg (by simp)]
  have hfl : (List.replicate k.toNat xs).flatten.length ≤ sizeLine := by rw [PyProof.Rows.lm_len_rep_flat, Nat.mul_comm]; exact hz
  refine wpAny_binaryOp_repeat_ref (T := "list") (U := "int") (by decide) ⟨_, e, rfl⟩ (fun s' => typeIs_int s' k t) noFill_list_mul F.fills_int_mul F.slot_int_rmul repeat_list F.slot_int_index.lookup
    (call_meets F.slot_int_rmul (typeIs_int s k t) F.entry_int_rmul (F.args_int_rmul_2 _ _) (int_rmulW k t l its.toArray n dd sl)
      ⟨e, rfl, ⟨_, e, rfl⟩, call_meets F.slot_list_mul ⟨_, e, rfl⟩ F.entry_list_mul (F.args_list_mul_2 _ _) (list_mulW l its.toArray n dd sl k t hfit hcap hlong (by
        rw [hnew, List.size_toArray, PyProof.Rows.lm_len_rep_flat, ← hl, Nat.mul_comm]; exact hz)) ⟨e, ?_⟩⟩)
  rw [hnew]
  exact ⟨.ref _, _, I.lnew (t' := s.toks) (r.rep k.toNat) hfl, rfl, q _ I.fresh⟩
end

section
variable {X : Cx} {cA : String → Addr} {bs : Bs} {W : WX} {a b c e o : Expr} {es : List Expr} {ma mb mc : M D} {ms : M (List D)} {p pos apos cpos : Pos} {K : PySem.W.Frag} {x : Str} {st : Stmt}

/-- a two-place operation on data that makes a held list -/
def Op2L (K : PySem.W.Frag) (r : R2) (f : D → D → Option (List D)) : Prop := ∀ (G H : Hp) (x z : V) (a b : D) (c : List D) (Q : VK), f a b = some c → Same G H → Dp K G x a → Dp K G z b →
  (∀ p us, H p = none → DpAll K G us c → Q (.ref p) (upd H p (.lst us))) → r x z H Q
def mBinO (f : D → D → Option (List D)) (a b : M D) : M OO := fun σ => (a σ).bind fun x σ1 => (b σ1).bind fun y σ2 => ofO ((f x y).map OO.lst) σ2
theorem tOpO_of {r : R2} {f : D → D → Option (List D)} (hr : Op2L X.K r f) {y : St} {H : Hp} {Q : VK} (h : tG X.K cA W bs rO (mBinO f ma mb) y H Q) : tOp r (tG X.K cA W bs rD ma) (tG X.K cA W bs rD mb) y H Q := by
  obtain ⟨C, B, O, σ, hb, R0, k⟩ := h
  refine ⟨C, B, O, σ, hb, R0, (KG.bind (rel := rD) k).imp fun x H1 ⟨a, σ1, O1, R1, F1, d1, k1⟩ => ⟨C, B, O1, σ1, hb, R1, (KG.bind (rel := rD) k1).imp fun z H2 ⟨b, σ2, O2, R2, F2, d2, k2⟩ => ?_⟩⟩
  cases ef : f a b with
  | none => rw [ef] at k2; exact k2.elim
  | some c =>
    rw [ef] at k2
    exact hr (hide (O2 ++ C) H2) H2 x z a b c Q ef hide_same (dp_mono F2.vis d1) d2 fun p us hp du => rO_new R2 du hp k2
def fCatL : D → D → Option (List D)
  | .list xs, .list ys => if xs.length + ys.length ≤ 1000000 then some (xs ++ ys) else none
  | _, _ => none
theorem o2l_cat : Op2L K (rCatS K) fCatL := by
  intro G H x z a b c Q e s h1 h2 qn
  unfold fCatL at e
  split at e
  · split at e
    · rename_i hl
      cases e
      obtain ⟨p, us, rfl, t, r⟩ := h1.lst_inv
      obtain ⟨p2, us2, rfl, t2, r2⟩ := h2.lst_inv
      exact ⟨p, p2, us, us2, rfl, rfl, sq_up s t, sq_up s t2, by rw [r.length, r2.length]; exact Nat.le_trans hl mil, fun q hq => qn q _ hq (r.append r2)⟩
    · cases e
  · cases e
theorem io_cat (ha : IE cA bs W X a ma) (hb : IE cA bs W X b mb) : IO cA bs W X (.BinOp a .Add b pos) (mBinO fCatL ma mb) := (pe_op op_catS ha hb).wk fun _ _ _ h => tOpO_of o2l_cat h
def repD (n : Nat) (xs : List D) : List D := (List.replicate n xs).flatten
def fRepL : D → D → Option (List D)
  | .list xs, .int k => if k ≤ 1000000 ∧ -(2 ^ 63) ≤ k ∧ xs.length * k.toNat ≤ 1000000 then some (repD k.toNat xs) else none
  | _, _ => none
theorem dps_rep {G : Hp} {us : List V} {xs : List D} (r : DpAll K G us xs) : ∀ n : Nat, DpAll K G (List.replicate n us).flatten (repD n xs)
  | 0 => .nil
  | n + 1 => by
    unfold repD
    rw [List.replicate_succ, List.replicate_succ, List.flatten_cons, List.flatten_cons]
    exact r.append (dps_rep r n)
theorem o2l_rep : Op2L K (rRepS K) fRepL := by
  intro G H x z a b c Q e s h1 h2 qn
  unfold fRepL at e
  split at e
  · split at e
    · rename_i hl
      cases e
      obtain ⟨p, us, rfl, t, r⟩ := h1.lst_inv
      cases h2
      exact ⟨p, _, us, rfl, rfl, sq_up s t, hl.2.1, by omega, by rw [r.length]; exact Nat.le_trans hl.2.2 mil, fun q hq => qn q _ hq (dps_rep r _)⟩
    · cases e
  · cases e
theorem io_rep (ha : IE cA bs W X a ma) (hb : IE cA bs W X b mb) : IO cA bs W X (.BinOp a .Mult b pos) (mBinO fRepL ma mb) := (pe_op op_repS ha hb).wk fun _ _ _ h => tOpO_of o2l_rep h
/-- tuple * int (two times or more) -/
def fRepT : D → D → Option D
  | .tuple xs, .int k => if xs ≠ [] ∧ 2 ≤ k ∧ k ≤ 1000 ∧ xs.length ≤ 1000 then some (.tuple (repD k.toNat xs)) else none
  | _, _ => none
theorem o2_repT : Op2N K (rRepT K) fRepT := by
  intro G H x z a b c Q e s h1 h2 q qn
  unfold fRepT at e
  split at e
  · split at e
    · rename_i hl
      cases e
      obtain ⟨p, us, rfl, t, r⟩ := h1.tup_inv
      cases h2
      exact ⟨p, _, us, rfl, rfl, st_up s t, fun z => hl.1 (by have := r.length; rw [z] at this; exact List.length_eq_zero_iff.mp this.symm), hl.2.1, hl.2.2.1, by rw [r.length]; exact hl.2.2.2,
        fun q hq => qn q _ hq fun G' sg e => .tup (.inl (.inl e)) (dps_mono sg (dps_rep r _))⟩
    · cases e
  · cases e
theorem ie_repT (ha : IE cA bs W X a ma) (hb : IE cA bs W X b mb) : IE cA bs W X (.BinOp a .Mult b pos) (mBin fRepT ma mb) := (pe_op op_repT ha hb).wk fun _ _ _ h => tOp_of o2_repT h
/-- tuple + tuple, any -/
def fCatT : D → D → Option D
  | .tuple xs, .tuple ys => if xs.length + ys.length ≤ sizeLine then some (.tuple (xs ++ ys)) else none
  | _, _ => none
theorem o2_catT : Op2N K (rCatA K) fCatT := by
  intro G H x z a b c Q e s h1 h2 q qn
  unfold fCatT at e
  split at e
  · split at e
    · rename_i hl
      cases e
      obtain ⟨p, us, rfl, t, r⟩ := h1.tup_inv
      obtain ⟨p2, us2, rfl, t2, r2⟩ := h2.tup_inv
      refine ⟨p, p2, us, us2, rfl, rfl, st_up s t, st_up s t2, by rw [r.length, r2.length]; exact hl, fun z => ?_, fun _ z => ?_, fun _ _ q hq => qn q _ hq fun G' sg e => .tup (.inl (.inl e)) (dps_mono sg (r.append r2))⟩
      · have h0 := r.length
        rw [z] at h0
        rw [List.length_eq_zero_iff.mp h0.symm, List.nil_append] at q
        exact q _ (.tup t2 r2)
      · have h0 := r2.length
        rw [z] at h0
        rw [List.length_eq_zero_iff.mp h0.symm, List.append_nil] at q
        exact q _ (.tup t r)
    · cases e
  · cases e
theorem ie_catT (ha : IE cA bs W X a ma) (hb : IE cA bs W X b mb) : IE cA bs W X (.BinOp a .Add b pos) (mBin fCatT ma mb) := (pe_op op_catA ha hb).wk fun _ _ _ h => tOp_of o2_catT h
end
end Pu

set_option Elab.async false
set_option linter.all false
set_option maxRecDepth 100000
set_option maxHeartbeats 4000000
namespace Pu
open PySem PySem.Spec L2

section
variable {X : Cx} {cA : String → Addr} {bs : Bs} {W : WX} {a b c e o : Expr} {lo hi : Option Expr} {es : List Expr} {ma mb mc : M D} {ms : M (List D)} {p p2 pos apos cpos : Pos} {K : PySem.W.Frag} {x : Str} {st : Stmt} {ml mh : M (Option Int)}

/-! ### slices -/
theorem _root_.L2.PO.wk {X : Cx} {e : Option Expr} {t t' : TO} (h : PO X e t) (q : ∀ y H Q, t' y H Q → t y H Q) : PO X e t' := ⟨fun pins s σ H Q I k => h.run pins s σ H Q I (q _ _ _ k)⟩
abbrev IP (cA : String → Addr) (bs : Bs) (W : WX) (X : Cx) (e : Option Expr) (m : M (Option Int)) : Prop := PO X e (tG X.K cA W bs rOI m)
theorem ip_none : IP cA bs W X none (mPure none) := po_none.wk fun y H Q h => by
  obtain ⟨C, B, O, σ, hb, R0, k⟩ := h
  exact k O none H R0 Fr.refl rfl
def mPart (m : M D) : M (Option Int) := fun σ => (m σ).bind fun d σ1 => match d with | .int i => .ok (some i) σ1 | _ => .stuck
theorem ip_some (h : IE cA bs W X e ma) : IP cA bs W X (some e) (mPart ma) := (po_some h).wk fun y H Q h => by
  obtain ⟨C, B, O, σ, hb, R0, k⟩ := h
  refine ⟨C, B, O, σ, hb, R0, (KG.bind (rel := rD) k).imp fun x H1 ⟨d, σ1, O1, R1, F1, d1, k1⟩ => ?_⟩
  cases d with
  | int i => cases d1; exact ⟨i, rfl, k1 O1 _ H1 R1 Fr.refl rfl⟩
  | _ => exact k1.elim
def cutD (xs : List D) (lo hi : Option Int) : List D := (xs.drop (HT.sIx xs.length 0 lo)).take (HT.sIx xs.length xs.length hi - HT.sIx xs.length 0 lo)
theorem dps_cut {G : Hp} {us : List V} {xs : List D} (r : DpAll K G us xs) (lo hi : Option Int) : DpAll K G (cutV us lo hi) (cutD xs lo hi) := by
  unfold cutV cutD
  rw [r.length]
  exact (r.drop _).take _
def mSl (m : M D) (ml mh : M (Option Int)) : M D := fun σ => (m σ).bind fun d σ1 => (ml σ1).bind fun l σ2 => (mh σ2).bind fun h σ3 => match d with | .tuple xs => .ok (.tuple (cutD xs l h)) σ3 | _ => .stuck
theorem ie_sl (he : IE cA bs W X e ma) (hl : IP cA bs W X lo ml) (hh : IP cA bs W X hi mh) : IE cA bs W X (.Subscript e (.Slice lo hi none p2) pos) (mSl ma ml mh) := (pe_slice sl_tupA he hl hh).wk fun y H Q h => by
  obtain ⟨C, B, O, σ, hb, R0, k⟩ := h
  refine ⟨C, B, O, σ, hb, R0, (KG.bind (rel := rD) k).imp fun x H1 ⟨d, σ1, O1, R1, F1, d1, k1⟩ => ⟨C, B, O1, σ1, hb, R1, (KG.bind (rel := rOI) k1).imp fun l H2 ⟨l', σ2, O2, R2, F2, d2, k2⟩ => ⟨C, B, O2, σ2, hb, R2, (KG.bind (rel := rOI) k2).imp fun u H3 ⟨u', σ3, O3, R3, F3, d3, k3⟩ => ?_⟩⟩⟩
  cases d2; cases d3
  cases d with
  | tuple xs =>
    obtain ⟨q, us, rfl, t, r⟩ := (dp_mono F3.vis (dp_mono F2.vis d1)).tup_inv
    have hlen := r.length
    refine ⟨q, us, rfl, st_up hide_same t, fun hw => ?_, fun hw p hp => ?_⟩
    · refine k3 O3 _ H3 R3 Fr.refl ?_
      have : cutD xs l u = xs := by
        unfold cutD
        rw [← hlen, hw.1, hw.2, List.drop_zero, Nat.sub_zero, hlen, List.take_length]
      rw [this]
      exact .tup t r
    · obtain ⟨R4, F4⟩ := R3.laid (o := .tup (cutV us l u)) hp
      obtain ⟨s1, s2⟩ := hide_upd (o := .tup (cutV us l u)) hp (R3.ninA hp)
      exact k3 O3 _ _ R4 F4 (.tup (.inl (.inl s2)) (dps_mono s1 (dps_cut r l u)))
  | _ => exact k3.elim
def mSlL (m : M D) (ml mh : M (Option Int)) : M OO := fun σ => (m σ).bind fun d σ1 => (ml σ1).bind fun l σ2 => (mh σ2).bind fun h σ3 => match d with | .list xs => .ok (.lst (cutD xs l h)) σ3 | _ => .stuck
theorem io_sl (he : IE cA bs W X e ma) (hl : IP cA bs W X lo ml) (hh : IP cA bs W X hi mh) : IO cA bs W X (.Subscript e (.Slice lo hi none p2) pos) (mSlL ma ml mh) := (pe_slice sl_list he hl hh).wk fun y H Q h => by
  obtain ⟨C, B, O, σ, hb, R0, k⟩ := h
  refine ⟨C, B, O, σ, hb, R0, (KG.bind (rel := rD) k).imp fun x H1 ⟨d, σ1, O1, R1, F1, d1, k1⟩ => ⟨C, B, O1, σ1, hb, R1, (KG.bind (rel := rOI) k1).imp fun l H2 ⟨l', σ2, O2, R2, F2, d2, k2⟩ => ⟨C, B, O2, σ2, hb, R2, (KG.bind (rel := rOI) k2).imp fun u H3 ⟨u', σ3, O3, R3, F3, d3, k3⟩ => ?_⟩⟩⟩
  cases d2; cases d3
  cases d with
  | list xs =>
    obtain ⟨q, us, rfl, t, r⟩ := (dp_mono F3.vis (dp_mono F2.vis d1)).lst_inv
    exact ⟨q, us, rfl, sq_up hide_same t, fun p hp => rO_new R3 (dps_cut r l u) hp k3⟩
  | _ => exact k3.elim

/-! ### in, not in -/
def flatD : D → Bool
  | .none => true | .bool _ => true | .int _ => true | .str _ => true
  | _ => false
def fV : D → V
  | .none => .non | .bool k => .bl k | .int i => .int i | .str z => .str z
  | _ => .non
theorem dp_flat {G : Hp} {v : V} {d : D} (h : Dp K G v d) (f : flatD d = true) : v = fV d ∧ flatV v = true := by
  cases h <;> first | exact ⟨rfl, rfl⟩ | exact absurd (show false = true from f) Bool.false_ne_true
theorem dps_flat {G : Hp} : ∀ {vs : List V} {ds : List D}, DpAll K G vs ds → ds.all flatD = true → vs = ds.map fV ∧ vs.all flatV = true
  | _, _, .nil, _ => ⟨rfl, rfl⟩
  | _, _, .cons h t, f => by
    rw [List.all_cons, Bool.and_eq_true] at f
    obtain ⟨e1, e2⟩ := dp_flat h f.1
    obtain ⟨e3, e4⟩ := dps_flat t f.2
    refine ⟨by rw [List.map_cons, ← e1, ← e3], by rw [List.all_cons, e2, e4]; rfl⟩
/-- == of flat data -/
def eqF (a b : D) : Bool := eqV (fV a) (fV b)
def inD (x : D) (xs : List D) : Bool := xs.any fun z => eqF z x
theorem inV_of {x : D} {xs : List D} : inV (fV x) (xs.map fV) = inD x xs := by
  unfold inV inD eqF
  rw [List.any_map]; rfl
def fIn (neg : Bool) : D → D → Option D := fun x l => match l with
  | .list xs => if flatD x = true ∧ xs.all flatD = true then some (.bool (if neg then !inD x xs else inD x xs)) else none
  | .tuple xs => if flatD x = true ∧ xs.all flatD = true then some (.bool (if neg then !inD x xs else inD x xs)) else none
  | _ => none
theorem o2_in {neg : Bool} : Op2N K (rIn K neg) (fIn neg) := by
  intro G H x z a b c Q e s h1 h2 q qn
  unfold fIn at e
  split at e
  · split at e
    · rename_i hf
      cases e
      obtain ⟨p, us, rfl, t, r⟩ := h2.lst_inv
      obtain ⟨e1, f1⟩ := dp_flat h1 hf.1
      obtain ⟨e2, f2⟩ := dps_flat r hf.2
      exact ⟨p, us, rfl, .inl (sq_up s t), f1, f2, by rw [e1, e2, inV_of]; exact q _ (.bl _)⟩
    · cases e
  · split at e
    · rename_i hf
      cases e
      obtain ⟨p, us, rfl, t, r⟩ := h2.tup_inv
      obtain ⟨e1, f1⟩ := dp_flat h1 hf.1
      obtain ⟨e2, f2⟩ := dps_flat r hf.2
      exact ⟨p, us, rfl, .inr (st_up s t), f1, f2, by rw [e1, e2, inV_of]; exact q _ (.bl _)⟩
    · cases e
  · cases e
/-- x in the list of slot i -/
def hIn (neg : Bool) (x : D) (xs : List D) : Option D := if flatD x = true ∧ xs.all flatD = true then some (.bool (if neg then !inD x xs else inD x xs)) else none
def mOwnR (i : Nat) (f : D → List D → Option D) (ma : M D) : M D := fun σ => (ma σ).bind fun a σ1 => match slotL σ1 i with | some xs => ofO (f a xs) σ1 | none => .stuck
theorem tInV_of {i : Nat} {neg : Bool} {y : St} {H : Hp} {Q : VK} (h : tG X.K cA W bs rD (mOwnR i (hIn neg) ma) y H Q) : tOp (rIn X.K neg) (tG X.K cA W bs rD ma) (tVar i) y H Q := by
  obtain ⟨C, B, O, σ, hb, R0, k⟩ := h
  refine ⟨C, B, O, σ, hb, R0, (KG.bind (rel := rD) k).imp fun v H1 ⟨d, σ1, O1, R1, F1, d1, k1⟩ => ?_⟩
  obtain ⟨q, us, xs, e1, e2, e3, e4, e5, k2⟩ := own_of R1 k1
  obtain ⟨c, ec, qq⟩ := k2.ofO
  refine ⟨_, e1, ?_⟩
  unfold hIn at ec
  split at ec
  · rename_i hf
    cases ec
    obtain ⟨g1, f1⟩ := dp_flat d1 hf.1
    obtain ⟨g2, f2⟩ := dps_flat e4 hf.2
    exact ⟨q, us, rfl, .inl (.inl (.inl e2)), f1, f2, by rw [g1, g2, inV_of]; exact qq O1 _ H1 R1 Fr.refl (.bl _)⟩
  · cases ec
theorem op_inB {neg : Bool} : OpR X (compareOp (if neg then .NotIn else .In)) (rIn X.K neg) := by
  cases neg with
  | true => exact op_notIn_seq
  | false => exact op_in_seq
theorem ie_inV {i : Nat} (ha : IE cA bs W X a ma) (hb : PE X b (tVar i)) (hm : behindInMarks .In b = false := by rfl) : IE cA bs W X (.Compare a [.In] [b] pos) (mOwnR i (hIn false) ma) := (pe_cmpR op_in_seq ha hb hm).wk fun _ _ _ h => tInV_of h
theorem ie_notInV {i : Nat} (ha : IE cA bs W X a ma) (hb : PE X b (tVar i)) (hm : behindInMarks .NotIn b = false := by rfl) : IE cA bs W X (.Compare a [.NotIn] [b] pos) (mOwnR i (hIn true) ma) := (pe_cmpR op_notIn_seq ha hb hm).wk fun _ _ _ h => tInV_of h
theorem it_inV {i : Nat} (ha : IE cA bs W X a ma) (hb : PE X b (tVar i)) (hm : behindInMarks .In b = false := by rfl) : IT cA bs W X (.Compare a [.In] [b] pos) (mBool (mOwnR i (hIn false) ma)) := (pt_cmpR op_in_seq ha hb hm).wk fun _ _ _ h => tInV_of (bool_of h)
theorem it_notInV {i : Nat} (ha : IE cA bs W X a ma) (hb : PE X b (tVar i)) (hm : behindInMarks .NotIn b = false := by rfl) : IT cA bs W X (.Compare a [.NotIn] [b] pos) (mBool (mOwnR i (hIn true) ma)) := (pt_cmpR op_notIn_seq ha hb hm).wk fun _ _ _ h => tInV_of (bool_of h)

/-! ### the truth of a slot's own list -/
def mTru (i : Nat) : M Bool := fun σ => match slotL σ i with | some xs => .ok (!xs.isEmpty) σ | none => .stuck
theorem it_truV {i : Nat} (ha : PE X e (tVar i)) (he : ∀ whole, isTrue e X.env whole = (do let v ← whole; standAt e.pos; holding [v] (truthy v)) := by intro _; rfl) : IT cA bs W X e (mTru i) := (pt_truth ha he).wk fun y H Q h => by
  obtain ⟨C, B, O, σ, hb, R0, k⟩ := h
  obtain ⟨q, us, xs, e1, e2, e3, e4, e5, k2⟩ := own_of (fo := fun xs => .ok (!xs.isEmpty) σ) R0 k
  refine ⟨_, e1, _, .inl ⟨us, .inl (.inl e2), rfl⟩, ?_⟩
  have : us.isEmpty = xs.isEmpty := by cases e4 <;> rfl
  rw [this]
  exact k2 O _ H R0 Fr.refl rfl
/-- the truth of data -/
def truD : D → Option Bool
  | .none => some false
  | .bool k => some k
  | .int i => some (i != 0)
  | .list xs => some (!xs.isEmpty)
  | .tuple xs => some (!xs.isEmpty)
  | _ => none
def mTruD (m : M D) : M Bool := fun σ => (m σ).bind fun d σ1 => ofO (truD d) σ1
theorem it_truD (ha : IE cA bs W X e ma) (he : ∀ whole, isTrue e X.env whole = (do let v ← whole; standAt e.pos; holding [v] (truthy v)) := by intro _; rfl) : IT cA bs W X e (mTruD ma) := (pt_truth ha he).wk fun y H Q h => by
  obtain ⟨C, B, O, σ, hb, R0, k⟩ := h
  refine ⟨C, B, O, σ, hb, R0, (KG.bind (rel := rD) k).imp fun v H1 ⟨d, σ1, O1, R1, F1, d1, k1⟩ => ?_⟩
  obtain ⟨c, ec, qq⟩ := k1.ofO
  refine ⟨c, ?_, qq O1 _ H1 R1 Fr.refl rfl⟩
  unfold truD at ec
  split at ec
  · cases d1; cases ec; rfl
  · cases d1; cases ec; rfl
  · cases d1; cases ec; rfl
  · obtain ⟨p, us, rfl, t, r⟩ := Dp.lst_inv d1
    cases ec
    refine .inl ⟨us, sq_up hide_same t, ?_⟩
    cases r <;> rfl
  · obtain ⟨p, us, rfl, t, r⟩ := Dp.tup_inv d1
    cases ec
    refine .inr (.inl ⟨us, st_up hide_same t, ?_⟩)
    cases r <;> rfl
  · cases ec

/-! ### xs.index(x) of a slot's own list: flat items -/
def idxD (x : D) : List D → Option Nat
  | [] => none
  | z :: r => if eqF z x = true then some 0 else (idxD x r).map (· + 1)
theorem idxD_get {x : D} : ∀ {xs : List D} {j : Nat}, idxD x xs = some j → (∃ z, xs[j]? = some z ∧ eqF z x = true) ∧ ∀ (m : Nat) (z : D), m < j → xs[m]? = some z → eqF z x = false
  | [], j, h => by cases h
  | z :: r, j, h => by
    unfold idxD at h
    split at h
    · rename_i he
      cases h
      exact ⟨⟨z, rfl, he⟩, fun m z hm => by omega⟩
    · rename_i he
      cases hr : idxD x r with
      | none => rw [hr] at h; cases h
      | some j' =>
        rw [hr] at h
        cases h
        obtain ⟨⟨w, e1, e2⟩, h2⟩ := idxD_get hr
        refine ⟨⟨w, by simpa using e1, e2⟩, fun m w hm e => ?_⟩
        cases m with
        | zero => simp at e; subst e; simpa using he
        | succ m => exact h2 m w (Nat.lt_of_succ_lt_succ hm) (by simpa using e)
def uIndex (xs as : List D) : Option (D × List D) := match as with
  | [x] => if flatD x = true ∧ xs.all flatD = true then (idxD x xs).map fun j => (.int (j : Nat), xs) else none
  | _ => none
theorem upd_id {H : Hp} {q : Addr} {o : HO} (h : H q = some o) : upd H q o = H := by
  funext a
  by_cases e : a = q
  · subst e; rw [upd_same, h]
  · rw [upd_ne e]
theorem mm_index : MM K (rIndex K) uIndex := by
  intro G H q us vas xs as d xs' Q e s hq du da qq
  unfold uIndex at e
  split at e
  · rename_i x
    split at e
    · rename_i hf
      cases hj : idxD x xs with
      | none => rw [hj] at e; cases e
      | some j =>
        rw [hj] at e
        cases e
        obtain ⟨v, rfl, h9⟩ := dps1 da
        obtain ⟨g1, f1⟩ := dp_flat h9 hf.1
        obtain ⟨g2, f2⟩ := dps_flat du hf.2
        obtain ⟨⟨z, e1, e2⟩, e3⟩ := idxD_get hj
        refine ⟨q, us, v, j, fV z, rfl, rfl, .inl (.inl hq), f1, f2, by rw [g2, List.getElem?_map, e1]; rfl, by rw [g1]; exact e2, fun m z' hm hz => ?_, ?_⟩
        · rw [g2, List.getElem?_map] at hz
          cases ew : xs[m]? with
          | none => rw [ew] at hz; cases hz
          | some w =>
            rw [ew] at hz
            cases hz
            rw [g1]
            exact e3 m w hm ew
        · have := qq (.int (j : Nat)) us (.int _) du
          rw [upd_id hq] at this
          exact this
    · cases e
  · cases e
end
end Pu

set_option Elab.async false
set_option linter.all false
set_option maxRecDepth 100000
set_option maxHeartbeats 4000000
namespace Pu
open PySem PySem.Spec L2
theorem tk0 {X : Cx} : Takes X W0 := fun u s' ⟨_, _, _, _, _, _, _, _, _, _, _, _, _, _, _, _, w⟩ => w.elim
theorem pe_tyN {X : Cx} {x : Str} {T : String} {pos : Pos} (hg : Gl X x) (hm : X.mg x = none) (hv : bootBuiltins x = some (.type T)) (hn : x ≠ "__name__" := by decide) (hd : (x == ("__debug__" : Str)) = false := by decide) : PE X (.Name x pos) (tC (.ty T)) :=
  ⟨fun pins s σ H Q I h => ld_blt I hg hm hv ⟨.ty T, H, I, rfl, h⟩ hn hd⟩
theorem pe_clsN {X : Cx} {x : Str} {a : Addr} {pos : Pos} (hg : Gl X x) (hm : X.mg x = some (.ref a)) (hd : (x == ("__debug__" : Str)) = false := by decide) : PE X (.Name x pos) (tC (.ref a)) :=
  ⟨fun pins s σ H Q I h => ld_glob I hg hm ⟨.ref a, H, I, rfl, h⟩ hd⟩
/-- a def of the text: its name, its statement, its parameters -/
structure DefE where
  x : Str
  st : Stmt
  ps : List Str
/-- a class of error with an __init__ of its own: its name, its fields, the statement of __init__, its qualified name, its parameters -/
structure ExE where
  x : Str
  fs : List Str
  ini : Stmt
  q : Str
  ps : List Str
structure ExF (K : PySem.W.Frag) (fdf : Str → FuncData) (c : ExE) : Prop where
  T : OexC K (He.ga K c.x)
  iC : PySem.W.findIn K (.ref (He.ga K c.x)) "__init__" = some (some (.ref (He.ma K (He.ga K c.x) "__init__")))
  tI : PySem.W.typeIn K (.ref (He.ma K (He.ga K c.x) "__init__")) = some (.type "function")
  n : ∀ f ∈ c.fs, PySem.W.findIn K (.ref (He.ga K c.x)) f = some none
  F : Fun K "__init__" c.q c.ini (He.ma K (He.ga K c.x) "__init__") (fdf c.x)
  B : Binds K (fdf c.x) c.ps []
theorem ExF.nn {K : PySem.W.Frag} {fdf : Str → FuncData} {c : ExE} (h : ExF K fdf c) (j : Nat) {f : Str} (e : c.fs[j]? = some f := by rfl) : PySem.W.findIn K (.ref (He.ga K c.x)) f = some none := h.n f (List.mem_of_getElem? e)
/-- the text: its defs, the built-in names that it reads, what it has from libraries, its classes of error, those that are caught, pairs (class, class of a clause or of isinstance, yes or no) -/
structure Tx where
  fn : List DefE
  fr : List Str
  lb : List (Str × String)
  ec : List ExE
  cl : List Str
  xc : List Str
  xm : List (Str × Str × Bool)
  ki : List (Str × Str × Bool)
  kb : List (Str × String × Bool)
/-- what is known of the module behind its top -/
structure Cz (K : PySem.W.Frag) (mg : Str → Option Value) (T : Tx) (fdf : Str → FuncData) : Prop where
  F : ∀ d ∈ T.fn, Fun K d.x d.x d.st (He.ga K d.x) (fdf d.x)
  g : ∀ d ∈ T.fn, mg d.x = some (.ref (He.ga K d.x))
  B : ∀ d ∈ T.fn, Binds K (fdf d.x) d.ps []
  n : ∀ x ∈ T.fr, mg x = none
  l : ∀ p ∈ T.lb, mg p.1 = some (.builtin p.2)
  X : ∀ c ∈ T.ec, ExF K fdf c
  cg : ∀ x ∈ T.cl, mg x = some (.ref (He.ga K x))
  xf : ∀ x ∈ T.xc, XfC K (He.ga K x) ∧ ExI K (He.ga K x)
  m : ∀ q ∈ T.xm, PySem.W.exmOne K (.ref (He.ga K q.1)) (.ref (He.ga K q.2.1)) = some q.2.2
  ki : ∀ q ∈ T.ki, PySem.W.kitOne K (.ref (He.ga K q.1)) (.ref (He.ga K q.2.1)) = some q.2.2
  kb : ∀ q ∈ T.kb, PySem.W.kitOne K (.ref (He.ga K q.1)) (.type q.2.1) = some q.2.2
section
variable {K : PySem.W.Frag} {mg : Str → Option Value} {T : Tx} {fdf : Str → FuncData}
theorem Cz.f (Z : Cz K mg T fdf) (i : Nat) {d : DefE} (h : T.fn[i]? = some d := by rfl) : Fun K d.x d.x d.st (He.ga K d.x) (fdf d.x) := Z.F d (List.mem_of_getElem? h)
theorem Cz.gl (Z : Cz K mg T fdf) (i : Nat) {d : DefE} (h : T.fn[i]? = some d := by rfl) : mg d.x = some (.ref (He.ga K d.x)) := Z.g d (List.mem_of_getElem? h)
theorem Cz.b (Z : Cz K mg T fdf) (i : Nat) {d : DefE} (h : T.fn[i]? = some d := by rfl) : Binds K (fdf d.x) d.ps [] := Z.B d (List.mem_of_getElem? h)
theorem Cz.free (Z : Cz K mg T fdf) (i : Nat) {x : Str} (h : T.fr[i]? = some x := by rfl) : mg x = none := Z.n x (List.mem_of_getElem? h)
theorem Cz.lib (Z : Cz K mg T fdf) (i : Nat) {p : Str × String} (h : T.lb[i]? = some p := by rfl) : mg p.1 = some (.builtin p.2) := Z.l p (List.mem_of_getElem? h)
theorem Cz.x (Z : Cz K mg T fdf) (i : Nat) {c : ExE} (h : T.ec[i]? = some c := by rfl) : ExF K fdf c := Z.X c (List.mem_of_getElem? h)
theorem Cz.c (Z : Cz K mg T fdf) (i : Nat) {x : Str} (h : T.cl[i]? = some x := by rfl) : mg x = some (.ref (He.ga K x)) := Z.cg x (List.mem_of_getElem? h)
theorem Cz.xx (Z : Cz K mg T fdf) (i : Nat) {x : Str} (h : T.xc[i]? = some x := by rfl) : XfC K (He.ga K x) ∧ ExI K (He.ga K x) := Z.xf x (List.mem_of_getElem? h)
theorem Cz.mm (Z : Cz K mg T fdf) (i : Nat) {q : Str × Str × Bool} (h : T.xm[i]? = some q := by rfl) : PySem.W.exmOne K (.ref (He.ga K q.1)) (.ref (He.ga K q.2.1)) = some q.2.2 := Z.m q (List.mem_of_getElem? h)
theorem Cz.kk (Z : Cz K mg T fdf) (i : Nat) {q : Str × Str × Bool} (h : T.ki[i]? = some q := by rfl) : PySem.W.kitOne K (.ref (He.ga K q.1)) (.ref (He.ga K q.2.1)) = some q.2.2 := Z.ki q (List.mem_of_getElem? h)
theorem Cz.kt (Z : Cz K mg T fdf) (i : Nat) {q : Str × String × Bool} (h : T.kb[i]? = some q := by rfl) : PySem.W.kitOne K (.ref (He.ga K q.1)) (.type q.2.1) = some q.2.2 := Z.kb q (List.mem_of_getElem? h)
theorem rel_ref {a : Addr} : ∀ u, RelV (.ref a) u → u = .ref a := fun u h => h
theorem rel_ty {T : String} : ∀ u, RelV (.ty T) u → u = .type T := fun u h => h
theorem kw_of {x qual : Str} {st : Stmt} {f : Addr} {fd : FuncData} {ks ps : List Str} {is : List Nat} (F : Fun K x qual st f fd)
    (h : ∀ (kV doc pm : Value) (an : Option Addr) (cdv ct : Value) (ws : List Value), ws.length = ks.length → bindArgs (PySem.W.fnOf x qual (defArgs st) (defBody st) (defScope st) .none kV doc pm an cdv ct) ⟨[], ks.zip ws⟩ = pure (ps.zip (permL is ws))) :
    ∀ ws : List Value, ws.length = ks.length → bindArgs fd ⟨[], ks.zip ws⟩ = pure (ps.zip (permL is ws)) := by
  obtain ⟨oc, od, kV, doc, pm, an, cdv, ct, osl, rfl, lk, hcd⟩ := F.ex
  exact h kV doc pm an cdv ct
end
/-- a bound that no loop comes to -/
def fuelN : Nat := 1000000
end Pu
namespace Pu
open PySem PySem.Spec L2
section
variable {X : Cx} {cA : String → Addr} {bs : Bs} {W : WX} {a b c e o : Expr} {es : List Expr} {ma mb mc : M D} {ms : M (List D)} {p pos apos cpos : Pos} {K : PySem.W.Frag} {x : Str}
/-- xs[i] = e -/
theorem is_putL {i : Nat} {mi m : M D} {p1 : Pos} (ho : PE X o (tVar i)) (hi : IE cA bs W X a mi) (he : IE cA bs W X e m)
    (ha : ∀ v, assign (.Subscript o a p1) X.env v = (do
      let ov ← holding [v] (eval o X.env)
      let iv ← holding [v, ov] (eval a X.env)
      standAt p1
      holding [v, ov, iv] (setItem ov iv v)
      release [v, ov, iv] []) := by intros; rfl)
    (hs : swapsWithSole [.Subscript o a p1] e pos.line X.env = pure false := by rfl) (hw : swappedStores [.Subscript o a p1] e X.env = pure none := by rfl) (h1 : (assignEach [.Subscript o a p1] X.env).map (·.2) = [assign (.Subscript o a p1) X.env] := by rfl) :
    IS cA bs W X (.Assign [.Subscript o a p1] e pos) (sPut i mi m) := is_put ho hi he (ps_asg he (pg_sub ho hi set_list ha) hs hw h1)
/-- a, b = c, d -/
theorem is_parL {i j : Nat} {x y : Str} {px py pt : Pos} {kt k2 pt2} (hc : X.calm = true) (hN : X.N.Nodup) (hi : X.N[i]? = some x) (hj : X.N[j]? = some y) (hij : i ≠ j)
    (hx : X.env.scope.names.lookup x = some .local) (hy : X.env.scope.names.lookup y = some .local) (ha : IA cA bs W X [a, b] ms)
    (hw : swappedStores [.Tuple [.Name x px, .Name y py] kt pt] (.Tuple [a, b] k2 pt2) X.env = pure (some [x, y]) := by rfl)
    (hs : swapsWithSole [.Tuple [.Name x px, .Name y py] kt pt] (.Tuple [a, b] k2 pt2) pos.line X.env = pure false := by rfl) (hb : bs.ids.contains i = false := by rfl) (hb2 : bs.ids.contains j = false := by rfl) :
    IS cA bs W X (.Assign [.Tuple [.Name x px, .Name y py] kt pt] (.Tuple [a, b] k2 pt2) pos) (sPar i j ms) := is_par (ps_par hc hN hi hj hij hx hy ha hw hs) hb hb2
/-- name op= e -/
theorem is_augN {i : Nat} {op : Operator} {pos' : Pos} {f : Int → Int → Int} {m : M D} (hN : X.N.Nodup) (hi : X.N[i]? = some x) (hx : L2.Loc X.env.scope x) (he : IE cA bs W X e m) (ho : PIp X op (ipI f)) (hb : bs.ids.contains i = false := by rfl)
    (hf : X.fn x = true ∨ X.env.scope.names.lookup x = some .local := by first | exact .inl rfl | exact .inr rfl) : IS cA bs W X (.AugAssign (.Name x pos') op e pos) (sAug i f m) := is_aug hN hi hx he ho hb hf (ps_aug hN hi hx he ho hf)
end
end Pu
namespace Pu
open PySem PySem.Spec L2
theorem fn_stuck {P : Program} {w : World} {K : PySem.W.Frag} {mg : Str → Option Value} {base : Heap} {cA : String → Addr} {k n : Nat} {b : Option Nat} {f : Addr} {fd : FuncData} {ps : List Str} : FnOk P w K mg base (L2.CX P w) k f fd ps (spOf K cA n b fun _ => .stuck) := by
  refine ⟨fun vs H Q E h => ?_, ?_⟩
  · obtain ⟨C, O, B, args, _, _, _, _, _, h⟩ := h
    exact h.elim
  · intros
    rename_i h
    obtain ⟨C, O, B, args, _, _, _, _, _, h⟩ := h
    exact h.elim
end Pu
namespace Pu
/-- an argument list's length -/
theorem mNil_len {σ σ1 : Loc} {ds : List D} (h : (mNil : M (List D)) σ = .ok ds σ1) : ds.length = 0 := by
  cases h; rfl
theorem mCons_len {a : M D} {b : M (List D)} {n : Nat} (hb : ∀ σ σ1 ds, b σ = .ok ds σ1 → ds.length = n) : ∀ σ σ1 ds, mCons a b σ = .ok ds σ1 → ds.length = n + 1 := fun σ σ1 ds h => by
  unfold mCons at h
  cases ea : a σ with
  | stuck => rw [ea] at h; cases h
  | raise x σ2 => rw [ea] at h; cases h
  | ok d σ2 =>
    rw [ea] at h
    have h : ((b σ2).bind fun y σ2 => .ok (d :: y) σ2) = .ok ds σ1 := h
    cases eb : b σ2 with
    | stuck => rw [eb] at h; cases h
    | raise x σ3 => rw [eb] at h; cases h
    | ok es σ3 =>
      rw [eb] at h
      cases h
      rw [List.length_cons, hb _ _ _ eb]
end Pu

set_option Elab.async false
set_option linter.all false
set_option maxRecDepth 100000
set_option maxHeartbeats 4000000
namespace Pu
open PySem PySem.Spec L2 PyProof.Rows

/-! ### min, max of a tuple of ints; len(set(t)); str(i) -/
def rMinT (K : PySem.W.Frag) : List V → Hp → VK → Prop := fun vs H Q => ∃ (a : Addr) (n : Int) (ns : List Int), vs = [V.ref a] ∧ SqT K H a ((n :: ns).map V.int) ∧ Q (.int (ns.foldl min n)) H
def rMaxT (K : PySem.W.Frag) : List V → Hp → VK → Prop := fun vs H Q => ∃ (a : Addr) (n : Int) (ns : List Int), vs = [V.ref a] ∧ SqT K H a ((n :: ns).map V.int) ∧ Q (.int (ns.foldl max n)) H
theorem depth_ints : ∀ ns : List Int, PyData.depthAll (ns.map PyData.int) = 0
  | [] => rfl
  | i :: r => by
    show max (PyData.depth (.int i)) (PyData.depthAll (r.map PyData.int)) = 0
    rw [depth_ints r]; rfl
theorem alike_ints (ns : List Int) : PySem.W.AlikeAll (ns.map PyData.int) := by
  constructor
  · intro x hx y hy
    obtain ⟨i, _, rfl⟩ := List.mem_map.mp hx
    obtain ⟨j, _, rfl⟩ := List.mem_map.mp hy
    rfl
  · intro x hx
    obtain ⟨i, _, rfl⟩ := List.mem_map.mp hx
    exact fun z => by cases z
section
variable {X : Cx}
theorem cr_minT (hc : X.calm = true) (hu : X.A.units + 64 < cLine) : CallR X (.builtin "min") (rMinT X.K) := by
  intro pins s σ H vs us Q I r h
  obtain ⟨a, n, ns, rfl, hs, q⟩ := h
  obtain ⟨its, rv, hl, _⟩ := I.tuple hs
  rw [Vals.ref1 r]
  obtain ⟨as, hr⟩ := Dp.readsAll (H := H) I ((n :: ns).map PyData.int) _ _ (.of_ints _) rv
  refine PySem.W.min_tuple_data (I.ok.hd hc) hl (vs := its.toArray) (x := .int n) (xs := ns.map .int) (by simpa using hr) (alike_ints (n :: ns)) (by
    have := depth_ints (n :: ns)
    show X.A.units + 1 + PyData.depthAll ((n :: ns).map PyData.int) < cLine
    rw [this]; omega) fun i v h' tk bs hv hrd hk => ?_
  rw [PySem.W.minD_ints] at hrd
  cases hrd
  exact ⟨.int _, H, I.kept hk, ⟨_, rfl⟩, q⟩
theorem cr_maxT (hc : X.calm = true) (hu : X.A.units + 64 < cLine) : CallR X (.builtin "max") (rMaxT X.K) := by
  intro pins s σ H vs us Q I r h
  obtain ⟨a, n, ns, rfl, hs, q⟩ := h
  obtain ⟨its, rv, hl, _⟩ := I.tuple hs
  rw [Vals.ref1 r]
  obtain ⟨as, hr⟩ := Dp.readsAll (H := H) I ((n :: ns).map PyData.int) _ _ (.of_ints _) rv
  refine PySem.W.max_tuple_data (I.ok.hd hc) hl (vs := its.toArray) (x := .int n) (xs := ns.map .int) (by simpa using hr) (alike_ints (n :: ns)) (by
    have := depth_ints (n :: ns)
    show X.A.units + 1 + PyData.depthAll ((n :: ns).map PyData.int) < cLine
    rw [this]; omega) fun i v h' tk bs hv hrd hk => ?_
  rw [PySem.W.maxD_ints] at hrd
  cases hrd
  exact ⟨.int _, H, I.kept hk, ⟨_, rfl⟩, q⟩
end
section
variable {X : Cx} {cA : String → Addr} {bs : Bs} {W : WX} {a b c e o : Expr} {es : List Expr} {ma mb mc : M D} {ms : M (List D)} {p p2 q pos apos cpos : Pos} {K : PySem.W.Frag} {x : Str}
def gMinT : List D → Option D
  | [.tuple xs] => (intsOf xs).bind fun l => match l with | n :: ns => some (.int (ns.foldl min n)) | [] => none
  | _ => none
def gMaxT : List D → Option D
  | [.tuple xs] => (intsOf xs).bind fun l => match l with | n :: ns => some (.int (ns.foldl max n)) | [] => none
  | _ => none
theorem cn_minT : CN K (rMinT K) gMinT := by
  intro G H vs ds c Q e s h q qn
  unfold gMinT at e
  split at e
  · rename_i xs
    cases ei : intsOf xs with
    | none => rw [ei] at e; cases e
    | some l =>
      rw [ei] at e
      cases l with
      | nil => cases e
      | cons n ns =>
        cases e
        obtain ⟨v, rfl, h9⟩ := dps1 h
        obtain ⟨p, us, rfl, t, r⟩ := h9.tup_inv
        rw [intsOf_inv ei] at r
        rw [r.ints] at t
        exact ⟨p, n, ns, rfl, st_up s t, q _ (.int _)⟩
  · cases e
theorem cn_maxT : CN K (rMaxT K) gMaxT := by
  intro G H vs ds c Q e s h q qn
  unfold gMaxT at e
  split at e
  · rename_i xs
    cases ei : intsOf xs with
    | none => rw [ei] at e; cases e
    | some l =>
      rw [ei] at e
      cases l with
      | nil => cases e
      | cons n ns =>
        cases e
        obtain ⟨v, rfl, h9⟩ := dps1 h
        obtain ⟨p, us, rfl, t, r⟩ := h9.tup_inv
        rw [intsOf_inv ei] at r
        rw [r.ints] at t
        exact ⟨p, n, ns, rfl, st_up s t, q _ (.int _)⟩
  · cases e
def gStr : List D → Option D
  | [.int i] => if i.natAbs.log2 < 1920 then some (.str (toString i)) else none
  | _ => none
theorem cn_str : CN K (fun xs H Q => ∃ i, xs = [V.int i] ∧ i.natAbs.log2 < 1920 ∧ Q (.str (toString i)) H) gStr := by
  intro G H vs ds c Q e s h q qn
  unfold gStr at e
  split at e
  · split at e
    · rename_i hl
      cases e
      obtain ⟨v, rfl, h9⟩ := dps1 h
      cases h9
      exact ⟨_, rfl, hl, q _ (.str _)⟩
    · cases e
  · cases e
/-- each int once -/
def ddI : List Int → List Int
  | [] => []
  | i :: r => if i ∈ ddI r then ddI r else i :: ddI r
theorem ddI_mem {k : Int} : ∀ {ns : List Int}, k ∈ ddI ns ↔ k ∈ ns
  | [] => Iff.rfl
  | i :: r => by
    unfold ddI
    split
    · rename_i h
      rw [ddI_mem, List.mem_cons]
      refine ⟨.inr, fun z => z.elim (fun e => ?_) id⟩
      subst e
      exact ddI_mem.mp h
    · rw [List.mem_cons, List.mem_cons, ddI_mem]
theorem ddI_nd : ∀ ns : List Int, (ddI ns).Nodup
  | [] => List.nodup_nil
  | i :: r => by
    unfold ddI
    split
    · exact ddI_nd r
    · rename_i h
      exact List.nodup_cons.mpr ⟨h, ddI_nd r⟩
def tLenSetT (K : PySem.W.Frag) (ta : TE) : TE := fun σ H Q => ta σ H fun x H1 => ∃ (l : Addr) (ns : List Int), x = V.ref l ∧ SqT K H1 l (ns.map V.int) ∧ ns.length ≤ 1000 ∧ Q (.int (ddI ns).length) H1
theorem pe_lenSetT {ta : TE} (hc : X.calm = true) (hg : Gl X "len") (hm : X.mg "len" = none) (hg2 : Gl X "set") (hm2 : X.mg "set" = none) (ha : PE X a ta)
    (na : starEach [a] X.env = (false, eval a X.env) :: starEach [] X.env := by rfl) : PE X (.Call (.Name "len" p) [.Call (.Name "set" p2) [a] [] q] [] pos) (tLenSetT X.K ta) := by
  refine ⟨fun pins s σ H Q I h => ?_⟩
  refine Call_ (ld_blt I hg hm PySem.boot_len ?_)
  refine PyProof.Rows.callWith_builtin1 (PyProof.Rows.args_cons ?_ rfl) rfl rfl
  refine Call_ (ld_blt I hg2 hm2 PyProof.Rows.boot_set ?_)
  refine PyProof.Rows.callWith_type1 (PyProof.Rows.args_cons (thn (ha.run pins s σ H _ I h) fun v s1 ⟨x, H1, I1, r1, q1⟩ => PyProof.Rows.args_nil ?_) na) na rfl
  obtain ⟨l, ns, rfl, hq, h1, q1⟩ := q1
  cases r1
  obtain ⟨its, r, pl, hz⟩ := I1.tuple hq
  refine call_set_tupI ns (I1.ok.hd hc) (show s1.heap.IsTuple l its.toArray from pl) (ints_of_vals r) (by unfold scanBound; omega) fun h' tk c R1 hcn hk => ?_
  refine PyProof.Rows.args_nil ?_
  obtain ⟨o, es, ep, t, ho, hex, hd, g, nd, hm3, hb, hf, hn, hr, hl2⟩ := R1
  have I2 : Inv X pins σ H1 { s1 with heap := h', toks := tk } := I1.kept hk
  have hlen : es.size = (ddI ns).length := by
    have hp : (es.toList.map keyOf).Perm (ddI ns) := (List.perm_ext_iff_of_nodup nd (ddI_nd ns)).mpr fun k => by
      rw [ddI_mem, ← hm3 k, decide_eq_true_eq]
    have := hp.length_eq
    rw [List.length_map, Array.length_toList] at this
    exact this
  refine call_len_set ho hex hd hf (by omega) ⟨.int (ddI ns).length, H1, I2.tok _, ⟨_, by rw [hlen]⟩, q1⟩
def fLenSet : D → Option D
  | .tuple xs => (intsOf xs).bind fun ns => if ns.length ≤ 1000 then some (.int (ddI ns).length) else none
  | _ => none
theorem ie_lenSet (hc : X.calm = true) (hg : Gl X "len") (hm : X.mg "len" = none) (hg2 : Gl X "set") (hm2 : X.mg "set" = none) (ha : IE cA bs W X a ma)
    (na : starEach [a] X.env = (false, eval a X.env) :: starEach [] X.env := by rfl) : IE cA bs W X (.Call (.Name "len" p) [.Call (.Name "set" p2) [a] [] q] [] pos) (mUn fLenSet ma) := (pe_lenSetT hc hg hm hg2 hm2 ha na).wk fun y H Q h => by
  obtain ⟨C, B, O, σ, hb, R0, k⟩ := h
  refine ⟨C, B, O, σ, hb, R0, (KG.bind (rel := rD) k).imp fun v H1 ⟨d, σ1, O1, R1, F1, d1, k1⟩ => ?_⟩
  obtain ⟨c, ec, qq⟩ := k1.ofO
  unfold fLenSet at ec
  split at ec
  · rename_i xs
    cases ei : intsOf xs with
    | none => rw [ei] at ec; cases ec
    | some ns =>
      rw [ei] at ec
      have ec : (if ns.length ≤ 1000 then some (PyData.int (ddI ns).length) else none) = some c := ec
      split at ec
      · rename_i hl
        cases ec
        obtain ⟨p, us, rfl, t, r⟩ := Dp.tup_inv d1
        rw [intsOf_inv ei] at r
        rw [r.ints] at t
        exact ⟨p, ns, rfl, st_up hide_same t, hl, qq O1 _ H1 R1 Fr.refl (.int _)⟩
      · cases ec
  · cases ec
end
end Pu

set_option Elab.async false
set_option linter.all false
set_option maxRecDepth 100000
set_option maxHeartbeats 4000000
namespace Pu
open PySem PySem.Spec L2

/-! ### a dict that a slot holds -/
def keyD : D → Option Key
  | .int i => some (.inl i)
  | .str z => some (.inr z)
  | _ => none
theorem keyD_of {K : PySem.W.Frag} {G : Hp} {v : V} {d : D} {k : Key} (h : Dp K G v d) (e : keyD d = some k) : v = kV k := by
  unfold keyD at e
  split at e
  · cases e; cases h; rfl
  · cases e; cases h; rfl
  · cases e
def slotK (σ : Loc) (i : Nat) : Option (List (Key × D)) := match σ[i]? with | some (some (.o (.dk kvs))) => some kvs | _ => none
theorem slotK_inv {σ : Loc} {i : Nat} {kvs : List (Key × D)} (h : slotK σ i = some kvs) : σ[i]? = some (some (.o (.dk kvs))) := by
  unfold slotK at h
  split at h
  · rename_i q; cases h; exact q
  · cases h
abbrev PKV (K : PySem.W.Frag) (G : Hp) : List (Key × V) → List (Key × D) → Prop := Paired fun (p : Key × V) (q : Key × D) => p.1 = q.1 ∧ Dp K G p.2 q.2
def hasK (kvs : List (Key × D)) (k : Key) : Bool := kvs.any fun p => decide (p.1 = k)
def putD (kvs : List (Key × D)) (k : Key) (v : D) : List (Key × D) := if hasK kvs k = true then kvs.map (fun kv => if kv.1 = k then (kv.1, v) else kv) else kvs ++ [(k, v)]
theorem pkv_any {K : PySem.W.Frag} {G : Hp} {k : Key} : ∀ {vs : List (Key × V)} {kvs : List (Key × D)}, PKV K G vs kvs → (vs.any fun p => decide (p.1 = k)) = hasK kvs k
  | _, _, .nil => rfl
  | _, _, .cons h t => by
    unfold hasK
    rw [List.any_cons, List.any_cons, pkv_any t, h.1]
    rfl
theorem pkv_has {K : PySem.W.Frag} {G : Hp} {k : Key} {vs : List (Key × V)} {kvs : List (Key × D)} (h : PKV K G vs kvs) : (valV vs k).isSome = hasK kvs k := by rw [← valV_any, pkv_any h]
theorem pkv_len {K : PySem.W.Frag} {G : Hp} : ∀ {vs : List (Key × V)} {kvs : List (Key × D)}, PKV K G vs kvs → vs.length = kvs.length
  | _, _, .nil => rfl
  | _, _, .cons _ t => by rw [List.length_cons, List.length_cons, pkv_len t]
theorem pkv_map {K : PySem.W.Frag} {G : Hp} {k : Key} {v : V} {d : D} (hd : Dp K G v d) : ∀ {vs : List (Key × V)} {kvs : List (Key × D)}, PKV K G vs kvs → PKV K G (vs.map fun kv => if kv.1 = k then (kv.1, v) else kv) (kvs.map fun kv => if kv.1 = k then (kv.1, d) else kv)
  | _, _, .nil => .nil
  | (k1, v1) :: _, (k2, d2) :: _, .cons h t => by
    have e : k1 = k2 := h.1
    subst e
    rw [List.map_cons, List.map_cons]
    refine .cons ?_ (pkv_map hd t)
    by_cases c : k1 = k
    · rw [if_pos c, if_pos c]; exact ⟨rfl, hd⟩
    · rw [if_neg c, if_neg c]; exact h
theorem pkv_app {K : PySem.W.Frag} {G : Hp} {p : Key × V} {q : Key × D} (h : p.1 = q.1 ∧ Dp K G p.2 q.2) : ∀ {vs : List (Key × V)} {kvs : List (Key × D)}, PKV K G vs kvs → PKV K G (vs ++ [p]) (kvs ++ [q])
  | _, _, .nil => .cons h .nil
  | _, _, .cons h' t => .cons h' (pkv_app h t)
theorem pkv_put {K : PySem.W.Frag} {G : Hp} {k : Key} {v : V} {d : D} {vs : List (Key × V)} {kvs : List (Key × D)} (h : PKV K G vs kvs) (hd : Dp K G v d) : PKV K G (putK vs k v) (putD kvs k d) := by
  unfold putK putD
  rw [pkv_any h]
  split
  · exact pkv_map hd h
  · exact pkv_app ⟨rfl, hd⟩ h
section
variable {X : Cx} {cA : String → Addr} {bs : Bs} {W : WX} {a b c e o : Expr} {es : List Expr} {ma mb mc : M D} {ms : M (List D)} {p p2 q pos apos cpos : Pos} {K : PySem.W.Frag} {x : Str}
theorem ownK_of {α β : Type} {rel : Rel β α} {C : List Addr} {B : Bx} {O : List Addr} {σ : Loc} {y : St} {H : Hp} {Q : β → Hp → Prop} {i : Nat} {fo : List (Key × D) → ER α} (R0 : R K C B O σ y H)
    (k : KG K cA W rel C B O H y Q (match slotK σ i with | some kvs => fo kvs | none => .stuck)) : ∃ q vs kvs, y[i]? = some (some (.ref q)) ∧ H q = some (.dK vs) ∧ q ∈ O ∧ PKV K (hide (O ++ C) H) vs kvs ∧ σ[i]? = some (some (.o (.dk kvs))) ∧ KG K cA W rel C B O H y Q (fo kvs) := by
  cases e : slotK σ i with
  | none => rw [e] at k; exact k.elim
  | some kvs =>
    rw [e] at k
    obtain ⟨q, e1, e2, vs, e3, e4⟩ := R0.own i _ (slotK_inv e)
    exact ⟨q, vs, kvs, e1, e3, e2, e4, slotK_inv e, k⟩
/-- {k: v} -/
def mDisp1 (mk mv : M D) : M OO := fun σ => ((mk σ).calm).bind fun k σ1 => ((mv σ1).calm).bind fun v σ2 => match keyD k with | some key => .ok (.dk [(key, v)]) σ2 | none => .stuck
theorem io_disp1 {mk mv : M D} (hk : IE cA bs W0 X a mk) (hv : IE cA bs W0 X b mv) : IO cA bs W X (.Dict [some a] [b] pos) (mDisp1 mk mv) := (pe_disp (pps_cons hk hv pps_nil) rfl rfl (by simp) (by simp)).wk fun y H Q h => by
  obtain ⟨C, B, O, σ, hB, R0, k⟩ := h
  intro Dd hD
  have nD := R0.nin hD
  have hBD : ∀ q ∈ B.r, q.2 ≠ Dd := fun q hq z => nD.1 (z ▸ R0.bin q hq)
  have R1 := R0.aside (u := .dK []) hD
  refine ⟨Dd :: C, B, O, σ, hB, R1, (KG.bindC (rel := rD) k).imp fun x H1 ⟨dk, σ1, O1, R2, F2, d2, k2⟩ => ⟨Dd :: C, B, O1, σ1, hB, R2, (KG.bindC (rel := rD) k2).imp fun z H2 ⟨dv, σ2, O2, R3, F3, d3, k3⟩ => ?_⟩⟩
  have F4 : Fr O (upd H Dd (.dK [])) O2 H2 := F2.trans F3
  obtain ⟨nO2, hDv⟩ := F4.ext Dd _ nD.1 upd_same
  cases ek : keyD dk with
  | none => rw [ek] at k3; exact k3.elim
  | some key =>
    rw [ek] at k3
    have ex := keyD_of (dp_mono F3.vis d2) ek
    refine ⟨hDv, [(key, z)], by rw [ex]; rfl, by simp, ?_⟩
    obtain ⟨R4, s4⟩ := R3.asideUpd (u := .dK (mergeK [] [(key, z)]))
    have hv2 : Same (hide (O2 ++ Dd :: C) (upd H2 Dd (.dK (mergeK [] [(key, z)])))) (hide ((Dd :: O2) ++ C) (upd H2 Dd (.dK (mergeK [] [(key, z)])))) := fun a o e => by
      obtain ⟨n, q⟩ := hide_some e
      refine hide_mk (fun z => n ?_) q
      rw [List.mem_append, List.mem_cons] at z ⊢
      rcases z with (z | z) | z
      · exact .inr (.inl z)
      · exact .inl z
      · exact .inr (.inr z)
    refine k3 (Dd :: O2) (.ref Dd) _ (R4.back nD.2) ?_ ⟨Dd, rfl, List.mem_cons_self, ⟨_, upd_same, ?_⟩, fun j x e z => ?_, hBD⟩
    · refine ⟨fun a o n e => ?_, fun a z => ?_, fun a o e => ?_⟩
      · have na : a ≠ Dd := ne_of_none e hD
        obtain ⟨n1, e1⟩ := F4.ext a o n (by rw [upd_ne na]; exact e)
        exact ⟨fun z => (List.mem_cons.mp z).elim na n1, by rw [upd_ne na]; exact e1⟩
      · rcases List.mem_cons.mp z with z | z
        · rw [z]; exact .inr hD
        · rcases F4.new a z with w | w
          · exact .inl w
          · refine .inr ?_
            by_cases na : a = Dd
            · rw [na]; exact hD
            · rw [upd_ne na] at w; exact w
      · have na : a ≠ Dd := ne_of_none e hD
        obtain ⟨o', e'⟩ := F4.there a o (by rw [upd_ne na]; exact e)
        exact ⟨o', by rw [upd_ne na]; exact e'⟩
    · exact .cons ⟨rfl, dp_mono hv2 (dp_mono s4 d3)⟩ .nil
    · obtain ⟨a, ea, ha, _⟩ := R4.own j x e
      rw [z] at ea
      have ea := V.ref.inj (Option.some.inj (Option.some.inj ea))
      subst ea
      exact R4.dis _ ha List.mem_cons_self
/-- k in d, k not in d -/
def mDkIn (i : Nat) (neg : Bool) (m : M D) : M D := fun σ => (m σ).bind fun d σ1 => match slotK σ1 i with
  | some kvs => (match keyD d with | some k => .ok (.bool (if neg then !hasK kvs k else hasK kvs k)) σ1 | none => .stuck)
  | none => .stuck
theorem tDkIn_of {i : Nat} {y : St} {H : Hp} {Q : VK} (h : tG X.K cA W bs rD (mDkIn i false ma) y H Q) : tDIn (tG X.K cA W bs rD ma) (tVar i) y H Q := by
  obtain ⟨C, B, O, σ, hb, R0, k⟩ := h
  refine ⟨C, B, O, σ, hb, R0, (KG.bind (rel := rD) k).imp fun v H1 ⟨d, σ1, O1, R1, F1, d1, k1⟩ => ?_⟩
  obtain ⟨q, vs, kvs, e1, e2, e3, e4, e5, k2⟩ := ownK_of (fo := fun kvs => match keyD d with | some k => .ok (PyData.bool (if false = true then !hasK kvs k else hasK kvs k)) σ1 | none => .stuck) R1 k1
  cases ek : keyD d with
  | none => rw [ek] at k2; exact k2.elim
  | some key =>
    rw [ek] at k2
    refine ⟨_, e1, q, valV vs key, rfl, ?_, ?_⟩
    · rw [keyD_of d1 ek]; exact DGet.k e2
    · rw [pkv_has e4]; exact k2 O1 _ H1 R1 Fr.refl (.bl _)
theorem tDkNot_of {i : Nat} {y : St} {H : Hp} {Q : VK} (h : tG X.K cA W bs rD (mDkIn i true ma) y H Q) : tDNotIn (tG X.K cA W bs rD ma) (tVar i) y H Q := by
  obtain ⟨C, B, O, σ, hb, R0, k⟩ := h
  refine ⟨C, B, O, σ, hb, R0, (KG.bind (rel := rD) k).imp fun v H1 ⟨d, σ1, O1, R1, F1, d1, k1⟩ => ?_⟩
  obtain ⟨q, vs, kvs, e1, e2, e3, e4, e5, k2⟩ := ownK_of (fo := fun kvs => match keyD d with | some k => .ok (PyData.bool (if true = true then !hasK kvs k else hasK kvs k)) σ1 | none => .stuck) R1 k1
  cases ek : keyD d with
  | none => rw [ek] at k2; exact k2.elim
  | some key =>
    rw [ek] at k2
    refine ⟨_, e1, q, valV vs key, rfl, ?_, ?_⟩
    · rw [keyD_of d1 ek]; exact DGet.k e2
    · rw [pkv_has e4]; exact k2 O1 _ H1 R1 Fr.refl (.bl _)
theorem ie_dkIn {i : Nat} (hu : X.A.units + 1 < cLine) (ha : IE cA bs W X a ma) (hb : PE X b (tVar i)) (hm : behindInMarks .In b = false := by rfl) : IE cA bs W X (.Compare a [.In] [b] pos) (mDkIn i false ma) := (pe_cmp (pc_din hu ha hb) hm).wk fun _ _ _ h => tDkIn_of h
theorem ie_dkNotIn {i : Nat} (hu : X.A.units + 1 < cLine) (ha : IE cA bs W X a ma) (hb : PE X b (tVar i)) (hm : behindInMarks .NotIn b = false := by rfl) : IE cA bs W X (.Compare a [.NotIn] [b] pos) (mDkIn i true ma) := (pe_cmp (pc_dnotin hu ha hb) hm).wk fun _ _ _ h => tDkNot_of h
theorem it_dkIn {i : Nat} (hu : X.A.units + 1 < cLine) (ha : IE cA bs W X a ma) (hb : PE X b (tVar i)) (hm : behindInMarks .In b = false := by rfl) : IT cA bs W X (.Compare a [.In] [b] pos) (mBool (mDkIn i false ma)) := (pt_cmp (pc_din hu ha hb) hm).wk fun _ _ _ h => tDkIn_of (bool_of h)
theorem it_dkNotIn {i : Nat} (hu : X.A.units + 1 < cLine) (ha : IE cA bs W X a ma) (hb : PE X b (tVar i)) (hm : behindInMarks .NotIn b = false := by rfl) : IT cA bs W X (.Compare a [.NotIn] [b] pos) (mBool (mDkIn i true ma)) := (pt_cmp (pc_dnotin hu ha hb) hm).wk fun _ _ _ h => tDkNot_of (bool_of h)
/-- d[k] = v -/
def sDkPut (i : Nat) (mk mv : M D) : S := fun σ => (mv σ).toS fun v σ1 => match slotK σ1 i with
  | none => .stuck
  | some _ => (mk σ1).toS fun k σ2 => match slotK σ2 i with
    | none => .stuck
    | some kvs => match keyD k with
      | some key => if kvs.length < 1000000 then .nx (σ2.set i (some (.o (.dk (putD kvs key v))))) else .stuck
      | none => .stuck
theorem ownKS_of {C : List Addr} {B : Bx} {O : List Addr} {σ : Loc} {y : St} {H : Hp} {E : Ends} {i : Nat} {fo : List (Key × D) → SR} (R0 : R K C B O σ y H)
    (k : KS K cA W C B O H E (match slotK σ i with | none => .stuck | some kvs => fo kvs)) : ∃ q vs kvs, y[i]? = some (some (.ref q)) ∧ H q = some (.dK vs) ∧ q ∈ O ∧ PKV K (hide (O ++ C) H) vs kvs ∧ σ[i]? = some (some (.o (.dk kvs))) ∧ KS K cA W C B O H E (fo kvs) := by
  cases e : slotK σ i with
  | none => rw [e] at k; exact k.elim
  | some kvs =>
    rw [e] at k
    obtain ⟨q, e1, e2, vs, e3, e4⟩ := R0.own i _ (slotK_inv e)
    exact ⟨q, vs, kvs, e1, e3, e2, e4, slotK_inv e, k⟩
theorem is_dkPut {i : Nat} {mk mv : M D} {p1 : Pos} (hu : X.A.units + 1 < cLine) (ho : PE X o (tVar i)) (hk : IE cA bs W X a mk) (hv : IE cA bs W X e mv) (hs : swapsWith e (some (.Subscript o a p1)) pos.line X.env = pure false := by rfl) :
    IS cA bs W X (.Assign [.Subscript o a p1] e pos) (sDkPut i mk mv) := (ps_dput hu ho hk hv hs).wk fun E y H h => by
  obtain ⟨C, B, O, σ, hB, R0, k⟩ := h
  refine ⟨C, B, O, σ, hB, R0, (KS.bind (rel := rD) k).imp fun v H1 ⟨d, σ1, O1, R1, F1, d1, k1⟩ => ?_⟩
  obtain ⟨q, vs, kvs, e1, e2, e3, e4, e5, k2⟩ := ownKS_of R1 k1
  refine ⟨_, e1, C, B, O1, σ1, hB, R1, (KS.bind (rel := rD) k2).imp fun z H2 ⟨j, σ2, O2, R2, F2, d2, k3⟩ => ?_⟩
  obtain ⟨q', vs', kvs2, f1, f2, f3, f4, f5, k4⟩ := ownKS_of R2 k3
  rw [e1] at f1
  have z1 : q = q' := V.ref.inj (Option.some.inj (Option.some.inj f1))
  subst z1
  cases ek : keyD j with
  | none => rw [ek] at k4; exact k4.elim
  | some key =>
    rw [ek] at k4
    have k4 : KS X.K cA W C B O2 H2 E (if kvs2.length < 1000000 then .nx (σ2.set i (some (.o (.dk (putD kvs2 key d))))) else .stuck) := k4
    by_cases hl : kvs2.length < 1000000
    · rw [if_pos hl] at k4
      have hx := keyD_of d2 ek
      obtain ⟨R3, F3⟩ := R2.mut (o' := .dk (putD kvs2 key d)) (u := .dK (putK vs' key v)) f5 e1 fun G s => ⟨_, upd_same, pkv_put (Paired.mapP f4 fun _ _ z => ⟨z.1, dp_mono s z.2⟩) (dp_mono s (dp_mono F2.vis d1))⟩
      exact ⟨q, _, rfl, by rw [hx]; exact DPut.k f2 (by rw [pkv_len f4]; exact Nat.lt_of_lt_of_le hl mil), k4 O2 y _ R3 F3⟩
    · rw [if_neg hl] at k4; exact k4.elim
/-- sorted(d): keys that are ints -/
def keysI : List (Key × D) → Option (List Int)
  | [] => some []
  | (.inl i, _) :: r => (keysI r).map (i :: ·)
  | _ => none
theorem keysI_inv {G : Hp} : ∀ {vs : List (Key × V)} {kvs : List (Key × D)} {ks : List Int}, PKV K G vs kvs → keysI kvs = some ks → vs.map (·.1) = ks.map Sum.inl
  | _, _, ks, .nil, h => by cases h; rfl
  | (k1, v1) :: _, (k2, d2) :: r, ks, .cons h t, e => by
    have e1 : k1 = k2 := h.1
    subst e1
    cases k1 with
    | inr z => cases e
    | inl i =>
      have e : (keysI r).map (i :: ·) = some ks := e
      cases er : keysI r with
      | none => rw [er] at e; cases e
      | some ls =>
        rw [er] at e
        cases e
        rw [List.map_cons, List.map_cons, keysI_inv t er]
def mSortK (i : Nat) : M OO := fun σ => match slotK σ i with
  | some kvs => (match keysI kvs with
    | some ks => if ks.length < 64 then .ok (.lst ((ks.mergeSort (fun i j => decide (i ≤ j))).map PyData.int)) σ else .stuck
    | none => .stuck)
  | none => .stuck
theorem io_sortK {i : Nat} (hc : X.calm = true) (hv0 : PE X e (tVar i)) (hg : Gl X "sorted") (hm : X.mg "sorted" = none) (hv : bootBuiltins "sorted" = some (.builtin "sorted"))
    (he : starEach (e :: []) X.env = (false, eval e X.env) :: starEach [] X.env := by rfl) (hpl : (backTo pos (starEach [] X.env)).any (·.1) = false := by rfl) : IO cA bs W X (.Call (.Name "sorted" p) [e] [] pos) (mSortK i) :=
  (pe_callB (call_sortedDI hc) hg hm hv (pa_cons hv0 pa_nil he) (by decide) (by decide) he hpl).wk fun y H Q h => by
    obtain ⟨C, B, O, σ, hB, R0, k⟩ := h
    obtain ⟨q, vs, kvs, e1, e2, e3, e4, e5, k1⟩ := ownK_of (fo := fun kvs => match keysI kvs with
      | some ks => if ks.length < 64 then .ok (OO.lst ((ks.mergeSort (fun i j => decide (i ≤ j))).map PyData.int)) σ else .stuck
      | none => .stuck) R0 k
    cases ek : keysI kvs with
    | none => rw [ek] at k1; exact k1.elim
    | some ks =>
      rw [ek] at k1
      have k1 : KG X.K cA W rO C B O H y Q (if ks.length < 64 then .ok (.lst ((ks.mergeSort (fun i j => decide (i ≤ j))).map PyData.int)) σ else .stuck) := k1
      by_cases hl : ks.length < 64
      · rw [if_pos hl] at k1
        refine ⟨_, e1, q, vs, ks, rfl, .inl e2, keysI_inv e4 ek, hl, fun ys r hp hs hr => ?_⟩
        rw [sorted_is hp hs]
        exact rO_new R0 (.of_ints _) hr k1
      · rw [if_neg hl] at k1; exact k1.elim
end
end Pu

set_option Elab.async false
set_option linter.all false
set_option maxRecDepth 100000
set_option maxHeartbeats 4000000
namespace Pu
open PySem PySem.Spec L2
/-! ### what the top leaves behind -/
def oexB (K : PySem.W.Frag) (C : Addr) : Bool := (match K.lookup C with
  | some ⟨.type "type", _, .cls cd, sl⟩ => (match cd.mro, sl.toList with
    | .ref C' :: bm, [_, _, _, _, some (.builtin n), _] => C' == C && (n == "ValueError.__new__" && (!cd.hasDel && (cd.hasDict && PySem.HandSPX.refsVE bm)))
    | _, _ => false)
  | _ => false) && (He.eqO (PySem.W.findIn K (.ref C) "__setattr__") (some (some (.builtin "object.__setattr__"))) && (decide (PySem.W.subIn K (.ref C) (.type "BaseException") = some true) && (decide (PySem.W.typeIn K (.ref C) = some (.type "type")) && PySem.W.keepIn K (.ref C))))
theorem oexB_ok {K : PySem.W.Frag} {C : Addr} (h : oexB K C = true) : OexC K C := by
  obtain ⟨q, h⟩ := He.ba h
  obtain ⟨h1, h⟩ := He.ba h
  obtain ⟨h2, h⟩ := He.ba h
  obtain ⟨h3, h4⟩ := He.ba h
  refine ⟨?_, He.eqO_ok h1, of_decide_eq_true h2, of_decide_eq_true h3, h4⟩
  split at q
  · rename_i dd cd sl ho
    split at q
    · rename_i C' bm k0 k1 k2 k3 n k5 hm hs
      simp only [Bool.and_eq_true, beq_iff_eq, Bool.not_eq_true'] at q
      obtain ⟨rfl, rfl, hdel, hdi, ht⟩ := q
      obtain ⟨nm, bs, mro, ns, qn, hd, sn, sub, ab, col, del⟩ := cd
      dsimp only at hm hdel hdi
      subst hm hdel hdi
      have hsl : sl = #[k0, k1, k2, k3, some (.builtin "ValueError.__new__"), k5] := by
        obtain ⟨l⟩ := sl
        simp only at hs
        rw [hs]
      subst hsl
      exact ⟨nm, qn, ns, bs, bm, sn, sub, ab, col, dd, k0, k1, k2, k3, k5, ho, ht⟩
    · cases q
  · cases q
def exiB (K : PySem.W.Frag) (D : Addr) : Bool := (PySem.W.clsIn K D).isSome && (He.eqO (PySem.W.findIn K (.ref D) "__getattribute__") (some (some (.builtin "BaseException.__getattribute__"))) && (He.eqO (PySem.W.findIn K (.ref D) "__getattr__") (some none) &&
  (decide (PySem.W.subIn K (.ref D) (.type "BaseException") = some true) && (He.eqO (PySem.W.findIn K (.ref D) "__class__") (some (some (.builtin "object.__class__"))) && (He.eqO (PySem.W.specialIn K (.builtin "object.__class__") "__get__") (some (some (.builtin "getset_descriptor.__get__"))) &&
  (decide (PySem.W.takesIn K (.builtin "object.__class__") = some true) && decide (PySem.W.mroIn K D (.type "object") = some true)))))))
theorem exiB_ok {K : PySem.W.Frag} {D : Addr} (h : exiB K D = true) : ExI K D := by
  obtain ⟨h1, h⟩ := He.ba h
  obtain ⟨h2, h⟩ := He.ba h
  obtain ⟨h3, h⟩ := He.ba h
  obtain ⟨h4, h⟩ := He.ba h
  obtain ⟨h5, h⟩ := He.ba h
  obtain ⟨h6, h⟩ := He.ba h
  obtain ⟨h7, h8⟩ := He.ba h
  exact ⟨h1, He.eqO_ok h2, He.eqO_ok h3, of_decide_eq_true h4, He.eqO_ok h5, He.eqO_ok h6, of_decide_eq_true h7, of_decide_eq_true h8⟩
def exfB (K : PySem.W.Frag) (c : ExE) : Bool := oexB K (He.ga K c.x) && (He.eqO (PySem.W.findIn K (.ref (He.ga K c.x)) "__init__") (some (some (.ref (He.ma K (He.ga K c.x) "__init__")))) &&
  (decide (PySem.W.typeIn K (.ref (He.ma K (He.ga K c.x) "__init__")) = some (.type "function")) && c.fs.all fun f => He.eqO (PySem.W.findIn K (.ref (He.ga K c.x)) f) (some none)))
def moreB (T : Tx) (K : PySem.W.Frag) : Bool := T.ec.all (exfB K) && (T.xc.all (fun x => xfB K (He.ga K x) && exiB K (He.ga K x)) && (T.xm.all (fun q => decide (PySem.W.exmOne K (.ref (He.ga K q.1)) (.ref (He.ga K q.2.1)) = some q.2.2)) &&
  (T.ki.all (fun q => decide (PySem.W.kitOne K (.ref (He.ga K q.1)) (.ref (He.ga K q.2.1)) = some q.2.2)) && (T.kb.all (fun q => decide (PySem.W.kitOne K (.ref (He.ga K q.1)) (.type q.2.1) = some q.2.2)) &&
  T.lb.all (fun p => He.eqO (PySem.W.nsIn K mainGlobals p.1) (some (some (.builtin p.2))))))))
def faT (T : Tx) : List He.Fa := T.fn.map (fun d => .glo d.x) ++ (T.cl.map .glo ++ T.fr.map .free)
def ddE (d : DefE) : He.DefD := ⟨(d.x, none), d.x, d.x, defArgs d.st, defBody d.st, defScope d.st, [], []⟩
def diE (c : ExE) : He.DefD := ⟨(c.x, some "__init__"), "__init__", c.q, defArgs c.ini, defBody c.ini, defScope c.ini, [], []⟩
def fnT (T : Tx) : List He.DefD := T.fn.map ddE ++ T.ec.map diE
def fdNo : FuncData := PySem.W.fnOf "" "" { posonlyargs := [], args := [], vararg := none, kwonlyargs := [], kw_defaults := [], kwarg := none, defaults := [] } [] { kind := .function, names := [], isGenerator := false, isCoroutine := false } .none .none .none .none none .none .none
def fdAt (K : PySem.W.Frag) (a : Addr) : FuncData := match K.lookup a with
  | some ⟨_, _, .func fd, _⟩ => fd
  | _ => fdNo
def fdT (T : Tx) (K : PySem.W.Frag) (x : Str) : FuncData := if (T.ec.any fun c => c.x == x) = true then fdAt K (He.ma K (He.ga K x) "__init__") else fdAt K (He.ga K x)
/-- how the parameters are bound -/
def BindE (x q : Str) (st : Stmt) (ps : List Str) : Prop := ∀ (kV doc pm : Value) (an : Option Addr) (cdv ct : Value) (us : List Value), us.length = ps.length → bindArgs (PySem.W.fnOf x q (defArgs st) (defBody st) (defScope st) .none kV doc pm an cdv ct) ⟨us, []⟩ = pure (ps.zip us)
theorem fun_of {K : PySem.W.Frag} {d : He.DefD} {fd : FuncData} {st : Stmt} {f : Addr} (h : FunD K d.name d.qual (defArgs st) (defBody st) (defScope st) [] [] f fd) : Fun K d.name d.qual st f (fdAt K f) ∧ fdAt K f = fd := by
  obtain ⟨⟨oc, od, dV, kV, doc, pm, an, cdv, ct, osl, e, lk, hcd, hd, _⟩, kp⟩ := h
  have e2 : fdAt K f = fd := by unfold fdAt; rw [lk]
  refine ⟨?_, e2⟩
  rw [e2]
  have : dV = .none := by
    rcases hd with ⟨h, _⟩ | ⟨h, _⟩
    · first | exact h | exact (by assumption)
    · exact absurd rfl h
  subst this
  subst e
  exact fun_mk lk hcd kp
theorem cz_of {T : Tx} {K : PySem.W.Frag} {h : Heap} {mg : Str → Option Value} (X : K.In h) (G : h.Ns mainGlobals mg) (c : He.SaysD (faT T) (fnT T) K) (m : moreB T K = true) (hB : ∀ d ∈ T.fn, BindE d.x d.x d.st d.ps) (hI : ∀ c ∈ T.ec, BindE "__init__" c.q c.ini c.ps)
    (hN : (T.fn.all fun d => !(T.ec.any fun c => c.x == d.x)) = true) : Cz K mg T (fdT T K) := by
  obtain ⟨m1, m⟩ := He.ba m
  obtain ⟨m2, m⟩ := He.ba m
  obtain ⟨m3, m⟩ := He.ba m
  obtain ⟨m4, m⟩ := He.ba m
  obtain ⟨m5, m6⟩ := He.ba m
  have fdd : ∀ d ∈ T.fn, fdT T K d.x = fdAt K (He.ga K d.x) := fun d hd => by
    have := List.all_eq_true.mp hN d hd
    unfold fdT
    rw [if_neg (by simpa using this)]
  have fdi : ∀ c ∈ T.ec, fdT T K c.x = fdAt K (He.ma K (He.ga K c.x) "__init__") := fun c hc => by
    unfold fdT
    rw [if_pos (List.any_eq_true.mpr ⟨c, hc, beq_self_eq_true c.x⟩)]
  have hF : ∀ d ∈ T.fn, Fun K d.x d.x d.st (He.ga K d.x) (fdT T K d.x) := fun d hd => by
    rw [fdd d hd]
    obtain ⟨fd, F⟩ := c.defs (d := ddE d) (List.mem_append_left _ (List.mem_map_of_mem hd))
    exact (fun_of (d := ddE d) F).1
  have hFi : ∀ e ∈ T.ec, Fun K "__init__" e.q e.ini (He.ma K (He.ga K e.x) "__init__") (fdT T K e.x) := fun e he => by
    rw [fdi e he]
    obtain ⟨fd, F⟩ := c.defs (d := diE e) (List.mem_append_right _ (List.mem_map_of_mem he))
    exact (fun_of (d := diE e) F).1
  refine ⟨hF, fun d hd => ?_, fun d hd => (hF d hd).binds (hB d hd), fun x hx => ?_, fun p hp => ?_, fun e he => ?_, fun x hx => ?_, fun x hx => ?_, fun q hq => ?_, fun q hq => ?_, fun q hq => ?_⟩
  · exact He.glo_ok X G (c.facts (f := .glo d.x) (List.mem_append_left _ (List.mem_map_of_mem (f := fun d : DefE => He.Fa.glo d.x) hd)))
  · exact He.free_ok X G (c.facts (f := .free x) (List.mem_append_right _ (List.mem_append_right _ (List.mem_map_of_mem hx))))
  · exact PySem.W.mg_of X G (He.eqO_ok (List.all_eq_true.mp m6 p hp))
  · obtain ⟨h1, h⟩ := He.ba (List.all_eq_true.mp m1 e he)
    obtain ⟨h2, h⟩ := He.ba h
    obtain ⟨h3, h4⟩ := He.ba h
    exact ⟨oexB_ok h1, He.eqO_ok h2, of_decide_eq_true h3, fun f hf => He.eqO_ok (List.all_eq_true.mp h4 f hf), hFi e he, (hFi e he).binds (hI e he)⟩
  · exact He.glo_ok X G (c.facts (f := .glo x) (List.mem_append_right _ (List.mem_append_left _ (List.mem_map_of_mem hx))))
  · obtain ⟨h1, h2⟩ := He.ba (List.all_eq_true.mp m2 x hx)
    exact ⟨xfB_ok h1, exiB_ok h2⟩
  · exact of_decide_eq_true (List.all_eq_true.mp m3 q hq)
  · exact of_decide_eq_true (List.all_eq_true.mp m4 q hq)
  · exact of_decide_eq_true (List.all_eq_true.mp m5 q hq)
end Pu
namespace Pu
open PySem PySem.Spec L2
theorem binds_any {K : PySem.W.Frag} {x qual : Str} {st : Stmt} {f : Addr} {fd : FuncData} {ps : List Str} (F : Fun K x qual st f fd) (h : BindE x qual st ps) (s : Shared) (us : List Value) (hl : us.length = ps.length) : BindsTo s fd ⟨us, []⟩ (ps.zip us) := by
  obtain ⟨oc, od, kV, doc, pm, an, cdv, ct, osl, rfl, lk, hcd⟩ := F.ex
  exact .of_eq (h kV doc pm an cdv ct us hl)
end Pu

set_option Elab.async false
set_option linter.all false
set_option maxRecDepth 100000
set_option maxHeartbeats 4000000
namespace Pu
open PySem PySem.Spec L2
/-! ### the end -/
theorem hide_nil {H : Hp} : hide [] H = H := funext fun a => hide_out (by simp)
theorem sp_law {K : PySem.W.Frag} {cA : String → Addr} {m : Fd} {H : Hp} {a : Addr} {ns : List Int} (h : SqL K H a (ns.map V.int)) (hl : m [.d (.list (ns.map PyData.int))] = .ret (.d (.bool true)) none) :
    spOf K cA 1 none m [.ref a] H (fun v _ => v = .bl true) fun _ _ _ => False := by
  refine ⟨[], [], ⟨[], []⟩, [.d (.list (ns.map PyData.int))], rfl, rfl, rfl, rfl, ?_, ?_⟩
  · refine ⟨rfl, fun i x e => ?_, fun i x e => ?_, fun i j x z a e1 => ?_, fun p hp => (by cases hp), fun b hb => ?_, fun p hp => (by cases hp), fun b hb => (by cases hb), fun p hp => (by cases hp), fun q hq => (by cases hq), fun i fs e => ?_⟩
    · cases i with
      | zero =>
        have e : some (some (LV.d (.list (ns.map PyData.int)))) = some (some (LV.d x)) := e
        cases e
        exact ⟨.ref a, rfl, .lst (by rw [show ([] : List Addr) ++ [] = [] from rfl, hide_nil]; exact h) (.of_ints ns)⟩
      | succ i => simp at e
    · cases i with
      | zero => cases e
      | succ i => simp at e
    · cases i with
      | zero => cases e1
      | succ i => simp at e1
    · rcases hb with hb | hb <;> cases hb
    · cases i with
      | zero => cases e
      | succ i => simp at e
  · rw [hl]
    intro O' w H' f r _
    exact Dp.bl_inv r
theorem walk_w {l : PySem.W.OpenLaw} {n k : Nat} {q : Program} {loose : List Str} {XP : (Str → Option Value) → Heap → Prop} {YP : World → Heap → Prop} {d : DefRec} {CX : World → CXT} {x : Str}
    (hn : l.most = some n) (hn2 : n ≤ sizeLine) (hdf : d.params.defaults = []) (hr : Room k callerA)
    (F : ∀ (w : World) (mg : Str → Option Value) (fa : Addr) (h : Heap), YP w h → h.Ns mainGlobals mg → mg d.name = some (.ref fa) →
      ∃ (K : PySem.W.Frag) (fd : FuncData) (sp : Sp), K.In h ∧ (∀ (s : Shared) (u : Value), BindsTo s fd ⟨[u], []⟩ [(x, u)]) ∧
        (∀ (H : Hp) (a : Addr) (ns : List Int), ns.length ≤ n → Only H → SqL K H a (ns.map V.int) → sp [.ref a] H (fun v _ => v = .bl true) fun _ _ _ => False) ∧
        ∀ base : Heap, K.In base → base.Ns mainGlobals mg → FnOk l.prog w K mg base (CX w) k fa fd [x] sp)
    (hCX : ∀ (w : World) (H : Hp) (s : Shared) (e : Value) (s' : Shared), CX w [] H s (fun _ _ _ => False) e s' → False) :
    PySem.W.WalkO q loose XP YP l.row.toRowW d [] (fun f vs => PySem.call f vs) := by
  refine Att.attach_call hn hdf fun w s₀ s₁ mg mb fa o pm cd doc a vs ns G Y ho hd hcd hmg hobj hints hlen hg => ?_
  obtain ⟨K, fd, sp, KX, hb, hsp, hF⟩ := F w mg fa _ Y G.T.g hmg
  exact law_call KX G.T.g G.T.b G.T.builtins G.T.nolimit hg hobj hints (Nat.le_trans hlen hn2) hr hF hb (fun H hO hS => hsp H a ns hlen hO hS) fun H e s' => hCX w H s₁ e s'
theorem cx_none {P : Program} {w : World} {H : Hp} {s : Shared} {e : Value} {s' : Shared} (h : L2.CX P w [] H s (fun _ _ _ => False) e s') : False := by
  obtain ⟨a, B, H', cls, d, _, _, _, _, _, _, _, z⟩ := h
  exact z
end Pu

set_option Elab.async false
set_option linter.all false
set_option maxRecDepth 100000
set_option maxHeartbeats 4000000
namespace Pu
open PySem PySem.Spec L2
/-! ### the meaning, statement by statement -/
theorem seq_nx {s t : S} {σ σ1 : Loc} (h : s σ = .nx σ1) : sSeq s t σ = t σ1 := by unfold sSeq; rw [h]; rfl
theorem seq_rt {s t : S} {σ σ1 : Loc} {v : LV} (h : s σ = .rt v σ1) : sSeq s t σ = .rt v σ1 := by unfold sSeq; rw [h]; rfl
theorem seq_rs {s t : S} {σ σ1 : Loc} {x : Ex} (h : s σ = .rs x σ1) : sSeq s t σ = .rs x σ1 := by unfold sSeq; rw [h]; rfl
theorem if_t {c : M Bool} {a b : S} {σ σ1 : Loc} (h : c σ = .ok true σ1) : sIf c a b σ = a σ1 := by unfold sIf; rw [h]; rfl
theorem if_f {c : M Bool} {a b : S} {σ σ1 : Loc} (h : c σ = .ok false σ1) : sIf c a b σ = b σ1 := by unfold sIf; rw [h]; rfl
theorem if_b {c : M Bool} {a b : S} {σ σ1 : Loc} {k : Bool} (h : c σ = .ok k σ1) : sIf c a b σ = if k = true then a σ1 else b σ1 := by unfold sIf; rw [h]; rfl
theorem set_ok {i : Nat} {m : M D} {σ σ1 : Loc} {d : D} (h : m σ = .ok d σ1) : sSet i m σ = .nx (σ1.set i (some (.d d))) := by unfold sSet sAsg; rw [h]; rfl
theorem setO_ok {i : Nat} {m : M OO} {σ σ1 : Loc} {o : OO} (h : m σ = .ok o σ1) : sSetO i m σ = .nx (σ1.set i (some (.o o))) := by unfold sSetO; rw [h]; rfl
theorem ret_ok {m : M D} {σ σ1 : Loc} {d : D} (h : m σ = .ok d σ1) : sRet m σ = .rt (.d d) σ1 := by unfold sRet; rw [h]; rfl
theorem retO_ok {m : M OO} {σ σ1 : Loc} {o : OO} (h : m σ = .ok o σ1) : sRetO m σ = .rt (.o o) σ1 := by unfold sRetO; rw [h]; rfl
theorem expr_ok {m : M D} {σ σ1 : Loc} {d : D} (h : m σ = .ok d σ1) : sExpr m σ = .nx σ1 := by unfold sExpr; rw [h]; rfl
theorem for_ok {m : M (List D)} {pt : Pt} {b : S} {σ σ1 : Loc} {ds : List D} (h : m σ = .ok ds σ1) : sFor m pt b σ = forD pt b ds σ1 := by unfold sFor; rw [h]; rfl
theorem def_rt {n : Nat} {body : S} {args : List LV} {v : LV} {σ : Loc} (h : body (pad n args) = .rt v σ) : mDef n none body args = .ret v none := by unfold mDef; rw [h]; rfl
theorem def_nx {n : Nat} {body : S} {args : List LV} {σ : Loc} (h : body (pad n args) = .nx σ) : mDef n none body args = .ret (.d .none) none := by unfold mDef; rw [h]; rfl
theorem def_rs {n : Nat} {body : S} {args : List LV} {x : Ex} {σ : Loc} (h : body (pad n args) = .rs x σ) : mDef n none body args = .raise x none := by unfold mDef; rw [h]; rfl
theorem defB_rt {n i : Nat} {body : S} {args : List LV} {v : LV} {σ : Loc} {o : OO} (h : body (pad n args) = .rt v σ) (ho : slotO σ i = some o) : mDef n (some i) body args = .ret v (some o) := by
  unfold mDef; rw [h]; show outOf (some i) σ (.ret v) = _; unfold outOf; simp only [ho]
theorem defB_nx {n i : Nat} {body : S} {args : List LV} {σ : Loc} {o : OO} (h : body (pad n args) = .nx σ) (ho : slotO σ i = some o) : mDef n (some i) body args = .ret (.d .none) (some o) := by
  unfold mDef; rw [h]; show outOf (some i) σ (.ret (.d .none)) = _; unfold outOf; simp only [ho]
/-! expressions -/
theorem bin_ok {α β γ : Type} {f : α → β → Option γ} {a : M α} {b : M β} {σ σ1 σ2 : Loc} {x : α} {y : β} {z : γ} (h1 : a σ = .ok x σ1) (h2 : b σ1 = .ok y σ2) (h3 : f x y = some z) : mBin f a b σ = .ok z σ2 := by
  unfold mBin; rw [h1]; show (b σ1).bind _ = _; rw [h2]; show ofO (f x y) σ2 = _; rw [h3]; rfl
theorem un_ok {α β : Type} {f : α → Option β} {a : M α} {σ σ1 : Loc} {x : α} {z : β} (h1 : a σ = .ok x σ1) (h3 : f x = some z) : mUn f a σ = .ok z σ1 := by
  unfold mUn; rw [h1]; show ofO (f x) σ1 = _; rw [h3]; rfl
theorem cons_ok {α : Type} {a : M α} {b : M (List α)} {σ σ1 σ2 : Loc} {x : α} {y : List α} (h1 : a σ = .ok x σ1) (h2 : b σ1 = .ok y σ2) : mCons a b σ = .ok (x :: y) σ2 := by
  unfold mCons; rw [h1]; show (b σ1).bind _ = _; rw [h2]; rfl
theorem cb_ok {f : List D → Option D} {m : M (List D)} {σ σ1 : Loc} {ds : List D} {z : D} (h1 : m σ = .ok ds σ1) (h3 : f ds = some z) : mCB f m σ = .ok z σ1 := by
  unfold mCB; rw [h1]; show ofO (f ds) σ1 = _; rw [h3]; rfl
theorem bool_ok {m : M D} {σ σ1 : Loc} {k : Bool} (h : m σ = .ok (.bool k) σ1) : mBool m σ = .ok k σ1 := by unfold mBool; rw [h]; rfl
theorem truD_ok {m : M D} {σ σ1 : Loc} {d : D} {k : Bool} (h : m σ = .ok d σ1) (h2 : truD d = some k) : mTruD m σ = .ok k σ1 := by unfold mTruD; rw [h]; show ofO (truD d) σ1 = _; rw [h2]; rfl
theorem own_ok {α : Type} {i : Nat} {f : List D → Option α} {σ : Loc} {xs : List D} {z : α} (h : slotL σ i = some xs) (h2 : f xs = some z) : mOwn i f σ = .ok z σ := by unfold mOwn; rw [h]; show ofO (f xs) σ = _; rw [h2]; rfl
theorem own1_ok {α : Type} {i : Nat} {f : List D → D → Option α} {mb : M D} {σ σ1 : Loc} {xs ys : List D} {b : D} {z : α} (h : slotL σ i = some xs) (hb : mb σ = .ok b σ1) (h1 : slotL σ1 i = some ys) (h2 : f ys b = some z) : mOwn1 i f mb σ = .ok z σ1 := by
  unfold mOwn1
  simp only [h, hb, ER.bind, h1, h2, ofO]
theorem put_ok {i : Nat} {mi m : M D} {σ σ1 σ2 : Loc} {d : D} {j : Int} {xs ys : List D} {n : Nat} (h : m σ = .ok d σ1) (h0 : slotL σ1 i = some xs) (h1 : mi σ1 = .ok (.int j) σ2) (h2 : slotL σ2 i = some ys) (h3 : ixN ys.length j = some n) : sPut i mi m σ = .nx (σ2.set i (some (.o (.lst (ys.set n d))))) := by
  unfold sPut
  simp only [h, ER.toS, h0, h1, h2, putStep, h3]
theorem and_ok {a b : M Bool} {σ σ1 : Loc} {k : Bool} (h : a σ = .ok k σ1) : mAnd a b σ = if k = true then b σ1 else .ok false σ1 := by unfold mAnd; rw [h]; rfl
theorem or_ok {a b : M Bool} {σ σ1 : Loc} {k : Bool} (h : a σ = .ok k σ1) : mOr a b σ = if k = true then .ok true σ1 else b σ1 := by unfold mOr; rw [h]; rfl
theorem not_ok {a : M Bool} {σ σ1 : Loc} {k : Bool} (h : a σ = .ok k σ1) : mNot a σ = .ok (!k) σ1 := by unfold mNot; rw [h]; rfl

/-! the operations on ints, as facts -/
theorem mul_f {i j : Int} (h : CMul i j) : fMul (.int i) (.int j) = some (.int (i * j)) := by unfold fMul; exact if_pos (.inl h)
theorem mod_f {i j : Int} (h : 0 < j) : fMod (.int i) (.int j) = some (.int (i % j)) := by unfold fMod; exact if_pos h
theorem div_f {i j : Int} (h : 0 < j) (h2 : j < 1073741824) : fDiv (.int i) (.int j) = some (.int (i / j)) := by unfold fDiv; exact if_pos ⟨h, .inl h2⟩
theorem pow_f {i j : Int} (h : CPow i j) : fPow (.int i) (.int j) = some (.int (i ^ j.toNat)) := by unfold fPow; exact if_pos h
theorem add_f {i j : Int} : fAdd (.int i) (.int j) = some (.int (i + j)) := rfl
theorem sub_f {i j : Int} : fSub (.int i) (.int j) = some (.int (i - j)) := rfl
theorem neg_f {i : Int} : fNeg (.int i) = some (.int (-i)) := rfl
theorem int_f {i : Int} : gInt [.int i] = some (.int i) := rfl
theorem intb_f {k : Bool} : gInt [.bool k] = some (.int (if k then 1 else 0)) := rfl
theorem abs_f {i : Int} : gAbs [.int i] = some (.int (if i < 0 then -i else i)) := rfl
theorem lenl_f {xs : List D} : gLen [.list xs] = some (.int xs.length) := rfl
theorem lent_f {xs : List D} : gLen [.tuple xs] = some (.int xs.length) := rfl
theorem lt_f {i j : Int} : fLt (.int i) (.int j) = some (.bool (decide (i < j))) := rfl
theorem le_f {i j : Int} : fLe (.int i) (.int j) = some (.bool (decide (i ≤ j))) := rfl
theorem gt_f {i j : Int} : fGt (.int i) (.int j) = some (.bool (decide (j < i))) := rfl
theorem ge_f {i j : Int} : fGe (.int i) (.int j) = some (.bool (decide (j ≤ i))) := rfl
theorem eq_f {i j : Int} : fEq (.int i) (.int j) = some (.bool (decide (i = j))) := rfl
theorem ne_f {i j : Int} : fNe (.int i) (.int j) = some (.bool (!decide (i = j))) := rfl
theorem ixl_f {xs : List D} {i : Nat} {d : D} (h : xs[i]? = some d) : fIx (.list xs) (.int i) = some d := by
  have hi := (List.getElem?_eq_some_iff.mp h).1
  show atI xs (i : Int) = _
  unfold atI ixN
  rw [if_pos (by omega), if_pos (by omega)]
  exact h
theorem ixt_f {xs : List D} {i : Nat} {d : D} (h : xs[i]? = some d) : fIx (.tuple xs) (.int i) = some d := ixl_f (xs := xs) h
theorem ixh_f {xs : List D} {i : Nat} {d : D} (h : xs[i]? = some d) : hIx xs (.int i) = some d := ixl_f (xs := xs) h
theorem putStep_f {i j : Nat} {d : D} {σ : Loc} {xs : List D} (h : j < xs.length) : putStep i d (.int j) σ xs = .nx (σ.set i (some (.o (.lst (xs.set j d))))) := by
  unfold putStep ixN
  simp only
  rw [if_pos (by omega), if_pos (by omega)]
  simp
end Pu

set_option Elab.async false
set_option linter.all false
set_option maxRecDepth 100000
set_option maxHeartbeats 4000000
namespace Pu
open PySem PySem.Spec L2
/-! ### what a run of statements ends in -/
structure Qs where
  n : Loc → Prop
  t : LV → Loc → Prop
  x : Ex → Loc → Prop
  b : Loc → Prop
  c : Loc → Prop
@[irreducible] def SR.P (r : SR) (q : Qs) : Prop := match r with
  | .nx σ => q.n σ | .rt v σ => q.t v σ | .rs x σ => q.x x σ | .bk σ => q.b σ | .ct σ => q.c σ | .stuck => False
section
variable {N : Loc → Prop} {T : LV → Loc → Prop} {X : Ex → Loc → Prop} {B C : Loc → Prop} {σ σ1 : Loc} {q : Qs}
theorem PNx : (SR.nx σ).P ⟨N, T, X, B, C⟩ = N σ := by unfold SR.P; rfl
theorem PRt {v : LV} : (SR.rt v σ).P ⟨N, T, X, B, C⟩ = T v σ := by unfold SR.P; rfl
theorem PRs {x : Ex} : (SR.rs x σ).P ⟨N, T, X, B, C⟩ = X x σ := by unfold SR.P; rfl
theorem PBk : (SR.bk σ).P ⟨N, T, X, B, C⟩ = B σ := by unfold SR.P; rfl
theorem PCt : (SR.ct σ).P ⟨N, T, X, B, C⟩ = C σ := by unfold SR.P; rfl
theorem P_stuck : SR.stuck.P q = False := by unfold SR.P; rfl
theorem P_cases {r : SR} (h : r.P q) : (∃ σ, r = .nx σ ∧ q.n σ) ∨ (∃ v σ, r = .rt v σ ∧ q.t v σ) ∨ (∃ x σ, r = .rs x σ ∧ q.x x σ) ∨ (∃ σ, r = .bk σ ∧ q.b σ) ∨ (∃ σ, r = .ct σ ∧ q.c σ) := by
  cases r <;> unfold SR.P at h
  · exact .inl ⟨_, rfl, h⟩
  · exact .inr (.inl ⟨_, _, rfl, h⟩)
  · exact .inr (.inr (.inr (.inl ⟨_, rfl, h⟩)))
  · exact .inr (.inr (.inr (.inr ⟨_, rfl, h⟩)))
  · exact .inr (.inr (.inl ⟨_, _, rfl, h⟩))
  · exact h.elim
theorem P_seq {s t : S} (h : ∀ K : Loc → Prop, (∀ σ1, (t σ1).P ⟨N, T, X, B, C⟩ → K σ1) → (s σ).P ⟨K, T, X, B, C⟩) : (sSeq s t σ).P ⟨N, T, X, B, C⟩ := by
  have h := h (fun σ1 => (t σ1).P ⟨N, T, X, B, C⟩) (fun _ z => z)
  unfold sSeq SR.andThen
  rcases P_cases h with ⟨σ1, e, h⟩ | ⟨v, σ1, e, h⟩ | ⟨x, σ1, e, h⟩ | ⟨σ1, e, h⟩ | ⟨σ1, e, h⟩ <;> rw [e]
  · exact h
  · rw [PRt]; exact h
  · rw [PRs]; exact h
  · rw [PBk]; exact h
  · rw [PCt]; exact h
theorem P_seq' {s t : S} (h : (s σ).P ⟨fun σ1 => (t σ1).P ⟨N, T, X, B, C⟩, T, X, B, C⟩) : (sSeq s t σ).P ⟨N, T, X, B, C⟩ := by
  unfold sSeq SR.andThen
  rcases P_cases h with ⟨σ1, e, h⟩ | ⟨v, σ1, e, h⟩ | ⟨x, σ1, e, h⟩ | ⟨σ1, e, h⟩ | ⟨σ1, e, h⟩ <;> rw [e]
  · exact h
  · rw [PRt]; exact h
  · rw [PRs]; exact h
  · rw [PBk]; exact h
  · rw [PCt]; exact h
theorem P_if {c : M Bool} {a b : S} {k : Bool} (h : c σ = .ok k σ1) (ht : k = true → (a σ1).P q) (hf : k = false → (b σ1).P q) : (sIf c a b σ).P q := by
  unfold sIf; rw [h]
  cases k
  · exact hf rfl
  · exact ht rfl
theorem P_mono {r : SR} {N' : Loc → Prop} {T' : LV → Loc → Prop} {X' : Ex → Loc → Prop} {B' C' : Loc → Prop} (h : r.P ⟨N, T, X, B, C⟩) (hN : ∀ σ, N σ → N' σ) (hT : ∀ v σ, T v σ → T' v σ) (hX : ∀ x σ, X x σ → X' x σ) (hB : ∀ σ, B σ → B' σ) (hC : ∀ σ, C σ → C' σ) : r.P ⟨N', T', X', B', C'⟩ := by
  rcases P_cases h with ⟨σ1, rfl, h'⟩ | ⟨v, σ1, rfl, h'⟩ | ⟨x, σ1, rfl, h'⟩ | ⟨σ1, rfl, h'⟩ | ⟨σ1, rfl, h'⟩
  · rw [PNx]; exact hN _ h'
  · rw [PRt]; exact hT _ _ h'
  · rw [PRs]; exact hX _ _ h'
  · rw [PBk]; exact hB _ h'
  · rw [PCt]; exact hC _ h'
/-- a for by an invariant; an end by break leads to B' -/
theorem P_forD {pt : Pt} {body : S} (I : Nat → Loc → Prop) : ∀ (ds : List D) (k : Nat) {σ : Loc}, I k σ →
    (∀ i d σ, ds[i]? = some d → I (k + i) σ → ∃ σ1, pt d σ = some σ1 ∧ (body σ1).P ⟨I (k + i + 1), T, X, N, I (k + i + 1)⟩) → (∀ σ, I (k + ds.length) σ → N σ) → (forD pt body ds σ).P ⟨N, T, X, B, C⟩
  | [], k, σ, h0, _, he => by unfold forD; rw [PNx]; exact he σ h0
  | d :: ds, k, σ, h0, hs, he => by
    obtain ⟨σ1, e1, e2⟩ := hs 0 d σ rfl h0
    unfold forD
    rw [e1]
    show ((body σ1).turn (forD pt body ds)).P _
    have go : ∀ σ', I (k + 1) σ' → (forD pt body ds σ').P ⟨N, T, X, B, C⟩ := fun σ' h => P_forD I ds (k + 1) h (fun i d σ q z => by
      have := hs (i + 1) d σ q (by rw [show k + (i + 1) = k + 1 + i from by omega]; exact z)
      rw [show k + (i + 1) + 1 = k + 1 + i + 1 from by omega] at this; exact this) (fun σ z => he σ (by rw [List.length_cons, show k + (ds.length + 1) = k + 1 + ds.length from by omega]; exact z))
    rcases P_cases e2 with ⟨σ1, e, h⟩ | ⟨v, σ1, e, h⟩ | ⟨x, σ1, e, h⟩ | ⟨σ1, e, h⟩ | ⟨σ1, e, h⟩ <;> rw [e]
    · exact go _ h
    · show (SR.rt v σ1).P _; rw [PRt]; exact h
    · show (SR.rs x σ1).P _; rw [PRs]; exact h
    · show (SR.nx σ1).P _; rw [PNx]; exact h
    · exact go _ h
theorem P_for {m : M (List D)} {pt : Pt} {body : S} {ds : List D} (h : m σ = .ok ds σ1) (I : Nat → Loc → Prop) (h0 : I 0 σ1)
    (hs : ∀ i d σ, ds[i]? = some d → I i σ → ∃ σ1, pt d σ = some σ1 ∧ (body σ1).P ⟨I (i + 1), T, X, N, I (i + 1)⟩) (he : ∀ σ, I ds.length σ → N σ) : (sFor m pt body σ).P ⟨N, T, X, B, C⟩ := by
  unfold sFor; rw [h]
  refine P_forD I ds 0 h0 (fun i d σ e z => ?_) (fun σ z => he σ (by rw [Nat.zero_add] at z; exact z))
  rw [Nat.zero_add] at z ⊢
  exact hs i d σ e z
/-- a while by a measure -/
theorem P_while {c : M Bool} {body : S} (I : Loc → Nat → Prop) : ∀ (fuel n : Nat) {σ : Loc}, n < fuel → I σ n →
    (∀ n σ, I σ n → (c σ = .ok false σ ∧ N σ) ∨ (c σ = .ok true σ ∧ (body σ).P ⟨fun σ' => ∃ m, m < n ∧ I σ' m, T, X, N, fun σ' => ∃ m, m < n ∧ I σ' m⟩)) → (whileD c body fuel σ).P ⟨N, T, X, B, C⟩
  | 0, n, σ, h, _, _ => absurd h (Nat.not_lt_zero n)
  | fuel + 1, n, σ, h, h0, hs => by
    unfold whileD
    rcases hs n σ h0 with ⟨e, h1⟩ | ⟨e, h1⟩
    · rw [e]; show (SR.nx σ).P _; rw [PNx]; exact h1
    · rw [e]
      show ((body σ).turn (whileD c body fuel)).P _
      rcases P_cases h1 with ⟨σ1, eb, h⟩ | ⟨v, σ1, eb, h⟩ | ⟨x, σ1, eb, h⟩ | ⟨σ1, eb, h⟩ | ⟨σ1, eb, h⟩ <;> rw [eb]
      · obtain ⟨m, hm, hi⟩ := h
        exact P_while I fuel m (by omega) hi hs
      · show (SR.rt v σ1).P _; rw [PRt]; exact h
      · show (SR.rs x σ1).P _; rw [PRs]; exact h
      · show (SR.nx σ1).P _; rw [PNx]; exact h
      · obtain ⟨m, hm, hi⟩ := h
        exact P_while I fuel m (by omega) hi hs
end
/-! a def -/
@[irreducible] def CRes.P (r : CRes) (R : LV → Option OO → Prop) (X : Ex → Option OO → Prop) : Prop := match r with
  | .ret v o => R v o | .raise x o => X x o | .stuck => False
theorem CRet {v : LV} {o : Option OO} {R : LV → Option OO → Prop} {X : Ex → Option OO → Prop} : (CRes.ret v o).P R X = R v o := by unfold CRes.P; rfl
theorem CRaise {x : Ex} {o : Option OO} {R : LV → Option OO → Prop} {X : Ex → Option OO → Prop} : (CRes.raise x o).P R X = X x o := by unfold CRes.P; rfl
def outP (b : Option Nat) (σ : Loc) (k : Option OO → Prop) : Prop := match b with
  | none => k none
  | some i => ∃ x, slotO σ i = some x ∧ k (some x)
theorem outP_n {σ : Loc} {k : Option OO → Prop} : outP none σ k = k none := rfl
theorem outP_s {σ : Loc} {i : Nat} {k : Option OO → Prop} {x : OO} (h : slotO σ i = some x) (hk : k (some x)) : outP (some i) σ k := ⟨x, h, hk⟩
section
variable {R : LV → Option OO → Prop} {X : Ex → Option OO → Prop}
theorem outOf_P {b : Option Nat} {σ : Loc} {f : Option OO → CRes} {k : Option OO → Prop} (h : outP b σ k) (hf : ∀ o, k o → (f o).P R X) : (outOf b σ f).P R X := by
  cases b with
  | none => exact hf _ h
  | some i => obtain ⟨x, e, hk⟩ := h; unfold outOf; simp only [e]; exact hf _ hk
theorem def_P {n : Nat} {b : Option Nat} {body : S} {args : List LV} (h : (body (pad n args)).P ⟨fun σ => outP b σ (R (.d .none)), fun v σ => outP b σ (R v), fun x σ => outP b σ (X x), fun _ => False, fun _ => False⟩) : (mDef n b body args).P R X := by
  unfold mDef
  rcases P_cases h with ⟨σ1, e, h⟩ | ⟨v, σ1, e, h⟩ | ⟨x, σ1, e, h⟩ | ⟨σ1, e, h⟩ | ⟨σ1, e, h⟩ <;> rw [e]
  · exact outOf_P h fun _ z => by rw [CRet]; exact z
  · exact outOf_P h fun _ z => by rw [CRet]; exact z
  · exact outOf_P h fun _ z => by rw [CRaise]; exact z
  · exact h.elim
  · exact h.elim
theorem P_ret {r : CRes} (h : r.P R (fun _ _ => False)) : ∃ v o, r = .ret v o ∧ R v o := by
  cases r with
  | ret v o => rw [CRet] at h; exact ⟨v, o, rfl, h⟩
  | raise x o => rw [CRaise] at h; exact h.elim
  | stuck => unfold CRes.P at h; exact h.elim
theorem P_eq {r : CRes} {v : LV} {o : Option OO} (h : r.P (fun a b => a = v ∧ b = o) (fun _ _ => False)) : r = .ret v o := by
  obtain ⟨_, _, e, rfl, rfl⟩ := P_ret h; exact e
theorem P_raise {r : CRes} {x : Ex} {o : Option OO} (h : r.P (fun _ _ => False) (fun a b => a = x ∧ b = o)) : r = .raise x o := by
  cases r with
  | ret v o => rw [CRet] at h; exact h.elim
  | raise x o => rw [CRaise] at h; obtain ⟨rfl, rfl⟩ := h; rfl
  | stuck => unfold CRes.P at h; exact h.elim
end
theorem mNil_ap {α : Type} {σ : Loc} : (mNil : M (List α)) σ = .ok [] σ := rfl
theorem gNilA_ap {σ : Loc} : gNilA σ = .ok [] σ := rfl
theorem sSet_ap {i : Nat} {m : M D} {σ : Loc} : sSet i m σ = sAsg m (pName i) σ := rfl
theorem pName_ap {i : Nat} {d : D} {σ : Loc} : pName i d σ = some (σ.set i (some (.d d))) := rfl
theorem range1_ok {ms : M (List D)} {σ σ1 : Loc} {n : Int} (h : ms σ = .ok [.int n] σ1) (h0 : 0 ≤ n) (h1 : n < 1000000000) : mRange1 ms σ = .ok (rangeD 0 n.toNat) σ1 := by
  unfold mRange1; rw [h]
  show (if _ then _ else _) = _
  rw [if_pos ⟨by omega, by omega⟩]
theorem range2_ok {ms : M (List D)} {σ σ1 : Loc} {n m : Int} (h : ms σ = .ok [.int n, .int m] σ1) (h0 : -1000000000 < n) (h1 : n < 1000000000) (h2 : -1000000000 < m) (h3 : m < 1000000000) : mRange2 ms σ = .ok (rangeD n (m - n).toNat) σ1 := by
  unfold mRange2; rw [h]
  show (if _ then _ else _) = _
  rw [if_pos ⟨by omega, by omega, by omega, by omega⟩]
theorem permL1 {α : Type} {a : α} : permL [0] [a] = [a] := rfl
theorem permL2 {α : Type} {a b : α} : permL [1, 0] [a, b] = [b, a] := rfl
theorem isTup_t {xs : List D} : isTup (.tuple xs) = true := rfl
theorem forD_n {pt : Pt} {b : S} {σ : Loc} : forD pt b [] σ = .nx σ := rfl
theorem forD_c {pt : Pt} {b : S} {d : D} {ds : List D} {σ : Loc} : forD pt b (d :: ds) σ = (ofS (pt d σ)).andThen fun σ1 => (b σ1).turn (forD pt b ds) := rfl
theorem turn_nx {r : Loc → SR} {σ : Loc} : (SR.nx σ).turn r = r σ := rfl
theorem turn_bk {r : Loc → SR} {σ : Loc} : (SR.bk σ).turn r = .nx σ := rfl
theorem turn_rt {r : Loc → SR} {v : LV} {σ : Loc} : (SR.rt v σ).turn r = .rt v σ := rfl
theorem turn_rs {r : Loc → SR} {v : Ex} {σ : Loc} : (SR.rs v σ).turn r = .rs v σ := rfl
theorem tup0 (a b : D) : fIx (.tuple [a, b]) (.int 0) = some a := rfl
theorem tup1 (a b : D) : fIx (.tuple [a, b]) (.int 1) = some b := rfl
/-! lists made -/
theorem comp_inv {pt : Pt} {t : M Bool} {me : M D} {vs : List Nat} (I : Loc → Prop) (P : D → Prop) : ∀ (ds acc : List D) (σ : Loc), I σ →
    (∀ d ∈ ds, ∀ σ, I σ → ∃ σ1 σ2 σ3 v, pt d σ = some σ1 ∧ t σ1 = .ok true σ2 ∧ me σ2 = .ok v σ3 ∧ P v ∧ I (dropS vs σ3)) → ∃ ws σ', compD pt t me vs ds acc σ = .ok (.lst (acc ++ ws)) σ' ∧ I σ' ∧ ws.length = ds.length ∧ ∀ w ∈ ws, P w
  | [], acc, σ, h0, _ => ⟨[], σ, by rw [List.append_nil]; rfl, h0, rfl, fun _ h => by cases h⟩
  | d :: ds, acc, σ, h0, hs => by
    obtain ⟨σ1, σ2, σ3, v, e1, e2, e3, hp, hi⟩ := hs d (List.mem_cons_self ..) σ h0
    obtain ⟨ws, σ', e, hi', hl, hw⟩ := comp_inv I P ds (acc ++ [v]) (dropS vs σ3) hi fun d h => hs d (List.mem_cons_of_mem _ h)
    refine ⟨v :: ws, σ', ?_, hi', by rw [List.length_cons, List.length_cons, hl], fun w h => ?_⟩
    · unfold compD
      simp only [e1, e2, e3, ER.calm, ER.bind, if_true, e, List.append_assoc, List.singleton_append]
    · rcases List.mem_cons.mp h with h | h
      · rw [h]; exact hp
      · exact hw w h
/-- .. with no trace but the value of each -/
theorem comp_map {pt : Pt} {t : M Bool} {me : M D} {vs : List Nat} {σ : Loc} (f : D → D) : ∀ (ds acc : List D), (∀ d ∈ ds, ∃ σ1 σ2 σ3, pt d σ = some σ1 ∧ t σ1 = .ok true σ2 ∧ me σ2 = .ok (f d) σ3 ∧ dropS vs σ3 = σ) → compD pt t me vs ds acc σ = .ok (.lst (acc ++ ds.map f)) σ
  | [], acc, _ => by rw [List.map_nil, List.append_nil]; rfl
  | d :: ds, acc, hs => by
    obtain ⟨σ1, σ2, σ3, e1, e2, e3, e4⟩ := hs d (List.mem_cons_self ..)
    unfold compD
    simp only [e1, e2, e3, ER.calm, ER.bind, if_true, e4]
    rw [comp_map f ds (acc ++ [f d]) fun d h => hs d (List.mem_cons_of_mem _ h), List.append_assoc, List.singleton_append, List.map_cons]
theorem comp_filter {pt : Pt} {t : M Bool} {me : M D} {vs : List Nat} {σ : Loc} (g : D → Bool) (f : D → D) : ∀ (ds acc : List D), (∀ d ∈ ds, ∃ σ1 σ2, pt d σ = some σ1 ∧ t σ1 = .ok (g d) σ2 ∧ (g d = false → dropS vs σ2 = σ) ∧ (g d = true → ∃ σ3, me σ2 = .ok (f d) σ3 ∧ dropS vs σ3 = σ)) → compD pt t me vs ds acc σ = .ok (.lst (acc ++ (ds.filter g).map f)) σ
  | [], acc, _ => by rw [List.filter_nil, List.map_nil, List.append_nil]; rfl
  | d :: ds, acc, hs => by
    obtain ⟨σ1, σ2, e1, e2, e3, e4⟩ := hs d (List.mem_cons_self ..)
    unfold compD
    simp only [e1, e2, ER.calm, ER.bind]
    cases hg : g d with
    | false =>
      rw [if_neg (by simp), e3 hg, comp_filter g f ds acc fun d h => hs d (List.mem_cons_of_mem _ h), List.filter_cons_of_neg (by simp [hg])]
    | true =>
      obtain ⟨σ3, e5, e6⟩ := e4 hg
      rw [if_pos rfl, e5]
      simp only [ER.calm, ER.bind]
      rw [e6, comp_filter g f ds (acc ++ [f d]) fun d h => hs d (List.mem_cons_of_mem _ h), List.append_assoc, List.singleton_append, List.filter_cons_of_pos hg, List.map_cons]
theorem rangeD_mem {lo : Int} {n : Nat} {d : D} (h : d ∈ rangeD lo n) : ∃ i : Nat, i < n ∧ d = .int (lo + i) := by
  unfold rangeD at h
  obtain ⟨i, hi, e⟩ := List.mem_map.mp h
  exact ⟨i, List.mem_range.mp hi, e.symm⟩
end Pu

set_option Elab.async false
set_option linter.all false
set_option maxRecDepth 100000
set_option maxHeartbeats 400000
namespace Pu
open PySem PySem.Spec L2
/-! ints and lists, by themselves -/
theorem ddI_nodup : ∀ l : List Int, (ddI l).Nodup
  | [] => List.nodup_nil
  | i :: r => by
    unfold ddI
    by_cases h : i ∈ ddI r
    · rw [if_pos h]; exact ddI_nodup r
    · rw [if_neg h]; exact List.nodup_cons.mpr ⟨h, ddI_nodup r⟩
def rngI (n : Nat) : List Int := (List.range n).map fun i => (1 + (i : Nat) : Int)
theorem rngI_len (n : Nat) : (rngI n).length = n := by unfold rngI; rw [List.length_map, List.length_range]
theorem rngI_mem (n : Nat) (x : Int) : x ∈ rngI n ↔ 1 ≤ x ∧ x < n + 1 := by
  unfold rngI
  rw [List.mem_map]
  refine ⟨?_, fun h => ⟨(x - 1).toNat, List.mem_range.mpr (by omega), by omega⟩⟩
  rintro ⟨i, hi, rfl⟩
  have := List.mem_range.mp hi
  omega
theorem rngI_nodup (n : Nat) : (rngI n).Nodup := by
  unfold rngI List.Nodup
  rw [List.pairwise_map]
  exact (List.nodup_range (n := n)).imp fun h => by omega
/-- as many kinds as there may be: all are there -/
theorem covers {l : List Int} (hn : l.Nodup) {n : Nat} (hs : ∀ x ∈ l, 1 ≤ x ∧ x < n + 1) : l.length = n ↔ ∀ x : Int, 1 ≤ x → x < n + 1 → x ∈ l := by
  constructor
  · intro hl x h1 h2
    refine Decidable.byContradiction fun hx => ?_
    have : (x :: l).length ≤ (rngI n).length := List.Nodup.length_le_of_subset (List.nodup_cons.mpr ⟨hx, hn⟩) fun z hz => by
      rw [rngI_mem]
      rcases List.mem_cons.mp hz with e | e
      · subst e; exact ⟨h1, h2⟩
      · exact hs z e
    rw [rngI_len, List.length_cons] at this
    omega
  · intro h
    have h1 : l.length ≤ (rngI n).length := List.Nodup.length_le_of_subset hn fun z hz => (rngI_mem n z).mpr (hs z hz)
    have h2 : (rngI n).length ≤ l.length := List.Nodup.length_le_of_subset (rngI_nodup n) fun z hz => h z ((rngI_mem n z).mp hz).1 ((rngI_mem n z).mp hz).2
    rw [rngI_len] at h1 h2
    omega
theorem foldl_min_le : ∀ (l : List Int) (n b : Int), b ≤ l.foldl min n ↔ b ≤ n ∧ ∀ x ∈ l, b ≤ x
  | [], n, b => by simp
  | x :: r, n, b => by
    rw [List.foldl_cons, foldl_min_le r (min n x) b, Int.le_min]
    simp only [List.mem_cons, forall_eq_or_imp]
    exact ⟨fun h => ⟨h.1.1, h.1.2, h.2⟩, fun h => ⟨⟨h.1, h.2.1⟩, h.2.2⟩⟩
theorem foldl_max_lt : ∀ (l : List Int) (n b : Int), l.foldl max n < b ↔ n < b ∧ ∀ x ∈ l, x < b
  | [], n, b => by simp
  | x :: r, n, b => by
    rw [List.foldl_cons, foldl_max_lt r (max n x) b, Int.max_lt]
    simp only [List.mem_cons, forall_eq_or_imp]
    exact ⟨fun h => ⟨h.1.1, h.1.2, h.2⟩, fun h => ⟨⟨h.1, h.2.1⟩, h.2.2⟩⟩
theorem gcd_emod {a b : Int} : Nat.gcd a.natAbs b.natAbs = Nat.gcd b.natAbs (a % b).natAbs := by
  have e : a = a % b + b * (a / b) := (Int.emod_add_mul_ediv a b).symm
  have := Int.gcd_add_mul_left_left (m := b) (n := a % b) (k := a / b)
  rw [← e] at this
  rw [Nat.gcd_comm b.natAbs]
  exact this
/-- Euclid -/
def euc : Nat → Int → Int → Int
  | 0, a, _ => a
  | n + 1, a, b => if b = 0 then a else euc n b (a % b)
theorem euc_gcd : ∀ (n : Nat) (a b : Int), 0 ≤ b → b < 2 ^ (n / 2) → ((euc n a b).natAbs = Nat.gcd a.natAbs b.natAbs)
  | 0, a, b, h0, h1 => by
    have : b = 0 := by simp at h1; omega
    subst this
    simp [euc]
  | 1, a, b, h0, h1 => by
    have : b = 0 := by simp at h1; omega
    subst this
    simp [euc]
  | n + 2, a, b, h0, h1 => by
    unfold euc
    by_cases hb : b = 0
    · subst hb; simp
    · rw [if_neg hb]
      unfold euc
      have hr0 : 0 ≤ a % b := Int.emod_nonneg _ hb
      have hr1 : a % b < b := Int.emod_lt_of_pos _ (by omega)
      have g1 : Nat.gcd a.natAbs b.natAbs = Nat.gcd b.natAbs (a % b).natAbs := gcd_emod
      by_cases hc : a % b = 0
      · rw [if_pos hc, g1, hc]; simp
      · rw [if_neg hc]
        have hs0 : 0 ≤ b % (a % b) := Int.emod_nonneg _ hc
        have hs1 : b % (a % b) < a % b := Int.emod_lt_of_pos _ (by omega)
        have g2 : Nat.gcd b.natAbs (a % b).natAbs = Nat.gcd (a % b).natAbs (b % (a % b)).natAbs := gcd_emod
        have half : 2 * (b % (a % b)) < b := by
          have e := Int.emod_add_mul_ediv b (a % b)
          have hq : 1 ≤ b / (a % b) := by
            apply (Int.le_ediv_iff_mul_le (by omega)).mpr; omega
          have : a % b ≤ (a % b) * (b / (a % b)) := by
            have := Int.mul_le_mul_of_nonneg_left hq (show 0 ≤ a % b by omega)
            omega
          omega
        rw [g1, g2]
        refine euc_gcd n _ _ hs0 ?_
        have e2 : (2 : Int) ^ ((n + 2) / 2) = 2 ^ (n / 2) * 2 := by
          rw [show (n + 2) / 2 = n / 2 + 1 from by omega, Int.pow_succ]
        omega
/-! lists of one kind -/
theorem uAppend_ok {xs : List D} {a : D} (h : xs.length < 1000000) : uAppend xs [a] = some (.none, xs ++ [a]) := by unfold uAppend; exact if_pos h
theorem rep1 (n : Nat) (x : D) (h : n ≤ 1000000) : fRepL (.list [x]) (.int n) = some (List.replicate n x) := by
  show (if _ then _ else _) = _
  rw [if_pos ⟨by omega, by omega, by rw [List.length_cons, List.length_nil, Int.toNat_natCast]; omega⟩, Int.toNat_natCast]
  unfold repD
  rw [List.flatten_replicate_singleton]
theorem seq1_l (xs : List D) : seq1 [.list xs] = some xs := rfl
theorem seq1_t (xs : List D) : seq1 [.tuple xs] = some xs := rfl
/-- the place of an index -/
theorem ixN_ok {n : Nat} {i : Int} (h0 : 0 ≤ i) (h1 : i < n) : ixN n i = some i.toNat := by unfold ixN; rw [if_pos h0, if_pos h1]
theorem hix_ok {xs : List D} {i : Int} {d : D} (h0 : 0 ≤ i) (h : xs[i.toNat]? = some d) : hIx xs (.int i) = some d := by
  have hl := (List.getElem?_eq_some_iff.mp h).1
  show atI xs i = _
  unfold atI
  rw [ixN_ok h0 (by omega)]
  exact h
theorem fixl_ok {xs : List D} {i : Int} {d : D} (h0 : 0 ≤ i) (h : xs[i.toNat]? = some d) : fIx (.list xs) (.int i) = some d := hix_ok h0 h
theorem fixt_ok {xs : List D} {i : Int} {d : D} (h0 : 0 ≤ i) (h : xs[i.toNat]? = some d) : fIx (.tuple xs) (.int i) = some d := hix_ok h0 h
theorem put_okI {i : Nat} {j : Int} {d : D} {σ : Loc} {xs : List D} (h0 : 0 ≤ j) (h : j < xs.length) : putStep i d (.int j) σ xs = .nx (σ.set i (some (.o (.lst (xs.set j.toNat d))))) := by
  unfold putStep
  simp only [ixN_ok h0 h]
end Pu

set_option Elab.async false
set_option linter.all false
set_option maxRecDepth 100000
set_option maxHeartbeats 4000000
/-! sorted(t) where t is a tuple of ints -/
namespace SrtQ
open PySem PyProof.Rows Srt SrtO
open AutoSeq1 (wpAny_loadPart')
section
variable {prog : Program} {w : World} {A : Around} {E : Value → Shared → Prop} {s : Shared}
/-- a tuple taken into a list, with the heap that it leaves -/
theorem take_tup {Q : List Value → Shared → Prop} {l : Addr} {vs : List Value} (hl : IsTup s.heap l vs.toArray) (hz : vs.length ≤ sizeLine)
    (hQ : Q vs { s with heap := (s.heap.push (seqObj "list" #[] 0)).update s.heap.objs.size (Obj.mapSeq (· ++ vs.toArray)) }) : wpAny (model prog w) A (collect (.ref l)) Q E s := by
  obtain ⟨o, ho, hc, n, hd⟩ := hl
  unfold collect; refine wpAny_bind (wpAny_runValue (codeAny_builtin F.entry_proto_collect ?_)); rw [Around.under_plainId F.plain_proto_collect _]
  show wpAny _ A.in1 (newList [] >>= fun q => again (.builtin "list.__iadd__" ⟨[q, .ref l], []⟩)) _ _ s; refine wpAny_bind (wpAny_newObj_type ?_)
  refine wpAny_pure ⟨plainId_quiet F.plain_list_iadd _, codeAny_builtin F.entry_list_iadd ?_⟩; rw [Around.under_plainId F.plain_list_iadd _]
  show wpAny _ A.in1 (Builtin.List.listExtendWith (.ref s.heap.objs.size) (.ref l) (.ref s.heap.objs.size)) _ _ { s with heap := s.heap.push (seqObj "list" #[] 0) }
  have h1 : (s.heap.push (seqObj "list" #[] 0)).get? s.heap.objs.size = some (seqObj "list" #[] 0) := Heap.get?_push_size _ rfl
  have h2 := Heap.get?_update_self (Obj.mapSeq (· ++ vs.toArray)) h1 rfl
  have last : wpAny (model prog w) A (match Value.ref s.heap.objs.size with | Value.ref a => (do match (← load a).data with | Data.seq xs _ => pure xs.toList | _ => unsupported "internal:collect") | _ => unsupported "internal:collect") Q E
      { s with heap := (s.heap.push (seqObj "list" #[] 0)).update s.heap.objs.size (Obj.mapSeq (· ++ vs.toArray)) } := by
    show wpAny _ A (load s.heap.objs.size >>= _) _ _ _; refine wpAny_bind (wpAny_load h2 (wpAny_pure ?_))
    show Q ((#[] : Array Value) ++ vs.toArray).toList _; rw [show ((#[] : Array Value) ++ vs.toArray).toList = vs by simp]; exact hQ
  refine wpAny_mono (wpAny_extend_seq (hsz := by rw [List.size_toArray]; exact hz) (A := A) (R := fun r s' => r = .ok (.ret (.ref s.heap.objs.size)) ∧ s' = { s with heap := (s.heap.push (seqObj "list" #[] 0)).update s.heap.objs.size (Obj.mapSeq (· ++ vs.toArray)) })
    (s := { s with heap := s.heap.push (seqObj "list" #[] 0) }) _ l _ 0 (.inr rfl) h1 (Heap.get?_push_of_some _ ho) hc hd ⟨rfl, rfl⟩) (fun fin s' h => ?_) (fun e s' h => absurd h.1 (by simp))
  cases fin with
  | done f => obtain ⟨e, rfl⟩ := h; cases e; exact last
  | again c' => exact ⟨h.1, codeAny_mono h.2 fun r s'' hr => by obtain ⟨rfl, rfl⟩ := hr; exact last⟩
theorem sorted_tup {l : Addr} {vs : List Value} {ltv : Value → Value → Bool} {Q : Value → Shared → Prop} (O : Swo ltv) (hl : IsTup s.heap l vs.toArray) (hz : vs.length ≤ sizeLine)
    (hS : 2 ≤ vs.length → ∀ (h₁ : Heap) (a : Addr), SortableO prog w A.in1.in1 { s with heap := h₁ } a vs ltv) (h : ∀ out : List Value, Srtd ltv out → Stb ltv out vs → Q (.ref (s.heap.objs.size + 1)) { s with heap := sortedAll s.heap vs out.toArray }) :
    wpAny (model prog w) A (call (.builtin "sorted") [.ref l]) Q E s := by
  refine Calls.call_function_entry kind_sorted plain_sorted entry_sorted (args_sorted1 _) ?_; unfold Builtin.«sorted»
  refine wpAny_bind (m := checkCount "sorted" 1 1 _) (wpAny_pure ?_); refine wpAny_bind (take_tup hl hz ?_); refine wpAny_bind (wpAny_newList ?_ hz)
  have e : ((s.heap.push (seqObj "list" #[] 0)).update s.heap.objs.size (Obj.mapSeq (· ++ vs.toArray))).objs.size = s.heap.objs.size + 1 := by rw [Heap.size_update, size_push']
  have h1 : (((s.heap.push (seqObj "list" #[] 0)).update s.heap.objs.size (Obj.mapSeq (· ++ vs.toArray))).push (seqObj "list" vs.toArray 0)).get? (s.heap.objs.size + 1) = some (seqObj "list" vs.toArray 0) := by rw [← e]; exact Heap.get?_push_size _ rfl
  show wpAny _ _ _ _ _ { s with heap := ((s.heap.push (seqObj "list" #[] 0)).update s.heap.objs.size (Obj.mapSeq (· ++ vs.toArray))).push (seqObj "list" vs.toArray 0) }; rw [e]
  refine wpAny_bind (wpAny_holding (wpAny_call_entry slot_list_sort ⟨_, h1, rfl⟩ entry_list_sort (list_sort_ord O h1 hz (fun h2 => hS h2 _ _) fun out hs hb => ⟨_, rfl, wpAny_pure ⟨_, rfl, h out hs hb⟩⟩) (args_list_sort _)))
end
end SrtQ
namespace L2
open PySem PySem.Spec PyProof.Rows
/-- sorted(xs), ints, of a list or of a tuple -/
def rSortedQ (K : PySem.W.Frag) : List V → Hp → VK → Prop := fun vs H Q => ∃ (a : Addr) (ns : List Int), vs = [V.ref a] ∧ (SqL K H a (ns.map V.int) ∨ SqT K H a (ns.map V.int)) ∧
  ∀ (ns' : List Int) (p : Addr), ns'.Perm ns → ns'.Pairwise (· ≤ ·) → H p = none → Q (.ref p) (upd H p (.lst (ns'.map V.int)))
theorem cr_sortedQ {X : Cx} : CallR X (.builtin "sorted") (rSortedQ X.K) := by
  intro pins s σ H vs us Q I r h
  obtain ⟨a, ns, rfl, hs | hs, q⟩ := h
  · exact cr_sortedI pins s σ H _ us Q I r ⟨a, ns, rfl, hs, q⟩
  · obtain ⟨its, rv, hl, hz⟩ := I.tuple hs
    rw [Vals.ref1 r]
    have hi := rv.ints
    refine SrtQ.sorted_tup SrtO.swo_int hl (by rw [← rv.length]; exact hz) (fun h2 _ _ => SrtO.ints_sortable hi h2) fun out h1 h2 => ?_
    obtain ⟨k1, k2, k3⟩ := SrtO.ints_out hi h1 h2
    obtain ⟨ep, he'⟩ := PyProof.Rows.sortedAll_at s.heap its out.toArray
    have hle : ((out.map SrtO.iv).map V.int).length ≤ sizeLine := by rw [List.length_map, k2.length_eq]; rw [List.length_map] at hz; exact hz
    refine ⟨.ref _, upd H (s.heap.objs.size + 1) (.lst ((out.map SrtO.iv).map V.int)), ?_, rfl, q _ _ k2 k3 (I.hok.fresh (Nat.le_succ _))⟩
    exact I.laid (t' := s.toks) (fun _ _ => PyProof.Rows.sortedAll_old) (Nat.le_succ _) ⟨hle, out, ep, vals_of_ints k1, he'⟩
end L2
namespace Pu
open PySem PySem.Spec L2
section
variable {K : PySem.W.Frag}
theorem cnl_sortedQ : CNL K (rSortedQ K) (fun ds => (seq1 ds).bind hSorted) := by
  intro G H vs ds c Q e s h qn
  have e : (seq1 ds).bind hSorted = some c := e
  cases es : seq1 ds with
  | none => rw [es] at e; cases e
  | some xs =>
    rw [es] at e
    have e : hSorted xs = some c := e
    obtain ⟨p, us, rfl, t, r⟩ := seq1_inv es s h
    unfold hSorted at e
    cases ei : intsOf xs with
    | none => rw [ei] at e; cases e
    | some ns =>
      rw [ei] at e; cases e
      rw [intsOf_inv ei] at r
      rw [r.ints] at t
      refine ⟨p, ns, rfl, t, fun ns' q hp hs hq => ?_⟩
      rw [sorted_is hp hs]; exact qn q _ hq (.of_ints _)
theorem csl_sortedQ : CSL K (rSortedQ K) hSorted := by
  intro G H p us xs c Q e s t r qn
  unfold hSorted at e
  cases ei : intsOf xs with
  | none => rw [ei] at e; cases e
  | some ns =>
    rw [ei] at e; cases e
    rw [intsOf_inv ei] at r
    rw [r.ints] at t
    refine ⟨p, ns, rfl, .inl t, fun ns' q hp hs hq => ?_⟩
    rw [sorted_is hp hs]; exact qn q _ hq (.of_ints _)
end
end Pu

set_option Elab.async false
set_option linter.all false
set_option maxRecDepth 100000
set_option maxHeartbeats 4000000
/-! t[::-1] of a tuple; xs[i] += e of a list; // by what is below 0 -/
namespace TupRev
open PySem PySem.Spec PyProof.Rows L2 HT
section
variable {prog : Program} {w : World} {A : Around} {E : Value → Shared → Prop} {s : Shared}
theorem adj (n : Nat) : Builtin.Slice.sliceAdjust none none (-1) (n : Int) = ((n : Int) - 1, -1) := rfl
theorem plc (n : Nat) : Builtin.Slice.slicePlaces ((n : Int) - 1) (-1) (-1) = n := by
  unfold Builtin.Slice.slicePlaces
  have h1 : ¬ ((-1 : Int) > 0) := by decide
  rw [if_neg h1, show (-(-1) : Int) = 1 from by decide, Int.ediv_one]
  split <;> omega
theorem fm_congr {α β : Type} {f g : α → Option β} : ∀ {l : List α}, (∀ x ∈ l, f x = g x) → l.filterMap f = l.filterMap g
  | [], _ => rfl
  | a :: r, h => by rw [List.filterMap_cons, List.filterMap_cons, h a List.mem_cons_self, fm_congr fun x hx => h x (List.mem_cons_of_mem _ hx)]
theorem pck (xs : Array Value) : ((List.range xs.size).filterMap fun (m : Nat) => xs[(((xs.size : Nat) : Int) - 1 + (m : Int) * -1).toNat]?).toArray = xs.toList.reverse.toArray := by
  have e : (List.range xs.size).filterMap (fun (m : Nat) => xs[(((xs.size : Nat) : Int) - 1 + (m : Int) * -1).toNat]?) = ((List.range xs.size).map fun k => xs.size - 1 - k).filterMap (xs[·]?) := by
    rw [List.filterMap_map]
    refine fm_congr fun m hm => ?_
    have := List.mem_range.mp hm
    show xs[_]? = xs[xs.size - 1 - m]?
    rw [show (((xs.size : Nat) : Int) - 1 + (m : Int) * -1).toNat = xs.size - 1 - m from by omega]
  rw [e, PySem.W.krv_range, List.filterMap_reverse, PySem.W.krv_all]
theorem applied {sl : Addr} {vl vu vs : Value} {n : Nat} {Q : Int × Int × Nat → Shared → Prop} (hs : s.heap.IsSliceOf sl vl vu vs) (pl : IsPart vl none) (pu : IsPart vu none) (ps : IsPart vs (some (-1)))
    (h : Q ((n : Int) - 1, -1, n) s) : wpAny (model prog w) A (Builtin.Slice.sliceApplied (.ref sl) (pure (n : Int))) Q E s := by
  obtain ⟨os, hos, hcs, hds⟩ := id hs
  unfold Builtin.Slice.sliceApplied Builtin.Slice.sliceFields
  refine wpAny_bind (wpAny_bind (wpAny_field hos hds (x := vl) rfl (wpAny_bind (wpAny_field hos hds (x := vu) rfl (wpAny_bind (wpAny_field hos hds (x := vs) rfl (wpAny_pure ?_)))))))
  refine wpAny_bind (slicePart_ ps ?_); show wpAny _ _ (if ((-1 : Int) == 0) = true then _ else _) _ _ s; rw [if_neg (by decide)]
  refine wpAny_bind (slicePart_ pl (wpAny_bind (slicePart_ pu (wpAny_bind (wpAny_pure ?_)))))
  show wpAny _ _ (match Builtin.Slice.sliceAdjust none none (-1) (n : Int) with | (lo, hi) => pure (lo, (-1 : Int), Builtin.Slice.slicePlaces lo hi (-1))) _ _ s; rw [adj n]
  show wpAny _ _ (pure ((n : Int) - 1, (-1 : Int), Builtin.Slice.slicePlaces ((n : Int) - 1) (-1) (-1))) _ _ s; rw [plc]
  exact wpAny_pure h
theorem item {t sl : Addr} {items : Array Value} {vl vu vs : Value} {Q : Value → Shared → Prop} (ht : IsTup s.heap t items) (hs : s.heap.IsSliceOf sl vl vu vs) (pl : IsPart vl none) (pu : IsPart vu none) (ps : IsPart vs (some (-1)))
    (h : Q (.ref s.heap.objs.size) { s with heap := s.heap.push { cls := .type "tuple", data := .seq items.toList.reverse.toArray } }) (hsz : items.size ≤ sizeLine) : wpAny (model prog w) A (getItem (.ref t) (.ref sl)) Q E s := by
  have hz : sizeOk (.seq items.toList.reverse.toArray) := by show items.toList.reverse.toArray.size ≤ sizeLine; rw [List.size_toArray, List.length_reverse, Array.length_toList]; exact hsz
  obtain ⟨os, hos, hcs, hds⟩ := id hs
  have hTs : s.TypeIs (.ref sl) "slice" := ⟨os, hos, hcs⟩
  unfold getItem; try with_reducible refine wpAny_holding ?_
  first | refine wpAny_bind (wpAny_pure ?_) | skip
  refine wpAny_bind (wpAny_sequenceKey ht.typeIs (by decide) ?_); refine wpAny_bind (wpAny_callSpecial?_slot (name := Str.ofString "__getitem__") ht.typeIs PyProof.Rows.slot_tuple_getitem (wpAny_call_entry PyProof.Rows.slot_tuple_getitem ht.typeIs entry_tuple_getitem ?_ (args_tuple_getitem _ _)))
  show wpAny _ _ (Builtin.Tuple.tupleItemsOf (.ref t) >>= _) _ _ s; refine wpAny_bind (tupleItemsOf_ ht ?_); refine wpAny_bind (wpAny_typeOf hTs ?_); rw [if_pos (by decide)]
  refine wpAny_bind (applied hs pl pu ps ?_)
  have hno : ¬ ((((items.size : Int) - 1) == 0 && (-1 : Int) == 1 && items.size == items.size) = true) := by
    intro q
    rw [Bool.and_eq_true, Bool.and_eq_true] at q
    exact absurd q.1.2 (by decide)
  show wpAny _ _ (if (((items.size : Int) - 1) == 0 && (-1 : Int) == 1 && items.size == items.size) = true then _ else _) _ _ s; rw [if_neg hno, pck]
  first
    | exact wpAny_bind (m := Builtin.Tuple.tupleExact _) (wpAny_newObj_type (wpAny_pure ⟨_, rfl, wpAny_pure h⟩) hz)
    | exact wpAny_bind (m := Builtin.Tuple.tupleExact _) (wpAny_newObj_type (wpAny_bind (wpAny_pure (wpAny_pure ⟨_, rfl, wpAny_pure h⟩))) hz)
    | exact wpAny_bind (wpAny_bind (m := Builtin.Tuple.tupleExact _) (wpAny_newObj_type (wpAny_pure (wpAny_pure ⟨_, rfl, wpAny_pure h⟩)) hz))
    | exact wpAny_bind (wpAny_bind (m := Builtin.Tuple.tupleExact _) (wpAny_newObj_type (wpAny_pure ⟨_, rfl, wpAny_pure h⟩) hz))
end
end TupRev

namespace L2
open PySem PySem.Spec PyProof.Rows
/-- xs[::-1] of a list or of a tuple -/
def tRevQ (K : PySem.W.Frag) (te : TE) : TE := fun σ H Q => te σ H fun x H1 => ∃ a xs, x = .ref a ∧ ((SqL K H1 a xs ∧ ∀ p, H1 p = none → Q (.ref p) (upd H1 p (.lst xs.reverse))) ∨ (SqT K H1 a xs ∧ ∀ p, H1 p = none → Q (.ref p) (upd H1 p (.tup xs.reverse))))
theorem pe_revQ {X : Cx} {e : Expr} {te : TE} {k : Nat} {p1 p2 p3 pos : Pos} (he : PE X e te) : PE X (.Subscript e (.Slice none none (some (.UnaryOp .USub (.Constant (.int 1) k p1) p2)) p3) pos) (tRevQ X.K te) := by
  refine ⟨fun pins s σ H Q I h => Subscript_ (thn (he.run pins s σ H _ I h) fun v s1 ⟨x, H1, I1, r1, q1⟩ => ?_)⟩
  obtain ⟨a, xs, ex, q⟩ := q1
  subst ex; cases r1
  have hst : PO X (some (.UnaryOp .USub (.Constant (.int 1) k p1) p2)) (tPart (tUn (rU fun i => .int (-i)) (tC (.int 1)))) := po_some (pe_un un_neg pe_int)
  refine wpAny_Slice (thn (po_none.run pins s1 σ H1 (fun o H2 => o = none ∧ H2 = H1) I1 ⟨rfl, rfl⟩) fun vl s2 ⟨l, H2, I2, pl, el, e2⟩ => ?_)
  subst el e2; refine thn (po_none.run pins s2 σ H2 (fun o H3 => o = none ∧ H3 = H2) I2 ⟨rfl, rfl⟩) fun vu s3 ⟨u, H3, I3, pu, eu, e3⟩ => ?_
  subst eu e3; refine thn (hst.run pins s3 σ H3 (fun o H4 => o = some (-1) ∧ H4 = H3) I3 ⟨1, rfl, -1, rfl, rfl, rfl⟩) fun vs s4 ⟨o, H4, I4, ps, eo, e4⟩ => ?_
  subst eo e4
  have I5 : Inv X pins σ H4 { s4 with heap := s4.heap.push { cls := .type "slice", data := .fields #[vl, vu, vs] } } := I4.kept (t' := s4.toks) fun _ _ z => Heap.get?_push_of_some _ z
  show wpAny (model X.prog X.w) X.A (subscriptTail e (.Slice none none (some (.UnaryOp .USub (.Constant (.int 1) k p1) p2)) p3) (.ref a) (.ref s4.heap.objs.size)) (EP X pins σ Q) X.xe { s4 with heap := s4.heap.push { cls := .type "slice", data := .fields #[vl, vu, vs] } }
  rcases q with ⟨hx, q⟩ | ⟨hx, q⟩
  · obtain ⟨its, r, ht, hz⟩ := I5.list hx
    have hlen := r.length
    refine tail_any (ops := [.ref a, .ref s4.heap.objs.size]) ht.isList.typeIs (PySem.slot_list_getitem.lookup) ?_ (by with_unfolding_all rfl); refine wpAny_getItem_list_slice ht.isList (Heap.IsSliceOf.new _ vl vu vs) pl pu ps (by decide) ?_ (by rw [List.size_toArray]; omega); rw [PySem.W.krv_pick]
    exact ⟨.ref _, _, I5.laid (t' := s4.toks) (o := .lst xs.reverse) (fun _ _ z => Heap.get?_push_of_some _ z) (Nat.le_refl _) ⟨by rw [List.length_reverse]; exact hz, _, 0, r.reverse, Heap.get?_push_size _ rfl⟩, rfl, q _ (I5.hok.fresh (Nat.le_refl _))⟩
  · obtain ⟨its, r, ht, hz⟩ := I5.tuple hx
    have hlen := r.length
    refine tail_any (ops := [.ref a, .ref s4.heap.objs.size]) ht.typeIs (PyProof.Rows.slot_tuple_getitem.lookup) ?_ (by with_unfolding_all rfl); refine TupRev.item ht (Heap.IsSliceOf.new _ vl vu vs) pl pu ps ?_ (by rw [List.size_toArray]; omega)
    exact ⟨.ref _, _, I5.laid (t' := s4.toks) (o := .tup xs.reverse) (fun _ _ z => Heap.get?_push_of_some _ z) (Nat.le_refl _) ⟨by rw [List.length_reverse]; exact hz, _, r.reverse, ⟨_, Heap.get?_push_size _ rfl, rfl, _, rfl⟩⟩, rfl, q _ (I5.hok.fresh (Nat.le_refl _))⟩
/-- xs[i], by values -/
theorem get_listV {X : Cx} : PGet X (rIxL X.K) := by
  intro pins s σ H x y v u Q I rx ry h
  obtain ⟨p, xs, i, z, rfl, rfl, hq, he, q⟩ := h
  cases rx
  obtain ⟨t, rfl⟩ := ry
  obtain ⟨its, r, pl, hz⟩ := I.list hq
  obtain ⟨j, h1, h2, h3, h4, h5⟩ := atI_get he
  obtain ⟨w, ew, rw'⟩ := r.get h2
  have hl := r.length; have hn := line63
  have fin : EP X pins σ Q w s := ⟨z, H, I, rw', q⟩
  by_cases h0 : 0 ≤ i
  · have hj : i.toNat = j := by rw [seqIndex_of h0 h5] at h1; exact Option.some.inj h1
    exact wpAny_getItem_list pl.isList h0 (by omega) (by rw [hj]; simpa using ew) fin
  · have hj : (i + (its.toArray.size : Int)).toNat = j := by rw [seqIndex_neg (by omega) h4] at h1; rw [List.size_toArray, ← hl]; exact Option.some.inj h1
    exact wpAny_getItem_list_neg pl.isList (by omega) (by rw [List.size_toArray] <;> omega) (by omega) (by rw [hj]; simpa using ew) fin
/-- // by anything but 0 below 2 ^ 9000 -/
def CDivZ (_ j : Int) : Prop := j ≠ 0 ∧ j.natAbs.log2 < 9000
theorem op_fdivZ {X : Cx} : OpR X (binaryOp .FloorDiv) (rI CDivZ fun i j => .int (i.fdiv j)) := opI fun _ _ _ _ _ _ _ hc q => floordiv_int hc.1 q (.inl (PyProof.noPylong_of_log2 hc.2))
end L2
namespace Pu
open PySem PySem.Spec L2
section
variable {X : Cx} {cA : String → Addr} {W : WX} {bs : Bs} {pos : Pos}
def fRev : D → Option D
  | .list xs => some (.list xs.reverse)
  | .tuple xs => some (.tuple xs.reverse)
  | _ => none
theorem ie_rev {e : Expr} {m : M D} {k : Nat} {p1 p2 p3 : Pos} (he : IE cA bs W X e m) : IE cA bs W X (.Subscript e (.Slice none none (some (.UnaryOp .USub (.Constant (.int 1) k p1) p2)) p3) pos) (mUn fRev m) := (pe_revQ he).wk fun y H Q h => by
  obtain ⟨C, B, O, σ, hb, R0, k⟩ := h
  refine ⟨C, B, O, σ, hb, R0, (KG.bind (rel := rD) k).imp fun x H1 ⟨d, σ1, O1, R1, F1, d1, k1⟩ => ?_⟩
  cases d with
  | list xs =>
    obtain ⟨q, us, rfl, t, r⟩ := d1.lst_inv
    refine ⟨q, us, rfl, .inl ⟨sq_up hide_same t, fun p hp => ?_⟩⟩
    obtain ⟨R4, F4⟩ := R1.laid (o := .lst us.reverse) hp
    obtain ⟨s1, s2⟩ := hide_upd (o := .lst us.reverse) hp (R1.ninA hp)
    exact k1 O1 _ _ R4 F4 (.lst (.inl (.inl s2)) (dps_mono s1 r.reverse))
  | tuple xs =>
    obtain ⟨q, us, rfl, t, r⟩ := d1.tup_inv
    refine ⟨q, us, rfl, .inr ⟨st_up hide_same t, fun p hp => ?_⟩⟩
    obtain ⟨R4, F4⟩ := R1.laid (o := .tup us.reverse) hp
    obtain ⟨s1, s2⟩ := hide_upd (o := .tup us.reverse) hp (R1.ninA hp)
    exact k1 O1 _ _ R4 F4 (.tup (.inl (.inl s2)) (dps_mono s1 r.reverse))
  | _ => exact k1.elim
/-- a[lo:hi] of a tuple or of a list that stands still -/
def mSlX (m : M D) (ml mh : M (Option Int)) : M D := fun σ => (m σ).bind fun d σ1 => (ml σ1).bind fun l σ2 => (mh σ2).bind fun h σ3 => match d with | .tuple xs => .ok (.tuple (cutD xs l h)) σ3 | .list xs => .ok (.list (cutD xs l h)) σ3 | _ => .stuck
theorem ie_slX {e : Expr} {lo hi : Option Expr} {ma : M D} {ml mh : M (Option Int)} {p2 : Pos} (he : IE cA bs W X e ma) (hl : IP cA bs W X lo ml) (hh : IP cA bs W X hi mh) : IE cA bs W X (.Subscript e (.Slice lo hi none p2) pos) (mSlX ma ml mh) := (pe_slice (sl_tupA.or sl_list) he hl hh).wk fun y H Q h => by
  obtain ⟨C, B, O, σ, hb, R0, k⟩ := h
  refine ⟨C, B, O, σ, hb, R0, (KG.bind (rel := rD) k).imp fun x H1 ⟨d, σ1, O1, R1, F1, d1, k1⟩ => ⟨C, B, O1, σ1, hb, R1, (KG.bind (rel := rOI) k1).imp fun l H2 ⟨l', σ2, O2, R2, F2, d2, k2⟩ => ⟨C, B, O2, σ2, hb, R2, (KG.bind (rel := rOI) k2).imp fun u H3 ⟨u', σ3, O3, R3, F3, d3, k3⟩ => ?_⟩⟩⟩
  cases d2; cases d3
  cases d with
  | tuple xs =>
    obtain ⟨q, us, rfl, t, r⟩ := (dp_mono F3.vis (dp_mono F2.vis d1)).tup_inv
    have hlen := r.length
    refine .inl ⟨q, us, rfl, st_up hide_same t, fun hw => ?_, fun hw p hp => ?_⟩
    · refine k3 O3 _ H3 R3 Fr.refl ?_
      have : cutD xs l u = xs := by
        unfold cutD
        rw [← hlen, hw.1, hw.2, List.drop_zero, Nat.sub_zero, hlen, List.take_length]
      rw [this]
      exact .tup t r
    · obtain ⟨R4, F4⟩ := R3.laid (o := .tup (cutV us l u)) hp
      obtain ⟨s1, s2⟩ := hide_upd (o := .tup (cutV us l u)) hp (R3.ninA hp)
      exact k3 O3 _ _ R4 F4 (.tup (.inl (.inl s2)) (dps_mono s1 (dps_cut r l u)))
  | list xs =>
    obtain ⟨q, us, rfl, t, r⟩ := (dp_mono F3.vis (dp_mono F2.vis d1)).lst_inv
    refine .inr ⟨q, us, rfl, sq_up hide_same t, fun p hp => ?_⟩
    obtain ⟨R4, F4⟩ := R3.laid (o := .lst (cutV us l u)) hp
    obtain ⟨s1, s2⟩ := hide_upd (o := .lst (cutV us l u)) hp (R3.ninA hp)
    exact k3 O3 _ _ R4 F4 (.lst (.inl (.inl s2)) (dps_mono s1 (dps_cut r l u)))
  | _ => exact k3.elim
def fDivZ : D → D → Option D
  | .int i, .int j => if j ≠ 0 ∧ j.natAbs.log2 < 9000 then some (.int (i.fdiv j)) else none
  | _, _ => none
theorem o2_divZ {K : PySem.W.Frag} : Op2N K (rI CDivZ fun i j => V.int (i.fdiv j)) fDivZ := by
  intro G H x z a b c Q e s h1 h2 q qn
  unfold fDivZ at e
  split at e
  · split at e
    · rename_i hc
      cases e
      cases h1; cases h2
      exact ⟨_, _, rfl, rfl, hc, q _ (.int _)⟩
    · cases e
  · cases e
theorem ie_divZ {a b : Expr} {ma mb : M D} (ha : IE cA bs W X a ma) (hb : IE cA bs W X b mb) : IE cA bs W X (.BinOp a .FloorDiv b pos) (mBin fDivZ ma mb) := (pe_op op_fdivZ ha hb).wk fun _ _ _ h => tOp_of o2_divZ h
/-- xs[i] op= e -/
def sAugI (i : Nat) (f : Int → Int → Int) (mi m : M D) : S := fun σ => match slotL σ i with
  | none => .stuck
  | some _ => (mi σ).toS fun j σ1 => match slotL σ1 i with
    | none => .stuck
    | some xs => match hIx xs j with
      | some (.int a) => (m σ1).toS fun d σ2 => match d with
        | .int b => (match slotL σ2 i with
          | some ys => putStep i (.int (f a b)) j σ2 ys
          | none => .stuck)
        | _ => .stuck
      | _ => .stuck
theorem is_augI {i : Nat} {op : Operator} {f : Int → Int → Int} {mi m : M D} {o a e : Expr} {tpos : Pos} (ho : PE X o (tVar i)) (hi : IE cA bs W X a mi) (he : IE cA bs W X e m) (hp : PIp X op (ipI f))
    (ha : ∀ ov iv new, augStore a ov iv new = (do holding [new, ov, iv] (setItem ov iv new); release [new, ov, iv] []; pure .next) := by intros; rfl) : IS cA bs W X (.AugAssign (.Subscript o a tpos) op e pos) (sAugI i f mi m) := (ps_augS ho hi get_listV he hp set_list ha).wk fun E y H h => by
  obtain ⟨C, B, O, σ, hB, R0, k⟩ := h
  obtain ⟨q, us, xs0, e1, e2, e3, e4, e5, k1⟩ := ownS_of (fo := fun _ => (mi σ).toS fun j σ1 => match slotL σ1 i with
    | none => .stuck
    | some xs => match hIx xs j with
      | some (.int a) => (m σ1).toS fun d σ2 => match d with
        | .int b => (match slotL σ2 i with
          | some ys => putStep i (.int (f a b)) j σ2 ys
          | none => .stuck)
        | _ => .stuck
      | _ => .stuck) R0 (by unfold sAugI at k; cases e : slotL σ i <;> rw [e] at k <;> exact k)
  refine ⟨_, e1, C, B, O, σ, hB, R0, (KS.bind (rel := rD) k1).imp fun z H1 ⟨j, σ1, O1, R1, F1, d1, k2⟩ => ?_⟩
  obtain ⟨q', us1, xs1, f1, f2, f3, f4, f5, k3⟩ := ownS_of (fo := fun xs => match hIx xs j with
      | some (.int a) => (m σ1).toS fun d σ2 => match d with
        | .int b => (match slotL σ2 i with
          | some ys => putStep i (.int (f a b)) j σ2 ys
          | none => .stuck)
        | _ => .stuck
      | _ => .stuck) R1 (by cases e : slotL σ1 i <;> rw [e] at k2 <;> exact k2)
  rw [e1] at f1
  have z1 : q = q' := V.ref.inj (Option.some.inj (Option.some.inj f1))
  subst z1
  cases j with
  | int j =>
    cases d1
    cases ei : hIx xs1 (.int j) with
    | none => simp only [ei] at k3; exact k3.elim
    | some d0 =>
      cases d0 with
      | int a0 =>
        simp only [ei] at k3
        have ei' : atI xs1 j = some (.int a0) := ei
        obtain ⟨v, ev, dv⟩ := atI_dp f4 ei'
        cases dv
        refine ⟨q, us1, j, _, rfl, rfl, .inl (.inl f2), ev, C, B, O1, σ1, hB, R1, (KS.bind (rel := rD) k3).imp fun w H2 ⟨d, σ2, O2, R2, F2, d2, k4⟩ => ?_⟩
        cases d with
        | int b0 =>
          cases d2
          obtain ⟨q2, us2, xs2, g1, g2, g3, g4, g5, k5⟩ := ownS_of (fo := putStep i (.int (f a0 b0)) (.int j) σ2) R2 k4
          rw [e1] at g1
          have z2 : q = q2 := V.ref.inj (Option.some.inj (Option.some.inj g1))
          subst z2
          unfold putStep at k5
          cases en : ixN xs2.length j with
          | none => simp only [en] at k5; exact k5.elim
          | some n =>
            simp only [en] at k5
            obtain ⟨R3, F3⟩ := R2.mutL g5 e1 (g4.set n (.int _))
            exact ⟨a0, b0, rfl, rfl, q, us2, j, n, rfl, rfl, g2, by rw [g4.length]; exact en, k5 O2 y _ R3 F3⟩
        | _ => exact k4.elim
      | _ => simp only [ei] at k3; exact k3.elim
  | _ => simp only [hIx] at k3; exact k3.elim
end
end Pu

set_option Elab.async false
set_option linter.all false
set_option maxRecDepth 100000
set_option maxHeartbeats 4000000
/-! enumerate of a tuple -/
namespace PySem
open Sem (wp)
theorem pu_meets_enum1 {v : Value} {o : Obj} {H : Heap → Prop} (B : Begins v o H) :
    Meets (Builtin.«enumerate.__new__» ⟨[.type "enumerate", v], []⟩) (fun _ R s => H s.heap ∧
      R (.ok (.ret (.ref (s.heap.push o).objs.size))) { s with heap := (s.heap.push o).push { cls := .type "enumerate", data := .fields #[.none, .bool false, .ref s.heap.objs.size, rawInt 0, .none, .none] } }) :=
  .of_wp fun prog w A R s h => by
    obtain ⟨hp, g, d, tk, os⟩ := s; obtain ⟨h1, h⟩ := h
    have hsub := sub_enumerate
    have q1 : ∀ {A' : Around} {E : Value → Shared → Prop} {Q : Value → Shared → Prop}, Q (.ref hp.objs.size) ⟨hp.push o, g, d, tk, os⟩ → wpAny (model prog w) A' (pyIter v) Q E ⟨hp, g, d, tk, os⟩ :=
      fun q => B.iter prog w _ _ ⟨hp, g, d, tk, os⟩ _ h1 q
    wp_walk using q1
    refine wpAny_stack_any fun st => wpAny_pure ?_
    split
    · rename_i c _ _ _ _ _
      cases (c == Value.type "enumerate")
      · wp_walk using q1
        exact ⟨_, rfl, h⟩
      · wp_walk using q1
        exact ⟨_, rfl, h⟩
    · wp_walk using q1
      exact ⟨_, rfl, h⟩
section
variable {prog : Program} {w : World} {A : Around} {E : Value → Shared → Prop} {s : Shared}
theorem pu_enum1 {v : Value} {o : Obj} {H : Heap → Prop} {Q : Value → Shared → Prop} (B : Begins v o H) (h1 : H s.heap)
    (h : ∀ h', IsEnum h' (s.heap.objs.size + 1) s.heap.objs.size 0 .none → h'.get? s.heap.objs.size = some o → h'.objs.size = s.heap.objs.size + 2 →
      (∀ b o, s.heap.get? b = some o → h'.get? b = some o) → Q (.ref (s.heap.objs.size + 1)) { s with heap := h' }) :
    wpAny (model prog w) A (call (.type "enumerate") [v]) Q E s := by
  refine callType_new F.called_enumerate (by decide) (F.typeCall_enumerate_1 _) (F.newCall_enumerate_1 _) (fun obj => F.args_object_init_2 obj _) F.entry_enumerate_new
    (pu_meets_enum1 B) ⟨h1, ?_⟩
  have hz : (s.heap.push o).objs.size = s.heap.objs.size + 1 := Heap.size_push ..
  show _ ∧ _
  rw [hz]
  have he : IsEnum ((s.heap.push o).push { cls := .type "enumerate", data := .fields #[.none, .bool false, .ref s.heap.objs.size, rawInt 0, .none, .none] }) (s.heap.objs.size + 1) s.heap.objs.size 0 .none := by
    have := Heap.get?_push_size (s.heap.push o) (o := { cls := .type "enumerate", data := .fields #[.none, .bool false, .ref s.heap.objs.size, rawInt 0, .none, .none] }) rfl
    rw [hz] at this; exact this
  refine ⟨⟨_, he, rfl⟩, h _ he (Heap.get?_push_of_some _ (Heap.get?_push_size _ B.free)) (by rw [Heap.size_push, hz]) fun b o x => Heap.get?_push_of_some _ (Heap.get?_push_of_some _ x)⟩
end
theorem pu_enum_endT {prog : Program} {w : World} {A : Around} {E : Value → Shared → Prop} {s : Shared} {e it a : Addr} {i : Nat} {items : Array Value} {old : Value} {Q : Option Value → Shared → Prop} (hh : A.handled = none) (he : IsEnum s.heap e it ((i : Nat) : Int) old) (hit : s.heap.IsTupleIter it a i) (ht : s.heap.IsTuple a items) (hx : items[i]? = none)
    (hQ : ∀ h', Heap.ExtBut it s.heap h' → Q none { s with heap := h' }) : wpAny (model prog w) A (pyNext (.ref e)) Q E s := by
  have hT : s.TypeIs (.ref e) "enumerate" := ⟨_, he, rfl⟩
  unfold pyNext
  refine wpAny_bind (wpAny_attempt (wpAny_callSpecial?_slot (name := Str.ofString "__next__") hT F.slot_enumerate_next
    (wpAny_call_entry F.slot_enumerate_next hT F.entry_enumerate_next ?_ (F.args_enumerate_next_1 _))))
  show wpAny _ _ (field (.ref e) 2 >>= _) _ _ _
  refine wpAny_bind (wpAny_field he rfl (x := .ref it) rfl ?_)
  refine wpAny_bind (wpAny_nextOf_tuple_end (A := A.in1) hh hit ht hx fun h' x he' hx' => ?_)
  obtain ⟨o, ho, hc⟩ := hx'
  refine wpAny_bind (wpAny_isInstance (T := "StopIteration") (b := true) ⟨o, ho, hc⟩ isSubtype_stop ?_)
  exact wpAny_pure (hQ _ he')
end PySem
namespace Pu
open PySem PySem.Spec L2
/-- the tuple at a, each item in a new pair -/
def IteT (K : PySem.W.Frag) (a : Addr) : It :=
  ⟨fun i H => ∃ (xs : List V) (x : V), SqT K H a xs ∧ xs[i]? = some x, fun i H v H' => ∃ T x, v = .ref T ∧ H T = none ∧ H' = upd H T (.tup [.int (i : Nat), x]) ∧ ∀ xs, SqT K H a xs → xs[i]? = some x, fun i H => ∃ xs : List V, SqT K H a xs ∧ xs.length ≤ i⟩
theorem turn_enumT {P : Program} {w : World} {K : PySem.W.Frag} {elts : List Expr} {kk : Nat} {tpos : Pos} (a e it : Addr) :
    Turn P w K (.Tuple elts kk tpos) (IteT K a) [e, it] e (fun i h => (∃ old, IsEnum h e it ((i : Nat) : Int) old) ∧ h.IsTupleIter it a i ∧ e ≠ it ∧ a ≠ it ∧ a ≠ e) where
  mem := by simp
  obj := fun i h st b hb => by
    obtain ⟨⟨old, he⟩, ⟨o, ho, hc, hd⟩, _⟩ := st
    have e' : b = e ∨ b = it := by simpa using hb
    rcases e' with z | z
    · rw [z]; exact ⟨_, he, fun v q => nomatch q⟩
    · rw [z]; exact ⟨o, ho, fun v q => by rw [hd] at q; cases q⟩
  keep := fun i h h' st k => let ⟨⟨old, he⟩, hi, hne⟩ := st; ⟨⟨old, k e (by simp) _ he⟩, hi.at fun o q => k it (by simp) o q, hne⟩
  item := by
    intro X hP hw hK hc i pins s σ H E I hf st hg
    subst hP hw hK
    obtain ⟨⟨old, he⟩, hit, hne, hai, hae⟩ := st
    obtain ⟨xs, x, hq, hx⟩ := hg
    obtain ⟨its, rv, p, hz⟩ := I.tuple hq
    obtain ⟨u, hu, ru⟩ := rv.get hx
    have hel : e < s.heap.objs.size := Heap.lt_size he
    have hil : it < s.heap.objs.size := by obtain ⟨_, q, _⟩ := hit; exact Heap.lt_size q
    have pt : s.heap.IsTuple a its.toArray := p
    refine wpAny_pyNext_enum_itemC (Draws.tuple (A := X.A.in1) (show X.A.in1.handled = none from I.ok.hd hc) it a hai its.toArray) he ⟨hit, pt⟩ (by
        have := (List.getElem?_eq_some_iff.mp hu).1; simpa using this) hne (by simp [hne, Ne.symm hae]) fun y h' tk hy ho hst' hT hsz hk => ?_
    obtain ⟨hit', _⟩ := hst'
    have hyu : y = u := by
      have hy : its.toArray[i]? = some y := hy
      rw [List.getElem?_toArray, hu] at hy
      exact (Option.some.inj hy).symm
    subst hyu
    refine ⟨_, rfl, wpAny_letOwnedTupleGo_enum (s := { s with heap := h', toks := tk + 1 }) ho fun h'' he' sb => ?_⟩
    have hT2 : h''.get? s.heap.objs.size = some { cls := .type "tuple", data := .seq #[.int i tk, y] } := (sb.2 _ (Nat.ne_of_gt hel)).trans hT
    have new : ObjOk X.prog X.w (upd H s.heap.objs.size (.tup [.int (i : Nat), x])) h'' s.heap.objs.size (.tup [.int (i : Nat), x]) :=
      ⟨by show 2 ≤ sizeLine; decide, [.int i tk, y], .cons ⟨_, rfl⟩ (.cons ru .nil), ⟨_, hT2, rfl, _, rfl⟩⟩
    have I1 : Inv X pins σ (upd H s.heap.objs.size (.tup [.int (i : Nat), x])) { s with heap := h'', toks := tk + 1 } :=
      I.turnedNew (ch := [e, it]) (fun b ob hb q => (sb.2 b (fun z => hb (by simp [z]))).trans (hk b ob (fun z => hb (by simp [z])) (fun z => hb (by simp [z])) q)) hf (Nat.le_refl _) new
    refine ⟨.ref s.heap.objs.size, _, I1, rfl, ⟨_, x, rfl, I.hok.fresh (Nat.le_refl _), rfl, fun ys hy => by rw [I.tuple_inj hy hq]; exact hx⟩, ⟨⟨y, ?_⟩, hit'.at fun o q => (sb.2 it (Ne.symm hne)).trans q, hne, hai, hae⟩, fun b hb => ?_⟩
    · have e1 : ((i + 1 : Nat) : Int) = (i : Int) + 1 := by omega
      rw [e1]; exact he'
    · have hb' : b < s.heap.objs.size := by
        have e' : b = e ∨ b = it := by simpa using hb
        rcases e' with z | z
        · rw [z]; exact hel
        · rw [z]; exact hil
      rw [upd_ne (Nat.ne_of_lt hb')]
      exact (hf b hb).1
  done := by
    intro X hP hw hK hc i pins s σ H E I hf st hg
    subst hP hw hK
    obtain ⟨⟨old, he⟩, hit, hne, hai, hae⟩ := st
    obtain ⟨xs, hq, hx⟩ := hg
    obtain ⟨its, rv, p, hz⟩ := I.tuple hq
    obtain ⟨f0, f1, f2, f3, f4, f5⟩ := hf it (by simp)
    have hl := rv.length
    have pt : s.heap.IsTuple a its.toArray := p
    refine pu_enum_endT (I.ok.hd hc) he hit pt (by simp; omega) fun h' eb => ⟨rfl, I.turned (t' := s.toks) (fun b o hb q => eb b o hb q) f0 f1 f3 f4 f5⟩
  self := fun A i s Q E st h => let ⟨⟨_, he⟩, _⟩ := st; wpAny_pyIter_enum he h
def iEnumT (K : PySem.W.Frag) (ta : TA) : TI := fun σ H R => ta σ H fun vs H1 => ∃ a xs, vs = [.ref a] ∧ SqT K H1 a xs ∧ R (IteT K a) H1
theorem pi_enumT {X : Cx} {e : Expr} {ta : TA} {p pos tpos : Pos} {elts : List Expr} {kk : Nat} (hg : Gl X "enumerate") (hm : X.mg "enumerate" = none) (ha : PA X [e] ta) (hs : starEach [e] X.env = [(false, eval e X.env)] := by rfl) :
    PI X (.Tuple elts kk tpos) (.Call (.Name "enumerate" p) [e] [] pos) (iEnumT X.K ta) := by
  refine ⟨fun pins s σ H R I h => ?_⟩
  refine PyProof.Rows.Call_ (ld_blt I hg hm PyProof.Rows.boot_enumerate (PyProof.Rows.callWith_type1 (thn (ha.run pos pins s σ H _ I h) fun us s1 ⟨vs, H1, I1, r1, q1⟩ => ?_) hs rfl))
  obtain ⟨a, xs, ex, hq, q⟩ := q1
  subst ex
  cases r1 with
  | cons r rr =>
    cases rr
    cases r
    obtain ⟨its, rv, p', hz⟩ := I1.tuple hq
    have pt : s1.heap.IsTuple a its.toArray := p'
    have hal : a < s1.heap.objs.size := by obtain ⟨_, q, _⟩ := pt; exact Heap.lt_size q
    refine pu_enum1 (begins_tuple a its.toArray) pt fun h' he hit hsz hk => wpAny_pyIter_enum he ?_
    have I2 : Inv X pins σ H1 { s1 with heap := h' } := I1.kept (t' := s1.toks) hk
    refine ⟨s1.heap.objs.size + 1, [s1.heap.objs.size + 1, s1.heap.objs.size], _, _, H1, rfl, I2, turn_enumT a (s1.heap.objs.size + 1) s1.heap.objs.size, ⟨⟨.none, he⟩, ⟨_, hit, rfl, rfl⟩, Nat.succ_ne_self _, Nat.ne_of_lt hal, Nat.ne_of_lt (Nat.lt_succ_of_lt hal)⟩, fun b hb => ?_, q⟩
    have e' : b = s1.heap.objs.size + 1 ∨ b = s1.heap.objs.size := by simpa using hb
    have hle : s1.heap.objs.size ≤ b := by
      rcases e' with z | z
      · rw [z]; exact Nat.le_add_right _ _
      · rw [z]; exact Nat.le_refl _
    exact I1.fpOk hle (I1.hok.fresh hle)
theorem itg_enumT {K : PySem.W.Frag} {a : Addr} {G0 : Hp} {vs : List V} {ds : List D} (h : SqT K G0 a vs) (r : DpAll K G0 vs ds) : ItG K (IteT K a) G0 (enumD 0 ds) := fun H s i => by
  refine ⟨fun d hd => ?_, fun hl => ⟨vs, same_sqT s h, by rw [enumD_len] at hl; rw [r.length]; exact hl⟩⟩
  obtain ⟨x0, ex, rfl⟩ := enumD_get hd
  obtain ⟨v, ev, dv⟩ := r.get ex
  refine ⟨⟨vs, v, same_sqT s h, ev⟩, fun x H' ⟨T, w, e0, e1, e2, e3⟩ => .inr ⟨T, _, e0, e1, e2, fun G' sg e => ?_⟩⟩
  have e3 := e3 vs (same_sqT s h)
  rw [ev] at e3
  cases e3
  rw [Nat.zero_add]
  exact .tup (.inl (.inl e)) (.cons (.int _) (.cons (dp_mono sg dv) .nil))
section
variable {X : Cx} {cA : String → Addr} {bs : Bs} {W : WX} {e : Expr} {p pos : Pos} {ms : M (List D)}
def mEnumT (ms : M (List D)) : M (List D) := fun σ => (ms σ).bind fun ds σ1 => match ds with | [.tuple xs] => .ok (enumD 0 xs) σ1 | _ => .stuck
theorem ii_enumT {elts : List Expr} {kk : Nat} {tpos : Pos} (hg : Gl X "enumerate") (hm : X.mg "enumerate" = none) (ha : IA cA bs W X [e] ms) (hs : starEach [e] X.env = [(false, eval e X.env)] := by rfl) : II cA bs W X (.Tuple elts kk tpos) (.Call (.Name "enumerate" p) [e] [] pos) (mEnumT ms) := (pi_enumT hg hm ha hs).wk fun y H Q h => by
  obtain ⟨C, B, O, σ, hB, R0, k⟩ := h
  refine ⟨C, B, O, σ, hB, R0, (KG.bind (rel := rDs) k).imp fun x H1 ⟨ds, σ1, O1, R1, F1, d1, k1⟩ => ?_⟩
  split at k1
  · obtain ⟨v, rfl, h9⟩ := dps1 d1
    obtain ⟨a, vs, rfl, t, r⟩ := h9.tup_inv
    exact ⟨a, vs, rfl, st_up hide_same t, k1 O1 _ H1 R1 Fr.refl (itg_enumT t r)⟩
  · exact k1.elim
end
end Pu

set_option Elab.async false
set_option linter.all false
set_option maxRecDepth 100000
set_option maxHeartbeats 4000000
/-! the layer where errors are known to have no context, and calls within an except suite -/
namespace Pu
open PySem PySem.Spec L2
theorem okXC {CX : CXT} {P : Program} {w : World} {K : PySem.W.Frag} {mg : Str → Option Value} {base : Heap} {x qual : Str} {st : Stmt} {f : Addr} {fd : FuncData} {N ps : List Str} {k : Nat} {sp : Sp} (F : Fun K x qual st f fd) (S : FnScope N ps (defScope st)) (len : ∀ vs H Q E, sp vs H Q E → vs.length = ps.length)
    (hb : ∀ (cdv : Value) (A : Around) (outer : List Env) (s : Shared) (H : Hp) (vs : List V) (Q : VK) (E : XK), Room k (A.deeper (PyProof.Rows.envOfC qual (defScope st) s.heap.objs.size f cdv)) → sp vs H Q E →
      ∃ t, PSs (cxOf CX P w K mg base N qual (defScope st) f cdv A outer s H E) (defBody st) t ∧ t { nx := fun _ H' => Q .non H', rt := Q } (start N vs) H) : FnOk P w K mg base CX (k + 1) f fd ps sp := by
  obtain ⟨oc, od, kV, doc, pm, an, cdv, ct, osl, rfl, lk, hcd⟩ := F.ex
  exact fn_of lk hcd S len fun A outer s H vs Q E hr hsp => hb cdv A outer s H vs Q E hr hsp
theorem okXN {P : Program} {w : World} {K : PySem.W.Frag} {mg : Str → Option Value} {base : Heap} {x qual : Str} {st : Stmt} {f : Addr} {fd : FuncData} {N ps : List Str} {k : Nat} {sp : Sp} (F : Fun K x qual st f fd) (S : FnScope N ps (defScope st)) (len : ∀ vs H Q E, sp vs H Q E → vs.length = ps.length)
    (hb : ∀ (cdv : Value) (A : Around) (outer : List Env) (s : Shared) (H : Hp) (vs : List V) (Q : VK) (E : XK), Room k (A.deeper (PyProof.Rows.envOfC qual (defScope st) s.heap.objs.size f cdv)) → sp vs H Q E →
      ∃ t, PSs (cxOf (L2N.CX P w) P w K mg base N qual (defScope st) f cdv A outer s H E) (defBody st) t ∧ t { nx := fun _ H' => Q .non H', rt := Q } (start N vs) H) : FnOk P w K mg base (L2N.CX P w) (k + 1) f fd ps sp := okXC F S len hb
theorem okXH {P : Program} {w : World} {K : PySem.W.Frag} {mg : Str → Option Value} {base : Heap} {x qual : Str} {st : Stmt} {f : Addr} {fd : FuncData} {N ps : List Str} {k : Nat} {sp : Sp} (F : Fun K x qual st f fd) (S : FnScope N ps (defScope st)) (len : ∀ vs H Q E, sp vs H Q E → vs.length = ps.length)
    (hb : ∀ (cdv : Value) (A : Around) (outer : List Env) (s : Shared) (H : Hp) (vs : List V) (Q : VK) (E : XK) (p : Addr × Obj), L2H.Hot1 A p → L2H.RoomH k (A.deeper (PyProof.Rows.envOfC qual (defScope st) s.heap.objs.size f cdv)) → sp vs H Q E →
      ∃ t, PSs (L2H.cxH (L2N.CX P w) P w K mg base N qual (defScope st) f cdv A outer s H E p) (defBody st) t ∧ t { nx := fun _ H' => Q .non H', rt := Q } (start N vs) H) : L2H.FnH P w K mg base (L2N.CX P w) (k + 1) f fd ps sp := by
  obtain ⟨oc, od, kV, doc, pm, an, cdv, ct, osl, rfl, lk, hcd⟩ := F.ex
  exact L2H.fn_ofH lk hcd S len fun A outer s H vs Q E p ht hr hsp => hb cdv A outer s H vs Q E p ht hr hsp
/-- an error made, no context -/
theorem mk_endN {X : Cx} {pins : List (Addr × Obj)} {σ : St} {H1 H2 : Hp} {Q : XK} {hp hp2 h2 : Heap} {g1 g2 : Array GenState} {d1 d2 : Drawn} {t1 t2 : Nat} {os1 os2 : OsState} {a C d : Addr} {fs : List (Str × V)} (T : Raises X (.ref C)) (I1 : Inv X pins σ H1 ⟨hp, g1, d1, t1, os1⟩)
    (ha : hp.objs.size ≤ a) (k : ∀ b o, hp.get? b = some o → hp2.get? b = some o) (un : Un (frs X.stack) [] (upd H1 a (exo a C none)) H2 hp2 h2) (hok : HOk X.prog X.w H2 h2) (ho : os2 = os1) (hb : PyProof.Rows.AllBare g2)
    (ea : H2 a = some (exo a C (some d))) (ed : H2 d = some (exd d fs)) (hd1 : H1 d = none) (q : Q (.ref C) (some d) (upd (del H2 a) d (.xd fs))) : L2N.MkP X pins σ Q (.ref a) ⟨h2, g2, d2, t2, os2⟩ := by
  obtain ⟨t0, G, J, kG, ge, hoe, na⟩ := mk_end0 (d2 := d2) (t2 := t2) I1 ha k un hok ho hb ea ed hd1
  exact ⟨a, _, _, ⟨G, g2, d2, t2, os2⟩, _, .ref C, some d, rfl, J, kG, ge, hoe, ⟨rfl, rfl, fun vs e => by cases e; rfl⟩, rfl, rfl, na, rfl, hb, T, q⟩
theorem pmk_oexN {X : Cx} {CX : CXT} {x : Str} {C fI : Addr} {k : Nat} {fd : FuncData} {ps : List Str} {sp : Sp} {ds : List Value} {dvs : List V} {e : Expr} {es : List Expr} {ta : TA} {p pos : Pos} (T : OexC X.K C) (iC : PySem.W.findIn X.K (.ref C) "__init__" = some (some (.ref fI))) (tI : PySem.W.typeIn X.K (.ref fI) = some (.type "function"))
    (F1 : FnOk X.prog X.w X.K X.mg X.base CX k fI fd ps sp) (hr : Room (k + 1) X.A) (hb : Binds X.K fd ps ds) (hd : Vals dvs ds) (hx : Passes CX X (fun _ _ _ => False)) (hg : Gl X x) (hm : X.mg x = some (.ref C)) (ha : PA X (e :: es) ta)
    (hdb : (x == ("__debug__" : Str)) = false := by decide) (he : starEach (e :: es) X.env = (false, eval e X.env) :: starEach es X.env := by rfl) (hpl : (backTo pos (starEach es X.env)).any (·.1) = false := by rfl) : L2N.PMk X (.Call (.Name x p) (e :: es) [] pos) (tMkO C sp dvs ta) := by
  intro pins s σ H Q I h; obtain ⟨nm, q, N, bs, bm, sn, sub, ab, col, dd, k0, k1, k2, k3, k5, hC, hbm⟩ := T.cls; refine wpAny_Call_Name_kw (ld_glob I hg hm ?_ hdb)
  refine PySem.W.callWith_K (h₀ := X.base) I.ok.mod.kin T.kC (thn (ha.run pos pins s σ H _ I h) fun us s1 ⟨vs, H1, I1, r1, hz, q1⟩ => ⟨I1.kIn, ?_⟩) he hpl; show wpAny _ _ (call (.ref C) us) _ _ _
  obtain ⟨hp, g, dr, tk, os⟩ := s1; have hsz : hp.objs.size ≤ hp.objs.size + 1 := Nat.le_succ _; have hn : H1 (hp.objs.size + 1) = none := I1.hok.fresh hsz; have hq := q1 (hp.objs.size + 1) hn
  have kk : ∀ b o, hp.get? b = some o → ((hp.push (PySem.W.kdv_tup us)).push (PySem.HandSPX.excO C hp.objs.size)).get? b = some o := fun b o z => Heap.get?_push_of_some _ (Heap.get?_push_of_some _ z)
  have hget : ((hp.push (PySem.W.kdv_tup us)).push (PySem.HandSPX.excO C hp.objs.size)).get? (hp.objs.size + 1) = some (PySem.HandSPX.excO C hp.objs.size) := by (heap_get)
  have I2 : Inv X pins σ (upd H1 (hp.objs.size + 1) (exo (hp.objs.size + 1) C none)) ⟨(hp.push (PySem.W.kdv_tup us)).push (PySem.HandSPX.excO C hp.objs.size), g, dr, tk, os⟩ := I1.laid (t' := tk) (a := hp.objs.size + 1) (o := exo (hp.objs.size + 1) C none) (h' := (hp.push (PySem.W.kdv_tup us)).push (PySem.HandSPX.excO C hp.objs.size)) kk hsz (exo_ok hget)
  have r2 : Vals (V.ref (hp.objs.size + 1) :: (vs ++ dvs)) (Value.ref (hp.objs.size + 1) :: (us ++ ds)) := .cons rfl (r1.append hd)
  have hl : (Value.ref (hp.objs.size + 1) :: us ++ ds).length = ps.length := by have z := r2.length; rw [F1.len _ _ _ _ hq] at z; exact z.symm
  have hus : us.length ≤ sizeLine := by rw [← Paired.length r1, sizeLine_eq]; omega
  refine wpAny_call (PySem.HandSPX.call_own F.excBase_ValueError (fun Y => PySem.HandSPX.refsVE_contains Y bm hbm) (I1.kIn _ _ hC) (PySem.W.looks_findIn I1.kIn iC) (fun self => PySem.W.bind_fn I1.kIn self tI) hus (codeAny_mono (F1.run _ X.stack _ _ ⟨Value.ref (hp.objs.size + 1) :: us, []⟩ (Value.ref (hp.objs.size + 1) :: (us ++ ds)) _ _ (fun _ _ _ => False) (hr.make C us []) (I2.env0.make C us []) (hb _ (Value.ref (hp.objs.size + 1) :: us) I2.kIn hl) r2 hq) fun r s' hq' => ?_))
  cases r with
  | error er => exact hx pins σ _ _ er s' I2 hq'
  | ok fl =>
    cases fl with
    | ret u => obtain ⟨v, H2, os2, bare2, un2, hok2, rv, ev, d, fs, ea, ed, hd1, q2⟩ := hq'; subst ev; obtain ⟨h2, g2, d2, t2, os'⟩ := s'; exact ⟨rv, mk_endN (raises_own T.exC T.tyC) I1 hsz kk un2 hok2 os2 bare2 ea ed hd1 q2⟩
    | next => exact False.elim hq'
    | brk => exact False.elim hq'
    | cont => exact False.elim hq'
theorem passLN {X : Cx} : Passes (L2N.CX X.prog X.w) X (fun _ _ _ => False) := fun _ _ _ _ _ _ _ h => by
  obtain ⟨a, B, H', cls, d, _, _, _, _, _, _, _, z⟩ := h
  exact z.elim
/-- except C: without a name -/
theorem ps_try_onlyN {X : Cx} {x : Str} {c : Value} {body suite : List Stmt} {b₀ : Stmt} {np pos pos' : Pos} {tb : WX → TS} {ts : Addr → Value → Option Addr → TS} {Wout : WX} (hs : X.stack = X.env :: X.outer) (hf : X.env.frame = some X.env.locals) (hc : Names X x c) (tk : L2N.Takes X Wout)
    (hb : ∀ (W : WX) (pn : List (Addr × Obj)) (xe : Value → Shared → Prop), L2N.Takes (X.tr pn xe) W → PassesOwn (model X.prog X.w) X.A X.env xe → PSs (X.tr pn xe) body (tb W))
    (hsu : ∀ (a : Addr) (oe : Obj) (cls : Value) (d : Option Addr) (pn : List (Addr × Obj)), L2N.Zn cls d oe → (∃ vs, oe.data = .fields vs) → PSs (X.suite a ((a, oe) :: pn)) (b₀ :: suite) (ts a cls d)) :
    PS X (.Try body [.ExceptHandler (some (.Name x np)) none (b₀ :: suite) pos'] [] [] pos) (fun D σ H => tb (wOnly X.K c ts Wout D) D σ H) := L2N.ps_try_many (l := [(c, ts)]) hs hf tk hb (.cons hc hsu .nil)
end Pu
namespace Pu
open PySem PySem.Spec L2
section
variable {P : Program} {w : World} {K : PySem.W.Frag} {mg : Str → Option Value} {base : Heap} {cA : String → Addr}
theorem def_okN {x qual : Str} {st : Stmt} {f : Addr} {fd : FuncData} {N ps : List Str} {k n : Nat} {b : Option Nat} {body : S} (F : Fun K x qual st f fd) (S : FnScope N ps (defScope st)) (hn : N.length = n) (hb : ∀ i, b = some i → i < ps.length)
    (hbody : ∀ (cdv : Value) (A : Around) (outer : List Env) (s : Shared) (H : Hp) (E : XK), Room k (A.deeper (PyProof.Rows.envOfC qual (defScope st) s.heap.objs.size f cdv)) →
      ISs cA ⟨bsO b, []⟩ (fun cls d _ H => E cls d H) (cxOf (L2N.CX P w) P w K mg base N qual (defScope st) f cdv A outer s H E) (defBody st) body) : FnOk P w K mg base (L2N.CX P w) (k + 1) f fd ps (spOf K cA ps.length b (mDef n b body)) := by
  subst hn
  refine okXN F S (fun vs H Q E h => ?_) (fun cdv A outer s H vs Q E hr h => ⟨_, hbody cdv A outer s H E hr, ?_⟩)
  · obtain ⟨C, O, B, args, e, _⟩ := h; exact e
  · obtain ⟨C, O, B, args, hl, hBe, hB, hO, R0, k⟩ := h
    have hB0 : B.ids = bsO b := by unfold Bx.ids; rw [hBe, hB]; simp
    have hla : args.length = vs.length := by have := R0.len; rw [List.length_map, List.length_map] at this; exact this
    have R1 := R0.pad (k := N.length - vs.length) (fun p hp => by
      rw [List.length_map, hla, hl]
      rw [hB0] at hp
      cases b with
      | none => cases hp
      | some i =>
        have : p = i := by simpa [bsO] using hp
        rw [this]; exact hb i rfl)
    refine ⟨C, B, O, Pu.pad N.length args, ⟨hB0, by rw [hBe]; rfl⟩, ?_, ?_⟩
    · unfold Pu.pad
      rw [hla]
      exact R1
    · unfold mDef at k
      cases e : body (Pu.pad N.length args) with
      | nx σ =>
        simp only [e] at k
        intro O' y H' R2 F2
        obtain ⟨out, k2, ho⟩ := out_of (P := fun c => match c with
          | .ret v out => ∀ O' w H', Fr O H O' H' → RetOk K C O' H H' w v → OutOk K C O' H' O out → Q w H'
          | .raise x out => ∀ O' H' d fsv, Fr O H O' H' → OutOk K C O' H' O out → hide (O' ++ C) H' d = some (.xd fsv) → FsOk K (hide (O' ++ C) H') fsv x.fs → E (.ref (cA x.c)) (some d) H'
          | .stuck => False) hB hO R2 (fun z => z) k
        exact k2 O' .non H' F2 Dp.non ho
      | rt v σ =>
        simp only [e] at k
        intro O' y H' u R2 F2 ru
        obtain ⟨out, k2, ho⟩ := out_of (P := fun c => match c with
          | .ret v out => ∀ O' w H', Fr O H O' H' → RetOk K C O' H H' w v → OutOk K C O' H' O out → Q w H'
          | .raise x out => ∀ O' H' d fsv, Fr O H O' H' → OutOk K C O' H' O out → hide (O' ++ C) H' d = some (.xd fsv) → FsOk K (hide (O' ++ C) H') fsv x.fs → E (.ref (cA x.c)) (some d) H'
          | .stuck => False) hB hO R2 (fun z => z) k
        exact k2 O' u H' F2 (retOk_of hO F2 ru) ho
      | rs x σ =>
        simp only [e] at k
        intro O' y H' d fsv R2 F2 h1 h2
        obtain ⟨out, k2, ho⟩ := out_of (P := fun c => match c with
          | .ret v out => ∀ O' w H', Fr O H O' H' → RetOk K C O' H H' w v → OutOk K C O' H' O out → Q w H'
          | .raise x out => ∀ O' H' d fsv, Fr O H O' H' → OutOk K C O' H' O out → hide (O' ++ C) H' d = some (.xd fsv) → FsOk K (hide (O' ++ C) H') fsv x.fs → E (.ref (cA x.c)) (some d) H'
          | .stuck => False) hB hO R2 (fun z => z) k
        exact k2 O' H' d fsv F2 ho h1 h2
      | bk σ => simp only [e] at k
      | ct σ => simp only [e] at k
      | stuck => simp only [e] at k
theorem def_okH {x qual : Str} {st : Stmt} {f : Addr} {fd : FuncData} {N ps : List Str} {k n : Nat} {b : Option Nat} {body : S} (F : Fun K x qual st f fd) (S : FnScope N ps (defScope st)) (hn : N.length = n) (hb : ∀ i, b = some i → i < ps.length)
    (hbody : ∀ (cdv : Value) (A : Around) (outer : List Env) (s : Shared) (H : Hp) (E : XK) (p : Addr × Obj), L2H.Hot1 A p → L2H.RoomH k (A.deeper (PyProof.Rows.envOfC qual (defScope st) s.heap.objs.size f cdv)) →
      ISs cA ⟨bsO b, []⟩ (fun cls d _ H => E cls d H) (L2H.cxH (L2N.CX P w) P w K mg base N qual (defScope st) f cdv A outer s H E p) (defBody st) body) : L2H.FnH P w K mg base (L2N.CX P w) (k + 1) f fd ps (spOf K cA ps.length b (mDef n b body)) := by
  subst hn
  refine okXH F S (fun vs H Q E h => ?_) (fun cdv A outer s H vs Q E p ht hr h => ⟨_, hbody cdv A outer s H E p ht hr, ?_⟩)
  · obtain ⟨C, O, B, args, e, _⟩ := h; exact e
  · obtain ⟨C, O, B, args, hl, hBe, hB, hO, R0, k⟩ := h
    have hB0 : B.ids = bsO b := by unfold Bx.ids; rw [hBe, hB]; simp
    have hla : args.length = vs.length := by have := R0.len; rw [List.length_map, List.length_map] at this; exact this
    have R1 := R0.pad (k := N.length - vs.length) (fun p hp => by
      rw [List.length_map, hla, hl]
      rw [hB0] at hp
      cases b with
      | none => cases hp
      | some i =>
        have : p = i := by simpa [bsO] using hp
        rw [this]; exact hb i rfl)
    refine ⟨C, B, O, Pu.pad N.length args, ⟨hB0, by rw [hBe]; rfl⟩, ?_, ?_⟩
    · unfold Pu.pad
      rw [hla]
      exact R1
    · unfold mDef at k
      cases e : body (Pu.pad N.length args) with
      | nx σ =>
        simp only [e] at k
        intro O' y H' R2 F2
        obtain ⟨out, k2, ho⟩ := out_of (P := fun c => match c with
          | .ret v out => ∀ O' w H', Fr O H O' H' → RetOk K C O' H H' w v → OutOk K C O' H' O out → Q w H'
          | .raise x out => ∀ O' H' d fsv, Fr O H O' H' → OutOk K C O' H' O out → hide (O' ++ C) H' d = some (.xd fsv) → FsOk K (hide (O' ++ C) H') fsv x.fs → E (.ref (cA x.c)) (some d) H'
          | .stuck => False) hB hO R2 (fun z => z) k
        exact k2 O' .non H' F2 Dp.non ho
      | rt v σ =>
        simp only [e] at k
        intro O' y H' u R2 F2 ru
        obtain ⟨out, k2, ho⟩ := out_of (P := fun c => match c with
          | .ret v out => ∀ O' w H', Fr O H O' H' → RetOk K C O' H H' w v → OutOk K C O' H' O out → Q w H'
          | .raise x out => ∀ O' H' d fsv, Fr O H O' H' → OutOk K C O' H' O out → hide (O' ++ C) H' d = some (.xd fsv) → FsOk K (hide (O' ++ C) H') fsv x.fs → E (.ref (cA x.c)) (some d) H'
          | .stuck => False) hB hO R2 (fun z => z) k
        exact k2 O' u H' F2 (retOk_of hO F2 ru) ho
      | rs x σ =>
        simp only [e] at k
        intro O' y H' d fsv R2 F2 h1 h2
        obtain ⟨out, k2, ho⟩ := out_of (P := fun c => match c with
          | .ret v out => ∀ O' w H', Fr O H O' H' → RetOk K C O' H H' w v → OutOk K C O' H' O out → Q w H'
          | .raise x out => ∀ O' H' d fsv, Fr O H O' H' → OutOk K C O' H' O out → hide (O' ++ C) H' d = some (.xd fsv) → FsOk K (hide (O' ++ C) H') fsv x.fs → E (.ref (cA x.c)) (some d) H'
          | .stuck => False) hB hO R2 (fun z => z) k
        exact k2 O' H' d fsv F2 ho h1 h2
      | bk σ => simp only [e] at k
      | ct σ => simp only [e] at k
      | stuck => simp only [e] at k
end
section
variable {X : Cx} {cA : String → Addr} {bs : Bs} {W : WX} {a b c e : Expr} {es : List Expr} {ms : M (List Ag)} {pos p : Pos} {x : Str} {k : Nat} {f : Addr} {fd : FuncData} {ps : List Str} {m : Fd} {br : Option Nat} {n : Nat} {kws : List Keyword}
theorem ic_callN (F : FnOk X.prog X.w X.K X.mg X.base (L2N.CX X.prog X.w) k f fd ps (spOf X.K cA n br m)) (hn : n = ps.length) (hr : Room k X.A) (hm : X.mg x = some (.ref f)) (hk : PySem.W.keepIn X.K (.ref f) = true) (hb : Binds X.K fd ps []) (tk : L2N.Takes X W) (ha : IG' cA bs W X (e :: es) ms)
    (hg : Gl X x) (hdb : (x == ("__debug__" : Str)) = false := by decide) (he : starEach (e :: es) X.env = (false, eval e X.env) :: starEach es X.env := by rfl) (hpl : (backTo pos (starEach es X.env)).any (·.1) = false := by rfl) :
    IC cA bs W X (.Call (.Name x p) (e :: es) [] pos) (mCall n m br ms) := (pe_callS F hr hg hm hk hb (fun σ => L2N.passAt tk σ) ha hdb he hpl).wk fun _ _ _ h => tCall_of hn h
theorem ic_call0N (F : FnOk X.prog X.w X.K X.mg X.base (L2N.CX X.prog X.w) k f fd ps (spOf X.K cA n br m)) (hn : n = ps.length) (hr : Room k X.A) (hm : X.mg x = some (.ref f)) (hk : PySem.W.keepIn X.K (.ref f) = true) (hb : Binds X.K fd ps []) (tk : L2N.Takes X W)
    (hg : Gl X x) (hdb : (x == ("__debug__" : Str)) = false := by decide) : IC cA bs W X (.Call (.Name x p) [] [] pos) (mCall n m br gNilA) := by
  refine ⟨fun pins s σ H Q I h => ?_⟩
  refine wpAny_Call_Name_kw (ld_glob I hg hm ?_ hdb)
  refine PySem.W.callWith_K0 I.kIn hk (run_fnS (us := []) (vs := []) F hr hb (L2N.passAt tk σ) I .nil ?_)
  have h2 := tCall_of (ms := gNilA) hn h
  obtain ⟨C, B, O, σ1, hB, R0, kk⟩ := h2
  exact kk O [] H R0 Fr.refl ⟨rfl, fun k x e => by simp at e, fun k i e => by simp at e⟩

/-! ### f(k = v, ..) -/
theorem ic_kwN {ks : List Str} {is : List Nat} {ms : M (List D)} (F : FnOk X.prog X.w X.K X.mg X.base (L2N.CX X.prog X.w) k f fd ps (spOf X.K cA n none m)) (hn : n = ps.length) (hr : Room k X.A) (hm : X.mg x = some (.ref f)) (hk : PySem.W.keepIn X.K (.ref f) = true)
    (hb : ∀ ws : List Value, ws.length = ks.length → bindArgs fd ⟨[], ks.zip ws⟩ = pure (ps.zip (permL is ws))) (tk : L2N.Takes X W) (ha : IK cA bs W X kws ms) (hg : Gl X x)
    (hall : (backToKw pos (keywordEach kws X.env)).all (·.1.isSome) = true := by rfl) (hks : (backToKw pos (keywordEach kws X.env)).filterMap (·.1) = ks := by rfl)
    (hdb : (x == ("__debug__" : Str)) = false := by decide) (hpl : ((backTo pos (starEach [] X.env)).any (·.1) || (backToKw pos (keywordEach kws X.env)).any (·.1.isNone)) = false := by rfl) (hlen : ∀ (σ σ1 : Loc) (ds : List D), ms σ = .ok ds σ1 → ds.length = ks.length) :
    IC cA bs W X (.Call (.Name x p) [] kws pos) (mKw n m is ms) := by
  refine ⟨fun pins s σ H Q I h => ?_⟩
  refine wpAny_Call_Name_kw (ld_glob I hg hm ?_ hdb)
  refine PySem.W.callWith_KW0 (h₀ := X.base) I.ok.mod.kin hk hall ?_ hpl
  obtain ⟨C, B, O, σ0, hB, R0, kk⟩ := h
  have key : tG X.K cA W bs rDs ms σ H (fun zs H1 => zs.length = ks.length ∧ spOf X.K cA n none m (permL is zs) H1 Q (WE W σ)) := by
    refine ⟨C, B, O, σ0, hB, R0, ?_⟩
    unfold mKw at kk
    cases em : ms σ0 with
    | stuck => rw [em] at kk; exact kk.elim
    | raise x σ1 => rw [em] at kk; exact kk
    | ok ds σ1 =>
      rw [em] at kk
      intro O' zs H' R1 F1 d1
      have d1 : DpAll X.K (hide (O' ++ C) H') zs ds := d1
      refine ⟨by rw [d1.length]; exact hlen σ0 σ1 ds em, ?_⟩
      have kk : KG X.K cA W rR C B O H σ Q (if (permL is ds).length = n then callRes m ((permL is ds).map Ag.d) none σ1 else .stuck) := kk
      have dd := permL_dps d1 is
      by_cases hl : (permL is ds).length = n
      · rw [if_pos hl] at kk
        refine call_core R1 ⟨by rw [dd.length, List.length_map], fun k x e => ?_, fun k i e => ?_⟩ (by rw [List.length_map]; exact hl) (kk.on F1)
        · rw [List.getElem?_map] at e
          cases q : (permL is ds)[k]? with
          | none => rw [q] at e; cases e
          | some d => rw [q] at e; cases e; exact dd.get q
        · rw [List.getElem?_map] at e
          cases q : (permL is ds)[k]? with
          | none => rw [q] at e; cases e
          | some d => rw [q] at e; cases e
      · rw [if_neg hl] at kk; exact kk.elim
  refine thn (ha.run pos pins s σ H _ I key) fun ws s2 ⟨zs, H2, I2, rz, hzl, q2⟩ => ⟨I2.kIn, ?_⟩
  rw [hks]
  show wpAny _ _ (call (.ref f) ([] ++ []) (ks.zip ws)) _ _ _
  have r2 := permL_vals rz is
  have hwl : ws.length = ks.length := by rw [← rz.length]; exact hzl
  refine wpAny_call (codeAny_mono (F.run X.A X.stack s2 H2 ⟨[], ks.zip ws⟩ (permL is ws) (permL is zs) Q (WE W σ) hr I2.env0 (.of_eq (hb ws hwl)) r2 q2) fun r s' hq => ?_)
  cases r with
  | error e => exact L2N.passAt tk σ pins H2 s2 e s' I2 hq
  | ok fl =>
    cases fl with
    | ret u => exact I2.after hq
    | next => exact False.elim hq
    | brk => exact False.elim hq
    | cont => exact False.elim hq
theorem ic_callH (F : L2H.FnH X.prog X.w X.K X.mg X.base (L2N.CX X.prog X.w) k f fd ps (spOf X.K cA n br m)) (hn : n = ps.length) (hr : L2H.RoomH k X.A) (hot : L2H.HotC X) (hm : X.mg x = some (.ref f)) (hk : PySem.W.keepIn X.K (.ref f) = true) (hb : Binds X.K fd ps []) (tk : L2N.Takes X W) (ha : IG' cA bs W X (e :: es) ms)
    (hg : Gl X x) (hdb : (x == ("__debug__" : Str)) = false := by decide) (he : starEach (e :: es) X.env = (false, eval e X.env) :: starEach es X.env := by rfl) (hpl : (backTo pos (starEach es X.env)).any (·.1) = false := by rfl) :
    IC cA bs W X (.Call (.Name x p) (e :: es) [] pos) (mCall n m br ms) := (L2H.pe_callH F hr hot hg hm hk hb (fun σ => L2N.passAt tk σ) ha hdb he hpl).wk fun _ _ _ h => tCall_of hn h
/-- f() -/
theorem hotc_of {a : Addr} {oe : Obj} {cls : Value} {d : Option Addr} {pn : List (Addr × Obj)} (hz : L2N.Zn cls d oe) (hv : ∃ vs, oe.data = .fields vs) : L2H.HotC (X.suite a ((a, oe) :: pn)) := by
  obtain ⟨vs, e⟩ := hv
  exact ⟨(a, oe), ⟨rfl, vs, e, hz.2.2 vs e⟩, List.mem_cons_self⟩
theorem roomS {a : Addr} {pn : List (Addr × Obj)} (hr : Room k X.A) : L2H.RoomH k (X.suite a pn).A := ⟨hr.dp, hr.un⟩
end
section
variable {X : Cx} {cA : String → Addr} {bs : Bs} {W : WX} {a b e : Expr} {es : List Expr} {ms : M (List D)} {pos p pos2 : Pos} {x : Str} {k : Nat} {fI : Addr} {fd : FuncData} {ps : List Str} {c : String} {f1 f2 : Str}
theorem is_raise2N (hc : X.calm = true) (tk : L2N.Takes X W) (T : OexC X.K (cA c)) (iC : PySem.W.findIn X.K (.ref (cA c)) "__init__" = some (some (.ref fI))) (tI : PySem.W.typeIn X.K (.ref fI) = some (.type "function")) (n1 : PySem.W.findIn X.K (.ref (cA c)) f1 = some none) (n2 : PySem.W.findIn X.K (.ref (cA c)) f2 = some none)
    (F : FnOk X.prog X.w X.K X.mg X.base (L2N.CX X.prog X.w) k fI fd ps (spIni2 X.K f1 f2)) (hr : Room (k + 1) X.A) (hb : Binds X.K fd ps []) (hm : X.mg x = some (.ref (cA c))) (ha : IA cA bs W X (e :: es) ms) (hg : Gl X x)
    (hdb : (x == ("__debug__" : Str)) = false := by decide) (he : starEach (e :: es) X.env = (false, eval e X.env) :: starEach es X.env := by rfl) (hpl : (backTo pos (starEach es X.env)).any (·.1) = false := by rfl) :
    IS cA bs W X (.Raise (some (.Call (.Name x p) (e :: es) [] pos)) none pos2) (sRaise2 c f1 f2 ms) := (L2N.ps_raise hc tk (pmk_oexN T iC tI F hr hb .nil passLN hg hm ha hdb he hpl)).wk fun E y H h => by
  obtain ⟨C, B, O, σ, hB, R0, k⟩ := h
  refine ⟨C, B, O, σ, hB, R0, (KS.bind (rel := rDs) k).imp fun vs H1 ⟨ds, σ1, O1, R1, F1, d1, k1⟩ => ?_⟩
  split at k1
  · obtain ⟨v, v', rfl, h9, h8⟩ := dps2 d1
    refine ⟨(by show 2 ≤ 1000; decide), fun a ha => ⟨a, cA c, v, v', rfl, T, n1, n2, upd_same, fun dx hdx ndx => ⟨rfl, dx, [(f2, v'), (f1, v)], ?_, upd_same, ?_, ?_⟩⟩⟩
    · rw [upd_ne ndx.symm, upd_same]
    · rw [← hdx, upd_ne ndx]
    · rw [made_eq ha ndx]
      have hd1 : H1 dx = none := by rw [← hdx, upd_ne ndx]
      obtain ⟨R3, F3⟩ := R1.laid (o := .xd [(f2, v'), (f1, v)]) hd1
      obtain ⟨s1, s2⟩ := hide_upd (o := .xd [(f2, v'), (f1, v)]) hd1 (R1.ninA hd1)
      exact k1 O1 y _ dx _ R3 F3 s2 (.cons ⟨rfl, dp_mono s1 h8⟩ (.cons ⟨rfl, dp_mono s1 h9⟩ .nil))
  · exact k1.elim
theorem is_raise1N (hc : X.calm = true) (tk : L2N.Takes X W) (T : OexC X.K (cA c)) (iC : PySem.W.findIn X.K (.ref (cA c)) "__init__" = some (some (.ref fI))) (tI : PySem.W.typeIn X.K (.ref fI) = some (.type "function")) (n1 : PySem.W.findIn X.K (.ref (cA c)) f1 = some none)
    (F : FnOk X.prog X.w X.K X.mg X.base (L2N.CX X.prog X.w) k fI fd ps (spIni1 X.K f1)) (hr : Room (k + 1) X.A) (hb : Binds X.K fd ps []) (hm : X.mg x = some (.ref (cA c))) (ha : IA cA bs W X (e :: es) ms) (hg : Gl X x)
    (hdb : (x == ("__debug__" : Str)) = false := by decide) (he : starEach (e :: es) X.env = (false, eval e X.env) :: starEach es X.env := by rfl) (hpl : (backTo pos (starEach es X.env)).any (·.1) = false := by rfl) :
    IS cA bs W X (.Raise (some (.Call (.Name x p) (e :: es) [] pos)) none pos2) (sRaise1 c f1 ms) := (L2N.ps_raise hc tk (pmk_oexN T iC tI F hr hb .nil passLN hg hm ha hdb he hpl)).wk fun E y H h => by
  obtain ⟨C, B, O, σ, hB, R0, k⟩ := h
  refine ⟨C, B, O, σ, hB, R0, (KS.bind (rel := rDs) k).imp fun vs H1 ⟨ds, σ1, O1, R1, F1, d1, k1⟩ => ?_⟩
  split at k1
  · obtain ⟨v, rfl, h9⟩ := dps1 d1
    refine ⟨(by show 1 ≤ 1000; decide), fun a ha => ⟨a, cA c, v, rfl, T, n1, upd_same, fun dx hdx ndx => ⟨rfl, dx, [(f1, v)], upd_same, ?_, ?_, ?_⟩⟩⟩
    · rw [upd_ne ndx, upd_same]
    · rw [← hdx, upd_ne ndx]
    · rw [made_eq1 ha ndx]
      have hd1 : H1 dx = none := by rw [← hdx, upd_ne ndx]
      obtain ⟨R3, F3⟩ := R1.laid (o := .xd [(f1, v)]) hd1
      obtain ⟨s1, s2⟩ := hide_upd (o := .xd [(f1, v)]) hd1 (R1.ninA hd1)
      exact k1 O1 y _ dx _ R3 F3 s2 (.cons ⟨rfl, dp_mono s1 h9⟩ .nil)
  · exact k1.elim
end
section
variable {X : Cx} {cA : String → Addr} {bs : Bs} {W : WX} {pos pos' np : Pos} {x n : Str} {c0 : String} {nm : List String} {i : Nat} {body suite : List Stmt} {b₀ : Stmt} {sb su : S}
theorem is_tryAsN (hs : X.stack = X.env :: X.outer) (hf : X.env.frame = some X.env.locals) (hN : X.N.Nodup) (hi : X.N[i]? = some n) (hln : X.env.kindOf n = some .local) (hc : Names X x (.ref (cA c0))) (tk : L2N.Takes X W)
    (hte : PySem.W.exmOne X.K (.ref (cA c0)) (.ref (cA c0)) = some true) (hnm : ∀ c ∈ nm, PySem.W.exmOne X.K (.ref (cA c)) (.ref (cA c0)) = some false) (hil : ∀ (C : List Addr) (B : Bx) (O : List Addr) (σ : Loc) (y : St) (H : Hp), R X.K C B O σ y H → B.is bs → i ∉ B.ids)
    (hb : ∀ (W : WX) (pn : List (Addr × Obj)) (xe : Value → Shared → Prop), L2N.Takes (X.tr pn xe) W → PassesOwn (model X.prog X.w) X.A X.env xe → ISs cA bs W (X.tr pn xe) body sb)
    (hsu : ∀ (a : Addr) (oe : Obj) (dd : Addr) (pn : List (Addr × Obj)), L2N.Zn (.ref (cA c0)) (some dd) oe → (∃ vs, oe.data = .fields vs) → ISs cA ⟨bs.ids ++ [i], bs.xs ++ [(i, a, dd)]⟩ W0 (X.suite a ((a, oe) :: pn)) (b₀ :: suite) su) :
    IS cA bs W X (.Try body [.ExceptHandler (some (.Name x np)) (some n) (b₀ :: suite) pos'] [] [] pos) (sTryAs sb c0 nm i su) :=
  (L2N.ps_try_as (tb := fun W => tS X.K cA W bs sb) (ts := fun a cls d E y H => cls = .ref (cA c0) ∧ ∃ dd, d = some dd ∧ tS X.K cA W0 ⟨bs.ids ++ [i], bs.xs ++ [(i, a, dd)]⟩ su E y H) hs hf hN hi hln hc tk hb (fun a oe cls d pn hz hv => psS_ex fun e1 dd e2 => by
    subst e1; subst e2
    exact hsu a oe dd pn hz hv)).wk fun E y H h => by
      obtain ⟨C, B, O, σ, hB, R0, k⟩ := h
      refine ⟨C, B, O, σ, hB, R0, ?_⟩
      unfold sTryAs at k
      cases eb : sb σ with
      | nx σ1 => rw [eb] at k; exact k
      | bk σ1 => rw [eb] at k; exact k
      | ct σ1 => rw [eb] at k; exact k
      | rt v σ1 => rw [eb] at k; exact k
      | stuck => rw [eb] at k; exact k
      | rs ex σ1 =>
        rw [eb] at k
        intro O' y' H' d fsv R1 F1 hd hf1
        by_cases hcx : ex.c = c0
        · have k : KS X.K cA W C B O H E (if ex.c = c0 then (if i < σ1.length then (su (σ1.set i (some (.e ex.fs)))).behind i else .stuck) else if ex.c ∈ nm then .rs ex σ1 else .stuck) := k
          rw [if_pos hcx] at k
          by_cases hil2 : i < σ1.length
          case neg => rw [if_neg hil2] at k; exact k.elim
          rw [if_pos hil2] at k
          rw [hcx]
          refine ⟨true, hte, fun _ a ha => ⟨rfl, d, rfl, C, ⟨B.r, B.e ++ [⟨i, a, d, ex.fs⟩]⟩, O', σ1.set i (some (.e ex.fs)), ?_, ?_, ?_⟩, fun z => nomatch z⟩
          · constructor
            · unfold Bx.ids
              rw [List.map_append, ← List.append_assoc]
              have := hB.1
              unfold Bx.ids at this
              rw [this]; rfl
            · rw [List.map_append, hB.2]; rfl
          · exact R1.held (hil C B O' σ1 y' H' R1 hB) hil2 hd hf1
          · exact behind_of rfl (hil C B O' σ1 y' H' R1 hB) (k.on F1)
        · have k : KS X.K cA W C B O H E (if ex.c = c0 then (if i < σ1.length then (su (σ1.set i (some (.e ex.fs)))).behind i else .stuck) else if ex.c ∈ nm then .rs ex σ1 else .stuck) := k
          rw [if_neg hcx] at k
          by_cases hm : ex.c ∈ nm
          · rw [if_pos hm] at k
            exact ⟨false, hnm _ hm, (fun z => nomatch z), fun _ => k O' y' H' d fsv R1 F1 hd hf1⟩
          · rw [if_neg hm] at k; exact k.elim
theorem is_tryN (hs : X.stack = X.env :: X.outer) (hf : X.env.frame = some X.env.locals) (hc : Names X x (.ref (cA c0))) (tk : L2N.Takes X W)
    (hte : PySem.W.exmOne X.K (.ref (cA c0)) (.ref (cA c0)) = some true) (hnm : ∀ c ∈ nm, PySem.W.exmOne X.K (.ref (cA c)) (.ref (cA c0)) = some false)
    (hb : ∀ (W : WX) (pn : List (Addr × Obj)) (xe : Value → Shared → Prop), L2N.Takes (X.tr pn xe) W → PassesOwn (model X.prog X.w) X.A X.env xe → ISs cA bs W (X.tr pn xe) body sb)
    (hsu : ∀ (a : Addr) (oe : Obj) (dd : Addr) (pn : List (Addr × Obj)), L2N.Zn (.ref (cA c0)) (some dd) oe → (∃ vs, oe.data = .fields vs) → ISs cA bs W0 (X.suite a ((a, oe) :: pn)) (b₀ :: suite) su) :
    IS cA bs W X (.Try body [.ExceptHandler (some (.Name x np)) none (b₀ :: suite) pos'] [] [] pos) (sTry sb c0 nm su) :=
  (ps_try_onlyN (tb := fun W => tS X.K cA W bs sb) (ts := fun a cls d E y H => cls = .ref (cA c0) ∧ ∃ dd, d = some dd ∧ tS X.K cA W0 bs su E y H) hs hf hc tk hb (fun a oe cls d pn hz hv => psS_ex fun e1 dd e2 => by
    subst e1; subst e2
    exact hsu a oe dd pn hz hv)).wk fun E y H h => by
      obtain ⟨C, B, O, σ, hB, R0, k⟩ := h
      refine ⟨C, B, O, σ, hB, R0, ?_⟩
      unfold sTry at k
      cases eb : sb σ with
      | nx σ1 => rw [eb] at k; exact k
      | bk σ1 => rw [eb] at k; exact k
      | ct σ1 => rw [eb] at k; exact k
      | rt v σ1 => rw [eb] at k; exact k
      | stuck => rw [eb] at k; exact k
      | rs ex σ1 =>
        rw [eb] at k
        intro O' y' H' d fsv R1 F1 hd hf1
        have k : KS X.K cA W C B O H E (if ex.c = c0 then (su σ1).noRs else if ex.c ∈ nm then .rs ex σ1 else .stuck) := k
        by_cases hcx : ex.c = c0
        · rw [if_pos hcx] at k
          rw [hcx]
          exact ⟨true, hte, fun _ a ha => ⟨rfl, d, rfl, C, B, O', σ1, hB, R1, noRs_of (k.on F1)⟩, fun z => nomatch z⟩
        · rw [if_neg hcx] at k
          by_cases hm : ex.c ∈ nm
          · rw [if_pos hm] at k
            exact ⟨false, hnm _ hm, (fun z => nomatch z), fun _ => k O' y' H' d fsv R1 F1 hd hf1⟩
          · rw [if_neg hm] at k; exact k.elim
end
theorem tk0N {X : Cx} : L2N.Takes X W0 := fun u s' ⟨_, _, _, _, _, _, _, _, _, _, _, _, _, _, _, _, w⟩ => w.elim
theorem fn_stuckN {P : Program} {w : World} {K : PySem.W.Frag} {mg : Str → Option Value} {base : Heap} {cA : String → Addr} {k n : Nat} {b : Option Nat} {f : Addr} {fd : FuncData} {ps : List Str} : FnOk P w K mg base (L2N.CX P w) k f fd ps (spOf K cA n b fun _ => .stuck) := by
  refine ⟨fun vs H Q E h => ?_, ?_⟩
  · obtain ⟨C, O, B, args, _, _, _, _, _, h⟩ := h
    exact h.elim
  · intros
    rename_i h
    obtain ⟨C, O, B, args, _, _, _, _, _, h⟩ := h
    exact h.elim
theorem fnH_stuck {P : Program} {w : World} {K : PySem.W.Frag} {mg : Str → Option Value} {base : Heap} {cA : String → Addr} {k n : Nat} {b : Option Nat} {f : Addr} {fd : FuncData} {ps : List Str}   : L2H.FnH P w K mg base (L2N.CX P w) k f fd ps (spOf K cA n b fun _ => .stuck) := by
  refine ⟨fun vs H Q E h => ?_, ?_⟩
  · obtain ⟨C, O, B, args, _, _, _, _, _, h⟩ := h
    exact h.elim
  · intros
    rename_i h
    obtain ⟨C, O, B, args, _, _, _, _, _, h⟩ := h
    exact h.elim
theorem cx_noneN {P : Program} {w : World} {H : Hp} {s : Shared} {e : Value} {s' : Shared} (h : L2N.CX P w [] H s (fun _ _ _ => False) e s') : False := by
  obtain ⟨a, B, H', cls, d, _, _, _, _, _, _, _, z⟩ := h
  exact z
end Pu
namespace Pu
open PySem PySem.Spec L2
section
variable {X : Cx} {cA : String → Addr} {bs : Bs} {W : WX} {tg iter a : Expr} {vs : List Nat} {pt : Pt} {s : S} {pos p : Pos} {ms : M (List D)}
abbrev IIH (cA : String → Addr) (bs : Bs) (W : WX) (X : Cx) (tg iter : Expr) (m : M (List D)) : Prop := L2H.PIH X tg iter (tG X.K cA W bs rIt m)
theorem ii_range1H (hg : Gl X "range") (hm : X.mg "range" = none) (ha : IA cA bs W X [a] ms) (hs : starEach [a] X.env = [(false, eval a X.env)] := by rfl) : IIH cA bs W X tg (.Call (.Name "range" p) [a] [] pos) (mRange1 ms) := ⟨fun pins s σ H R I h => (L2H.pi_range1H hg hm ha hs).run pins s σ H R I (by
  obtain ⟨C, B, O, σ, hB, R0, k⟩ := h
  refine ⟨C, B, O, σ, hB, R0, (KG.bind (rel := rDs) k).imp fun x H1 ⟨ds, σ1, O1, R1, F1, d1, k1⟩ => ?_⟩
  split at k1
  · split at k1
    · rename_i n hn
      obtain ⟨v, rfl, h9⟩ := dps1 d1
      cases h9
      exact ⟨n, rfl, hn.1, hn.2, k1 O1 _ H1 R1 Fr.refl itg_range⟩
    · exact k1.elim
  · exact k1.elim)⟩
theorem is_forH {m : M (List D)} {body : List Stmt} (hp : PassesOwn (model X.prog X.w) X.A X.env X.xe) (hot : L2H.HotC X) (hi : IIH cA bs W X tg iter m) (hg : IG vs bs X tg pt) (hb : ISs cA bs W X body s) (hs : ∀ x, foldedSetIterable iter X.env x = pure x := by intro _; rfl) : IS cA bs W X (.For tg iter body [] pos) (sFor m pt s) :=
  (L2H.ps_forH hp hot hi hg hb hs).wk fun E y H h => by
    obtain ⟨C, B, O, σ, hB, R0, k⟩ := h
    refine ⟨C, B, O, σ, hB, R0, (KS.bind (rel := rIt) k).imp fun J H1 ⟨ds, σ1, O1, R1, F1, d1, k1⟩ => ?_⟩
    refine ⟨fun i n y' H' => n = ds.length - i ∧ i ≤ ds.length ∧ ∃ O' σ', R X.K C B O' σ' y' H' ∧ Fr O1 H1 O' H' ∧ KS X.K cA W C B O' H' E (forD pt s (ds.drop i) σ'),
      ⟨ds.length, rfl, Nat.zero_le _, O1, σ1, R1, Fr.refl, k1⟩, ?_⟩
    rintro i n y' H' ⟨rfl, hi, O', σ', R2, F2, k2⟩
    have sm : Same (hide (O1 ++ C) H1) H' := fun a o e => (hide_some (F2.vis a o e)).2
    obtain ⟨g1, g2⟩ := d1 H' sm i
    by_cases hl : i < ds.length
    · obtain ⟨q1, q2⟩ := g1 ds[i] (List.getElem?_eq_getElem hl)
      refine .inr ⟨q1, fun y3 H3 => ∃ O3 σ3, R X.K C B O3 σ3 y3 H3 ∧ Fr O1 H1 O3 H3 ∧ KS X.K cA W C B O3 H3 E (forD pt s (ds.drop (i + 1)) σ3), fun y3 H3 ⟨O3, σ3, R3, F3, k3⟩ => ⟨ds.length - (i + 1), by omega, rfl, hl, O3, σ3, R3, F3, k3⟩, fun x H2 hy => ?_⟩
      rw [List.drop_eq_getElem_cons hl] at k2
      have k2 : KS X.K cA W C B O' H' E ((ofS (pt ds[i] σ')).andThen fun σ1 => (s σ1).turn (forD pt s (ds.drop (i + 1)))) := k2
      obtain ⟨R4, F4, dx⟩ : R X.K C B O' σ' y' H2 ∧ Fr O' H' O' H2 ∧ Dp X.K (hide (O' ++ C) H2) x ds[i] := by
        rcases q2 x H2 hy with ⟨rfl, dx⟩ | ⟨T, o, rfl, hT, rfl, dx⟩
        · exact ⟨R2, Fr.refl, dp_mono F2.vis dx⟩
        · obtain ⟨R3, F3⟩ := R2.laid (o := o) hT
          obtain ⟨s1, s2⟩ := hide_upd (o := o) hT (R2.ninA hT)
          exact ⟨R3, F3, dx _ (fun a o e => s1 a o (F2.vis a o e)) s2⟩
      refine ⟨C, B, O', σ', ds[i], hB, R4, dx, ?_⟩
      cases ep : pt ds[i] σ' with
      | none => rw [ep] at k2; exact k2.elim
      | some σ4 =>
        rw [ep] at k2
        exact fun y4 R5 _ => ⟨C, B, O', σ4, hB, R5, KS.turn (k2.on F4) fun O5 σ5 y5 H5 R6 F6 k6 => ⟨O5, σ5, R6, (F2.trans F4).trans F6, k6⟩⟩
    · have e : i = ds.length := by omega
      subst e
      rw [List.drop_length] at k2
      exact .inl ⟨g2 (Nat.le_refl _), k2 O' y' H' R2 Fr.refl⟩
theorem roomH_units {k : Nat} {A : Around} (r : L2H.RoomH k A) : A.units + 64 < cLine := by have := r.un; omega
end
end Pu

set_option Elab.async false
set_option linter.all false
set_option maxRecDepth 100000
set_option maxHeartbeats 4000000
namespace pw_threadsround_k01_whole_quotients_and_rowG
open PySem PySem.Spec L2 Pu
def top (i : Nat) : Stmt := PySem.Challenge.pw_threadsround_k01_whole_quotients_and_row.main.body.getD i (.Pass ⟨0, 0, 0, 0⟩)
theorem bt_int : bootBuiltins "int" = some (.type "int") := by decide +kernel
theorem bt_isinstance : bootBuiltins "isinstance" = some (.builtin "isinstance") := by decide +kernel
theorem bt_bool : bootBuiltins "bool" = some (.type "bool") := by decide +kernel
theorem bt_len : bootBuiltins "len" = some (.builtin "len") := by decide +kernel
theorem bt_tuple : bootBuiltins "tuple" = some (.type "tuple") := by decide +kernel
theorem bt_list : bootBuiltins "list" = some (.type "list") := by decide +kernel
theorem bt_abs : bootBuiltins "abs" = some (.builtin "abs") := by decide +kernel
theorem bt_sum : bootBuiltins "sum" = some (.builtin "sum") := by decide +kernel
theorem bt_all : bootBuiltins "all" = some (.builtin "all") := by decide +kernel
theorem bt_max : bootBuiltins "max" = some (.builtin "max") := by decide +kernel
theorem bt_str : bootBuiltins "str" = some (.type "str") := by decide +kernel
theorem bt_ValueError : bootBuiltins "ValueError" = some (.type "ValueError") := by decide +kernel
def fnE : List DefE := [⟨"is_integer", top 2, ["thing"]⟩,
  ⟨"is_integer_tuple", top 3, ["thing"]⟩,
  ⟨"is_integer_pair", top 4, ["thing"]⟩,
  ⟨"is_quotient", top 5, ["thing"]⟩,
  ⟨"is_row", top 6, ["thing"]⟩,
  ⟨"need", top 15, ["good", "name"]⟩,
  ⟨"lowest", top 17, ["top", "bottom"]⟩,
  ⟨"need_two", top 18, ["one", "other"]⟩,
  ⟨"quotient_of", top 19, ["top", "bottom"]⟩,
  ⟨"plus", top 20, ["one", "other"]⟩,
  ⟨"minus", top 21, ["one", "other"]⟩,
  ⟨"times", top 22, ["one", "other"]⟩,
  ⟨"over", top 23, ["one", "other"]⟩,
  ⟨"is_less", top 24, ["one", "other"]⟩,
  ⟨"trimmed", top 26, ["numbers"]⟩,
  ⟨"added", top 27, ["one", "other"]⟩,
  ⟨"multiplied", top 28, ["one", "other"]⟩,
  ⟨"row_of", top 29, ["numbers"]⟩,
  ⟨"row_plus", top 30, ["row", "other"]⟩,
  ⟨"row_times", top 31, ["row", "other"]⟩,
  ⟨"row_at", top 32, ["row", "value"]⟩,
  ⟨"row_moved", top 33, ["row", "by"]⟩,
  ⟨"sign_changes", top 34, ["row"]⟩,
  ⟨"_law_feed", top 36, ["_law_script"]⟩,
  ⟨"_law_take", top 37, ["_law_feed_here", "_law_many"]⟩,
  ⟨"_law_same", top 38, ["_law_got", "_law_due"]⟩,
  ⟨"_law_integer", top 39, ["_law_feed_here"]⟩,
  ⟨"_law_common", top 40, ["_law_left", "_law_right"]⟩,
  ⟨"_law_lowest", top 41, ["_law_high", "_law_low"]⟩,
  ⟨"_law_quotient", top 42, ["_law_feed_here"]⟩,
  ⟨"_law_is_integer", top 43, ["_law_got"]⟩,
  ⟨"_law_is_row", top 44, ["_law_got"]⟩,
  ⟨"_law_stands", top 45, ["_law_got", "_law_high", "_law_low"]⟩,
  ⟨"_law_poly", top 46, ["_law_feed_here", "_law_great"]⟩,
  ⟨"_law_at", top 47, ["_law_parts", "_law_spot"]⟩,
  ⟨"_law_stripped", top 48, ["_law_parts"]⟩,
  ⟨"_law_sum_row", top 49, ["_law_left", "_law_right"]⟩,
  ⟨"_law_product", top 50, ["_law_got", "_law_left", "_law_right"]⟩,
  ⟨"_law_moved", top 51, ["_law_left", "_law_shift"]⟩,
  ⟨"_law_changes", top 52, ["_law_left"]⟩,
  ⟨"_law_quotients", top 53, ["_law_feed_here", "_law_left", "_law_right"]⟩,
  ⟨"_law_rows", top 54, ["_law_feed_here", "_law_left", "_law_right", "_law_part"]⟩,
  ⟨"_law_act", top 55, ["_law_kind", "_law_left", "_law_right"]⟩,
  ⟨"_law_refuses", top 56, ["_law_kind", "_law_left", "_law_right", "_law_due"]⟩,
  ⟨"_law_refusals", top 57, ["_law_feed_here", "_law_left", "_law_poly_here"]⟩,
  ⟨"_law_by_name", top 58, ["_law_left", "_law_near", "_law_poly_here", "_law_pair"]⟩,
  ⟨"law", top 59, ["_law_script"]⟩]
def frE : List Str := ["int", "isinstance", "bool", "len", "tuple", "range", "list", "abs", "sum", "all", "max", "enumerate", "reversed", "str", "ValueError"]
def lbE : List (Str × String) := [("gcd", "math.gcd")]
def xE_NotUsable : ExE := ⟨"NotUsable", ["word", "at"], inClass (top 13) 0, "NotUsable.__init__", ["self", "word", "at"]⟩
def ecE : List ExE := [xE_NotUsable]
def txE : Tx := ⟨fnE, frE, lbE, ecE, ["NotUsable", "PatternError", "ThreadError", "PaperError", "LiveError", "TextError"], ["NotUsable"], [("NotUsable", "NotUsable", true)], [("NotUsable", "PatternError", true), ("NotUsable", "ThreadError", true), ("NotUsable", "PaperError", false), ("NotUsable", "LiveError", false), ("NotUsable", "TextError", false)], [("NotUsable", "ValueError", true)]⟩
abbrev cAd (K : PySem.W.Frag) (c : String) : Addr := He.ga K (Str.ofString c)
variable {P : Program} {w : World} {K : PySem.W.Frag} {mg : Str → Option Value} {base : Heap} {fdf : Str → FuncData}
theorem lb_gcd (Z : Cz K mg txE fdf) : mg "gcd" = some (.builtin "math.gcd") := Z.lib 0
theorem cg_NotUsable (Z : Cz K mg txE fdf) : mg "NotUsable" = some (.ref (He.ga K "NotUsable")) := Z.c 0
theorem cg_PatternError (Z : Cz K mg txE fdf) : mg "PatternError" = some (.ref (He.ga K "PatternError")) := Z.c 1
theorem cg_ThreadError (Z : Cz K mg txE fdf) : mg "ThreadError" = some (.ref (He.ga K "ThreadError")) := Z.c 2
theorem cg_PaperError (Z : Cz K mg txE fdf) : mg "PaperError" = some (.ref (He.ga K "PaperError")) := Z.c 3
theorem cg_LiveError (Z : Cz K mg txE fdf) : mg "LiveError" = some (.ref (He.ga K "LiveError")) := Z.c 4
theorem cg_TextError (Z : Cz K mg txE fdf) : mg "TextError" = some (.ref (He.ga K "TextError")) := Z.c 5
theorem X_NotUsable (Z : Cz K mg txE fdf) : ExF K fdf xE_NotUsable := Z.x 0
theorem sc_ini_NotUsable : FnScope ["self", "word", "at"] ["self", "word", "at"] (defScope (inClass (top 13) 0)) := ⟨rfl, rfl, rfl, by decide +kernel, rfl, by decide +kernel, by decide +kernel⟩
theorem ok_ini_NotUsable (Z : Cz K mg txE fdf) : FnOk P w K mg base (L2N.CX P w) 1 (He.ma K (He.ga K "NotUsable") "__init__") (fdf "NotUsable") ["self", "word", "at"] (spIni2 K "word" "at") :=
  okXN ((X_NotUsable Z).F) sc_ini_NotUsable (fun vs H Q E h => by obtain ⟨a, C, u, z, rfl, _⟩ := h; rfl) (fun cdv A outer s H vs Q E hr h => ⟨_, pss_cons (ps_ost (pv 0) (pv 1)) (pss_one (ps_ost (pv 0) (pv 2))), ini2_of h⟩)
theorem fr_int (Z : Cz K mg txE fdf) : mg "int" = none := Z.free 0
theorem fr_isinstance (Z : Cz K mg txE fdf) : mg "isinstance" = none := Z.free 1
theorem fr_bool (Z : Cz K mg txE fdf) : mg "bool" = none := Z.free 2
theorem fr_len (Z : Cz K mg txE fdf) : mg "len" = none := Z.free 3
theorem fr_tuple (Z : Cz K mg txE fdf) : mg "tuple" = none := Z.free 4
theorem fr_range (Z : Cz K mg txE fdf) : mg "range" = none := Z.free 5
theorem fr_list (Z : Cz K mg txE fdf) : mg "list" = none := Z.free 6
theorem fr_abs (Z : Cz K mg txE fdf) : mg "abs" = none := Z.free 7
theorem fr_sum (Z : Cz K mg txE fdf) : mg "sum" = none := Z.free 8
theorem fr_all (Z : Cz K mg txE fdf) : mg "all" = none := Z.free 9
theorem fr_max (Z : Cz K mg txE fdf) : mg "max" = none := Z.free 10
theorem fr_enumerate (Z : Cz K mg txE fdf) : mg "enumerate" = none := Z.free 11
theorem fr_reversed (Z : Cz K mg txE fdf) : mg "reversed" = none := Z.free 12
theorem fr_str (Z : Cz K mg txE fdf) : mg "str" = none := Z.free 13
theorem fr_ValueError (Z : Cz K mg txE fdf) : mg "ValueError" = none := Z.free 14
theorem g_is_integer (Z : Cz K mg txE fdf) : mg "is_integer" = some (.ref (He.ga K "is_integer")) := Z.gl 0
theorem F_is_integer (Z : Cz K mg txE fdf) : Fun K "is_integer" "is_integer" (top 2) (He.ga K "is_integer") (fdf "is_integer") := Z.f 0
theorem b_is_integer (Z : Cz K mg txE fdf) : Binds K (fdf "is_integer") ["thing"] [] := Z.b 0
theorem g_is_integer_tuple (Z : Cz K mg txE fdf) : mg "is_integer_tuple" = some (.ref (He.ga K "is_integer_tuple")) := Z.gl 1
theorem F_is_integer_tuple (Z : Cz K mg txE fdf) : Fun K "is_integer_tuple" "is_integer_tuple" (top 3) (He.ga K "is_integer_tuple") (fdf "is_integer_tuple") := Z.f 1
theorem b_is_integer_tuple (Z : Cz K mg txE fdf) : Binds K (fdf "is_integer_tuple") ["thing"] [] := Z.b 1
theorem g_is_integer_pair (Z : Cz K mg txE fdf) : mg "is_integer_pair" = some (.ref (He.ga K "is_integer_pair")) := Z.gl 2
theorem F_is_integer_pair (Z : Cz K mg txE fdf) : Fun K "is_integer_pair" "is_integer_pair" (top 4) (He.ga K "is_integer_pair") (fdf "is_integer_pair") := Z.f 2
theorem b_is_integer_pair (Z : Cz K mg txE fdf) : Binds K (fdf "is_integer_pair") ["thing"] [] := Z.b 2
theorem g_is_quotient (Z : Cz K mg txE fdf) : mg "is_quotient" = some (.ref (He.ga K "is_quotient")) := Z.gl 3
theorem F_is_quotient (Z : Cz K mg txE fdf) : Fun K "is_quotient" "is_quotient" (top 5) (He.ga K "is_quotient") (fdf "is_quotient") := Z.f 3
theorem b_is_quotient (Z : Cz K mg txE fdf) : Binds K (fdf "is_quotient") ["thing"] [] := Z.b 3
theorem g_is_row (Z : Cz K mg txE fdf) : mg "is_row" = some (.ref (He.ga K "is_row")) := Z.gl 4
theorem F_is_row (Z : Cz K mg txE fdf) : Fun K "is_row" "is_row" (top 6) (He.ga K "is_row") (fdf "is_row") := Z.f 4
theorem b_is_row (Z : Cz K mg txE fdf) : Binds K (fdf "is_row") ["thing"] [] := Z.b 4
theorem g_need (Z : Cz K mg txE fdf) : mg "need" = some (.ref (He.ga K "need")) := Z.gl 5
theorem F_need (Z : Cz K mg txE fdf) : Fun K "need" "need" (top 15) (He.ga K "need") (fdf "need") := Z.f 5
theorem b_need (Z : Cz K mg txE fdf) : Binds K (fdf "need") ["good", "name"] [] := Z.b 5
theorem g_lowest (Z : Cz K mg txE fdf) : mg "lowest" = some (.ref (He.ga K "lowest")) := Z.gl 6
theorem F_lowest (Z : Cz K mg txE fdf) : Fun K "lowest" "lowest" (top 17) (He.ga K "lowest") (fdf "lowest") := Z.f 6
theorem b_lowest (Z : Cz K mg txE fdf) : Binds K (fdf "lowest") ["top", "bottom"] [] := Z.b 6
theorem g_need_two (Z : Cz K mg txE fdf) : mg "need_two" = some (.ref (He.ga K "need_two")) := Z.gl 7
theorem F_need_two (Z : Cz K mg txE fdf) : Fun K "need_two" "need_two" (top 18) (He.ga K "need_two") (fdf "need_two") := Z.f 7
theorem b_need_two (Z : Cz K mg txE fdf) : Binds K (fdf "need_two") ["one", "other"] [] := Z.b 7
theorem g_quotient_of (Z : Cz K mg txE fdf) : mg "quotient_of" = some (.ref (He.ga K "quotient_of")) := Z.gl 8
theorem F_quotient_of (Z : Cz K mg txE fdf) : Fun K "quotient_of" "quotient_of" (top 19) (He.ga K "quotient_of") (fdf "quotient_of") := Z.f 8
theorem b_quotient_of (Z : Cz K mg txE fdf) : Binds K (fdf "quotient_of") ["top", "bottom"] [] := Z.b 8
theorem g_plus (Z : Cz K mg txE fdf) : mg "plus" = some (.ref (He.ga K "plus")) := Z.gl 9
theorem F_plus (Z : Cz K mg txE fdf) : Fun K "plus" "plus" (top 20) (He.ga K "plus") (fdf "plus") := Z.f 9
theorem b_plus (Z : Cz K mg txE fdf) : Binds K (fdf "plus") ["one", "other"] [] := Z.b 9
theorem g_minus (Z : Cz K mg txE fdf) : mg "minus" = some (.ref (He.ga K "minus")) := Z.gl 10
theorem F_minus (Z : Cz K mg txE fdf) : Fun K "minus" "minus" (top 21) (He.ga K "minus") (fdf "minus") := Z.f 10
theorem b_minus (Z : Cz K mg txE fdf) : Binds K (fdf "minus") ["one", "other"] [] := Z.b 10
theorem g_times (Z : Cz K mg txE fdf) : mg "times" = some (.ref (He.ga K "times")) := Z.gl 11
theorem F_times (Z : Cz K mg txE fdf) : Fun K "times" "times" (top 22) (He.ga K "times") (fdf "times") := Z.f 11
theorem b_times (Z : Cz K mg txE fdf) : Binds K (fdf "times") ["one", "other"] [] := Z.b 11
theorem g_over (Z : Cz K mg txE fdf) : mg "over" = some (.ref (He.ga K "over")) := Z.gl 12
theorem F_over (Z : Cz K mg txE fdf) : Fun K "over" "over" (top 23) (He.ga K "over") (fdf "over") := Z.f 12
theorem b_over (Z : Cz K mg txE fdf) : Binds K (fdf "over") ["one", "other"] [] := Z.b 12
theorem g_is_less (Z : Cz K mg txE fdf) : mg "is_less" = some (.ref (He.ga K "is_less")) := Z.gl 13
theorem F_is_less (Z : Cz K mg txE fdf) : Fun K "is_less" "is_less" (top 24) (He.ga K "is_less") (fdf "is_less") := Z.f 13
theorem b_is_less (Z : Cz K mg txE fdf) : Binds K (fdf "is_less") ["one", "other"] [] := Z.b 13
theorem g_trimmed (Z : Cz K mg txE fdf) : mg "trimmed" = some (.ref (He.ga K "trimmed")) := Z.gl 14
theorem F_trimmed (Z : Cz K mg txE fdf) : Fun K "trimmed" "trimmed" (top 26) (He.ga K "trimmed") (fdf "trimmed") := Z.f 14
theorem b_trimmed (Z : Cz K mg txE fdf) : Binds K (fdf "trimmed") ["numbers"] [] := Z.b 14
theorem g_added (Z : Cz K mg txE fdf) : mg "added" = some (.ref (He.ga K "added")) := Z.gl 15
theorem F_added (Z : Cz K mg txE fdf) : Fun K "added" "added" (top 27) (He.ga K "added") (fdf "added") := Z.f 15
theorem b_added (Z : Cz K mg txE fdf) : Binds K (fdf "added") ["one", "other"] [] := Z.b 15
theorem g_multiplied (Z : Cz K mg txE fdf) : mg "multiplied" = some (.ref (He.ga K "multiplied")) := Z.gl 16
theorem F_multiplied (Z : Cz K mg txE fdf) : Fun K "multiplied" "multiplied" (top 28) (He.ga K "multiplied") (fdf "multiplied") := Z.f 16
theorem b_multiplied (Z : Cz K mg txE fdf) : Binds K (fdf "multiplied") ["one", "other"] [] := Z.b 16
theorem g_row_of (Z : Cz K mg txE fdf) : mg "row_of" = some (.ref (He.ga K "row_of")) := Z.gl 17
theorem F_row_of (Z : Cz K mg txE fdf) : Fun K "row_of" "row_of" (top 29) (He.ga K "row_of") (fdf "row_of") := Z.f 17
theorem b_row_of (Z : Cz K mg txE fdf) : Binds K (fdf "row_of") ["numbers"] [] := Z.b 17
theorem g_row_plus (Z : Cz K mg txE fdf) : mg "row_plus" = some (.ref (He.ga K "row_plus")) := Z.gl 18
theorem F_row_plus (Z : Cz K mg txE fdf) : Fun K "row_plus" "row_plus" (top 30) (He.ga K "row_plus") (fdf "row_plus") := Z.f 18
theorem b_row_plus (Z : Cz K mg txE fdf) : Binds K (fdf "row_plus") ["row", "other"] [] := Z.b 18
theorem g_row_times (Z : Cz K mg txE fdf) : mg "row_times" = some (.ref (He.ga K "row_times")) := Z.gl 19
theorem F_row_times (Z : Cz K mg txE fdf) : Fun K "row_times" "row_times" (top 31) (He.ga K "row_times") (fdf "row_times") := Z.f 19
theorem b_row_times (Z : Cz K mg txE fdf) : Binds K (fdf "row_times") ["row", "other"] [] := Z.b 19
theorem g_row_at (Z : Cz K mg txE fdf) : mg "row_at" = some (.ref (He.ga K "row_at")) := Z.gl 20
theorem F_row_at (Z : Cz K mg txE fdf) : Fun K "row_at" "row_at" (top 32) (He.ga K "row_at") (fdf "row_at") := Z.f 20
theorem b_row_at (Z : Cz K mg txE fdf) : Binds K (fdf "row_at") ["row", "value"] [] := Z.b 20
theorem g_row_moved (Z : Cz K mg txE fdf) : mg "row_moved" = some (.ref (He.ga K "row_moved")) := Z.gl 21
theorem F_row_moved (Z : Cz K mg txE fdf) : Fun K "row_moved" "row_moved" (top 33) (He.ga K "row_moved") (fdf "row_moved") := Z.f 21
theorem b_row_moved (Z : Cz K mg txE fdf) : Binds K (fdf "row_moved") ["row", "by"] [] := Z.b 21
theorem g_sign_changes (Z : Cz K mg txE fdf) : mg "sign_changes" = some (.ref (He.ga K "sign_changes")) := Z.gl 22
theorem F_sign_changes (Z : Cz K mg txE fdf) : Fun K "sign_changes" "sign_changes" (top 34) (He.ga K "sign_changes") (fdf "sign_changes") := Z.f 22
theorem b_sign_changes (Z : Cz K mg txE fdf) : Binds K (fdf "sign_changes") ["row"] [] := Z.b 22
theorem g__law_feed (Z : Cz K mg txE fdf) : mg "_law_feed" = some (.ref (He.ga K "_law_feed")) := Z.gl 23
theorem F__law_feed (Z : Cz K mg txE fdf) : Fun K "_law_feed" "_law_feed" (top 36) (He.ga K "_law_feed") (fdf "_law_feed") := Z.f 23
theorem b__law_feed (Z : Cz K mg txE fdf) : Binds K (fdf "_law_feed") ["_law_script"] [] := Z.b 23
theorem g__law_take (Z : Cz K mg txE fdf) : mg "_law_take" = some (.ref (He.ga K "_law_take")) := Z.gl 24
theorem F__law_take (Z : Cz K mg txE fdf) : Fun K "_law_take" "_law_take" (top 37) (He.ga K "_law_take") (fdf "_law_take") := Z.f 24
theorem b__law_take (Z : Cz K mg txE fdf) : Binds K (fdf "_law_take") ["_law_feed_here", "_law_many"] [] := Z.b 24
theorem g__law_same (Z : Cz K mg txE fdf) : mg "_law_same" = some (.ref (He.ga K "_law_same")) := Z.gl 25
theorem F__law_same (Z : Cz K mg txE fdf) : Fun K "_law_same" "_law_same" (top 38) (He.ga K "_law_same") (fdf "_law_same") := Z.f 25
theorem b__law_same (Z : Cz K mg txE fdf) : Binds K (fdf "_law_same") ["_law_got", "_law_due"] [] := Z.b 25
theorem g__law_integer (Z : Cz K mg txE fdf) : mg "_law_integer" = some (.ref (He.ga K "_law_integer")) := Z.gl 26
theorem F__law_integer (Z : Cz K mg txE fdf) : Fun K "_law_integer" "_law_integer" (top 39) (He.ga K "_law_integer") (fdf "_law_integer") := Z.f 26
theorem b__law_integer (Z : Cz K mg txE fdf) : Binds K (fdf "_law_integer") ["_law_feed_here"] [] := Z.b 26
theorem g__law_common (Z : Cz K mg txE fdf) : mg "_law_common" = some (.ref (He.ga K "_law_common")) := Z.gl 27
theorem F__law_common (Z : Cz K mg txE fdf) : Fun K "_law_common" "_law_common" (top 40) (He.ga K "_law_common") (fdf "_law_common") := Z.f 27
theorem b__law_common (Z : Cz K mg txE fdf) : Binds K (fdf "_law_common") ["_law_left", "_law_right"] [] := Z.b 27
theorem g__law_lowest (Z : Cz K mg txE fdf) : mg "_law_lowest" = some (.ref (He.ga K "_law_lowest")) := Z.gl 28
theorem F__law_lowest (Z : Cz K mg txE fdf) : Fun K "_law_lowest" "_law_lowest" (top 41) (He.ga K "_law_lowest") (fdf "_law_lowest") := Z.f 28
theorem b__law_lowest (Z : Cz K mg txE fdf) : Binds K (fdf "_law_lowest") ["_law_high", "_law_low"] [] := Z.b 28
theorem g__law_quotient (Z : Cz K mg txE fdf) : mg "_law_quotient" = some (.ref (He.ga K "_law_quotient")) := Z.gl 29
theorem F__law_quotient (Z : Cz K mg txE fdf) : Fun K "_law_quotient" "_law_quotient" (top 42) (He.ga K "_law_quotient") (fdf "_law_quotient") := Z.f 29
theorem b__law_quotient (Z : Cz K mg txE fdf) : Binds K (fdf "_law_quotient") ["_law_feed_here"] [] := Z.b 29
theorem g__law_is_integer (Z : Cz K mg txE fdf) : mg "_law_is_integer" = some (.ref (He.ga K "_law_is_integer")) := Z.gl 30
theorem F__law_is_integer (Z : Cz K mg txE fdf) : Fun K "_law_is_integer" "_law_is_integer" (top 43) (He.ga K "_law_is_integer") (fdf "_law_is_integer") := Z.f 30
theorem b__law_is_integer (Z : Cz K mg txE fdf) : Binds K (fdf "_law_is_integer") ["_law_got"] [] := Z.b 30
theorem g__law_is_row (Z : Cz K mg txE fdf) : mg "_law_is_row" = some (.ref (He.ga K "_law_is_row")) := Z.gl 31
theorem F__law_is_row (Z : Cz K mg txE fdf) : Fun K "_law_is_row" "_law_is_row" (top 44) (He.ga K "_law_is_row") (fdf "_law_is_row") := Z.f 31
theorem b__law_is_row (Z : Cz K mg txE fdf) : Binds K (fdf "_law_is_row") ["_law_got"] [] := Z.b 31
theorem g__law_stands (Z : Cz K mg txE fdf) : mg "_law_stands" = some (.ref (He.ga K "_law_stands")) := Z.gl 32
theorem F__law_stands (Z : Cz K mg txE fdf) : Fun K "_law_stands" "_law_stands" (top 45) (He.ga K "_law_stands") (fdf "_law_stands") := Z.f 32
theorem b__law_stands (Z : Cz K mg txE fdf) : Binds K (fdf "_law_stands") ["_law_got", "_law_high", "_law_low"] [] := Z.b 32
theorem g__law_poly (Z : Cz K mg txE fdf) : mg "_law_poly" = some (.ref (He.ga K "_law_poly")) := Z.gl 33
theorem F__law_poly (Z : Cz K mg txE fdf) : Fun K "_law_poly" "_law_poly" (top 46) (He.ga K "_law_poly") (fdf "_law_poly") := Z.f 33
theorem b__law_poly (Z : Cz K mg txE fdf) : Binds K (fdf "_law_poly") ["_law_feed_here", "_law_great"] [] := Z.b 33
theorem g__law_at (Z : Cz K mg txE fdf) : mg "_law_at" = some (.ref (He.ga K "_law_at")) := Z.gl 34
theorem F__law_at (Z : Cz K mg txE fdf) : Fun K "_law_at" "_law_at" (top 47) (He.ga K "_law_at") (fdf "_law_at") := Z.f 34
theorem b__law_at (Z : Cz K mg txE fdf) : Binds K (fdf "_law_at") ["_law_parts", "_law_spot"] [] := Z.b 34
theorem g__law_stripped (Z : Cz K mg txE fdf) : mg "_law_stripped" = some (.ref (He.ga K "_law_stripped")) := Z.gl 35
theorem F__law_stripped (Z : Cz K mg txE fdf) : Fun K "_law_stripped" "_law_stripped" (top 48) (He.ga K "_law_stripped") (fdf "_law_stripped") := Z.f 35
theorem b__law_stripped (Z : Cz K mg txE fdf) : Binds K (fdf "_law_stripped") ["_law_parts"] [] := Z.b 35
theorem g__law_sum_row (Z : Cz K mg txE fdf) : mg "_law_sum_row" = some (.ref (He.ga K "_law_sum_row")) := Z.gl 36
theorem F__law_sum_row (Z : Cz K mg txE fdf) : Fun K "_law_sum_row" "_law_sum_row" (top 49) (He.ga K "_law_sum_row") (fdf "_law_sum_row") := Z.f 36
theorem b__law_sum_row (Z : Cz K mg txE fdf) : Binds K (fdf "_law_sum_row") ["_law_left", "_law_right"] [] := Z.b 36
theorem g__law_product (Z : Cz K mg txE fdf) : mg "_law_product" = some (.ref (He.ga K "_law_product")) := Z.gl 37
theorem F__law_product (Z : Cz K mg txE fdf) : Fun K "_law_product" "_law_product" (top 50) (He.ga K "_law_product") (fdf "_law_product") := Z.f 37
theorem b__law_product (Z : Cz K mg txE fdf) : Binds K (fdf "_law_product") ["_law_got", "_law_left", "_law_right"] [] := Z.b 37
theorem g__law_moved (Z : Cz K mg txE fdf) : mg "_law_moved" = some (.ref (He.ga K "_law_moved")) := Z.gl 38
theorem F__law_moved (Z : Cz K mg txE fdf) : Fun K "_law_moved" "_law_moved" (top 51) (He.ga K "_law_moved") (fdf "_law_moved") := Z.f 38
theorem b__law_moved (Z : Cz K mg txE fdf) : Binds K (fdf "_law_moved") ["_law_left", "_law_shift"] [] := Z.b 38
theorem g__law_changes (Z : Cz K mg txE fdf) : mg "_law_changes" = some (.ref (He.ga K "_law_changes")) := Z.gl 39
theorem F__law_changes (Z : Cz K mg txE fdf) : Fun K "_law_changes" "_law_changes" (top 52) (He.ga K "_law_changes") (fdf "_law_changes") := Z.f 39
theorem b__law_changes (Z : Cz K mg txE fdf) : Binds K (fdf "_law_changes") ["_law_left"] [] := Z.b 39
theorem g__law_quotients (Z : Cz K mg txE fdf) : mg "_law_quotients" = some (.ref (He.ga K "_law_quotients")) := Z.gl 40
theorem F__law_quotients (Z : Cz K mg txE fdf) : Fun K "_law_quotients" "_law_quotients" (top 53) (He.ga K "_law_quotients") (fdf "_law_quotients") := Z.f 40
theorem b__law_quotients (Z : Cz K mg txE fdf) : Binds K (fdf "_law_quotients") ["_law_feed_here", "_law_left", "_law_right"] [] := Z.b 40
theorem g__law_rows (Z : Cz K mg txE fdf) : mg "_law_rows" = some (.ref (He.ga K "_law_rows")) := Z.gl 41
theorem F__law_rows (Z : Cz K mg txE fdf) : Fun K "_law_rows" "_law_rows" (top 54) (He.ga K "_law_rows") (fdf "_law_rows") := Z.f 41
theorem b__law_rows (Z : Cz K mg txE fdf) : Binds K (fdf "_law_rows") ["_law_feed_here", "_law_left", "_law_right", "_law_part"] [] := Z.b 41
theorem g__law_act (Z : Cz K mg txE fdf) : mg "_law_act" = some (.ref (He.ga K "_law_act")) := Z.gl 42
theorem F__law_act (Z : Cz K mg txE fdf) : Fun K "_law_act" "_law_act" (top 55) (He.ga K "_law_act") (fdf "_law_act") := Z.f 42
theorem b__law_act (Z : Cz K mg txE fdf) : Binds K (fdf "_law_act") ["_law_kind", "_law_left", "_law_right"] [] := Z.b 42
theorem g__law_refuses (Z : Cz K mg txE fdf) : mg "_law_refuses" = some (.ref (He.ga K "_law_refuses")) := Z.gl 43
theorem F__law_refuses (Z : Cz K mg txE fdf) : Fun K "_law_refuses" "_law_refuses" (top 56) (He.ga K "_law_refuses") (fdf "_law_refuses") := Z.f 43
theorem b__law_refuses (Z : Cz K mg txE fdf) : Binds K (fdf "_law_refuses") ["_law_kind", "_law_left", "_law_right", "_law_due"] [] := Z.b 43
theorem g__law_refusals (Z : Cz K mg txE fdf) : mg "_law_refusals" = some (.ref (He.ga K "_law_refusals")) := Z.gl 44
theorem F__law_refusals (Z : Cz K mg txE fdf) : Fun K "_law_refusals" "_law_refusals" (top 57) (He.ga K "_law_refusals") (fdf "_law_refusals") := Z.f 44
theorem b__law_refusals (Z : Cz K mg txE fdf) : Binds K (fdf "_law_refusals") ["_law_feed_here", "_law_left", "_law_poly_here"] [] := Z.b 44
theorem g__law_by_name (Z : Cz K mg txE fdf) : mg "_law_by_name" = some (.ref (He.ga K "_law_by_name")) := Z.gl 45
theorem F__law_by_name (Z : Cz K mg txE fdf) : Fun K "_law_by_name" "_law_by_name" (top 58) (He.ga K "_law_by_name") (fdf "_law_by_name") := Z.f 45
theorem b__law_by_name (Z : Cz K mg txE fdf) : Binds K (fdf "_law_by_name") ["_law_left", "_law_near", "_law_poly_here", "_law_pair"] [] := Z.b 45
theorem g_law (Z : Cz K mg txE fdf) : mg "law" = some (.ref (He.ga K "law")) := Z.gl 46
theorem F_law (Z : Cz K mg txE fdf) : Fun K "law" "law" (top 59) (He.ga K "law") (fdf "law") := Z.f 46
theorem b_law (Z : Cz K mg txE fdf) : Binds K (fdf "law") ["_law_script"] [] := Z.b 46
abbrev s_is_integer : Stmt := top 2
theorem sc_is_integer : FnScope ["thing"] ["thing"] (defScope s_is_integer) := ⟨rfl, rfl, rfl, by decide +kernel, rfl, by decide +kernel, by decide +kernel⟩
def m_is_integer : Fd := mDef 1 none
  (sRet (mAndV (mUn (fun d => some (.bool (isInt d))) (mVar 0)) (mUn bNot (mUn (fun d => some (.bool (isBool d))) (mVar 0)))))
theorem ok_is_integer (Z : Cz K mg txE fdf) : FnOk P w K mg base (L2N.CX P w) 1 (He.ga K "is_integer") (fdf "is_integer") ["thing"] (spOf K (cAd K) 1 none m_is_integer) :=
  def_okN (F_is_integer Z) sc_is_integer rfl (fun i h => by cases h) fun cdv A outer s H E hr => 
  (is_one (is_ret (ie_and (ie_isi kit_int (ie_var (pv 0)) (pe_tyN rfl (fr_int Z) bt_int) rfl (fr_isinstance Z) bt_isinstance) (ie_one (ie_not (ie_isi kit_bool (ie_var (pv 0)) (pe_tyN rfl (fr_bool Z) bt_bool) rfl (fr_isinstance Z) bt_isinstance))))))
abbrev s_lowest : Stmt := top 17
theorem sc_lowest : FnScope ["top", "bottom", "common"] ["top", "bottom"] (defScope s_lowest) := ⟨rfl, rfl, rfl, by decide +kernel, rfl, by decide +kernel, by decide +kernel⟩
def m_lowest : Fd := mDef 3 none
  (sSeq (sSet 2 (mCB gGcd (mCons (mVar 0) (mCons (mVar 1) mNil))))
    (sSeq (sIf (mBool (mBin fLt (mVar 1) (mPure (.int 0)))) (sSet 2 (mUn fNeg (mVar 2))) sSkip)
    (sRet (mTup (mCons (mBin fDivZ (mVar 0) (mVar 2)) (mCons (mBin fDivZ (mVar 1) (mVar 2)) mNil))))))
theorem ok_lowest (Z : Cz K mg txE fdf) : FnOk P w K mg base (L2N.CX P w) 1 (He.ga K "lowest") (fdf "lowest") ["top", "bottom"] (spOf K (cAd K) 2 none m_lowest) :=
  def_okN (F_lowest Z) sc_lowest rfl (fun i h => by cases h) fun cdv A outer s H E hr => 
  (is_cons (is_set (i := 2) sc_lowest.nd rfl (Or.inl rfl) (ie_callLib cr_gcd cn_gcd (ia_cons (ie_var (pv 0)) (ia_cons (ie_var (pv 1)) ia_nil)) rfl (lb_gcd Z)))
    (is_cons (is_if (it_cmp op_lt o2_lt (ie_var (pv 1)) ie_int (nobehind _ (by decide) (by decide))) (is_one (is_set (i := 2) sc_lowest.nd rfl (Or.inl rfl) (ie_neg (ie_var (pv 2))))) is_nil)
    (is_one (is_ret (ie_tup (ia_cons (ie_divZ (ie_var (pv 0)) (ie_var (pv 2))) (ia_cons (ie_divZ (ie_var (pv 1)) (ie_var (pv 2))) ia_nil)))))))
abbrev s_trimmed : Stmt := top 26
theorem sc_trimmed : FnScope ["numbers", "many"] ["numbers"] (defScope s_trimmed) := ⟨rfl, rfl, rfl, by decide +kernel, rfl, by decide +kernel, by decide +kernel⟩
def m_trimmed : Fd := mDef 2 none
  (sSeq (sSet 1 (mCB gLen (mCons (mVar 0) mNil)))
    (sSeq (whileD (mAnd (mBool (mBin fGt (mVar 1) (mPure (.int 0)))) (mBool (mBin fEq (mBin fIx (mVar 0) (mBin fSub (mVar 1) (mPure (.int 1)))) (mPure (.int 0))))) (sAug 1 (· - ·) (mPure (.int 1))) fuelN)
    (sRet (mCB gTuple (mCons (mSlX (mVar 0) (mPure none) (mPart (mVar 1))) mNil)))))
theorem ok_trimmed (Z : Cz K mg txE fdf) : FnOk P w K mg base (L2N.CX P w) 1 (He.ga K "trimmed") (fdf "trimmed") ["numbers"] (spOf K (cAd K) 1 none m_trimmed) :=
  def_okN (F_trimmed Z) sc_trimmed rfl (fun i h => by cases h) fun cdv A outer s H E hr => 
  (is_cons (is_set (i := 1) sc_trimmed.nd rfl (Or.inl rfl) (ie_callB cr_len cn_len (ia_cons (ie_var (pv 0)) ia_nil) rfl (fr_len Z) bt_len))
    (is_cons (is_while fuelN (passes_of rfl) (IW.it (iw_and (it_cmp op_gt o2_gt (ie_var (pv 1)) ie_int (nobehind _ (by decide) (by decide))) (iw_and1 (it_cmp (op_eqU hr.units) o2_eq (ie_ix (ie_var (pv 0)) (ie_sub (ie_var (pv 1)) ie_int)) ie_int (nobehind _ (by decide) (by decide)))))) (is_one (is_augN sc_trimmed.nd rfl (Or.inl rfl) ie_int ip_sub)))
    (is_one (is_ret (ie_callTy call_tuple_of cn_tuple (ia_cons (ie_slX (ie_var (pv 0)) ip_none (ip_some (ie_var (pv 1)))) ia_nil) rfl (fr_tuple Z) bt_tuple)))))
abbrev s_sign_changes : Stmt := top 34
theorem sc_sign_changes : FnScope ["row", "signs", "number", "k"] ["row"] (defScope s_sign_changes) := ⟨rfl, rfl, rfl, by decide +kernel, rfl, by decide +kernel, by decide +kernel⟩
def m_sign_changes : Fd := mDef 4 none
  (sSeq (sSet 1 (mCold (mComp (mSeq (mVar 0)) (pName 2) (mBool (mBin fNe (mVar 2) (mPure (.int 0)))) (mBin fGt (mVar 2) (mPure (.int 0))) [2])))
    (sRet (mCB gLen (mCons (mCold (mComp (mRange2 (mCons (mPure (.int 1)) (mCons (mCB gLen (mCons (mVar 1) mNil)) mNil))) (pName 3) (mBool (mBin fNe (mBin fIx (mVar 1) (mVar 3)) (mBin fIx (mVar 1) (mBin fSub (mVar 3) (mPure (.int 1)))))) (mVar 3) [3])) mNil))))
theorem ok_sign_changes (Z : Cz K mg txE fdf) : FnOk P w K mg base (L2N.CX P w) 1 (He.ga K "sign_changes") (fdf "sign_changes") ["row"] (spOf K (cAd K) 1 none m_sign_changes) :=
  def_okN (F_sign_changes Z) sc_sign_changes rfl (fun i h => by cases h) fun cdv A outer s H E hr => 
  (is_cons (is_set (i := 1) sc_sign_changes.nd rfl (Or.inr rfl) (ie_cold (io_comp rfl sc_sign_changes.nd (ii_seq (ie_var (pv 0))) (show BlkOk ["row", "signs", "number", "k"] (defScope s_sign_changes) _ [("number", 2)] from blkOk_by (by decide +kernel)) rfl (fun _ _ _ _ _ => (ig_name (pg_name sc_sign_changes.nd rfl (Or.inl rfl)))) (fun _ _ _ _ _ => (its_one (it_cmp (op_neU hr.units) o2_ne (ie_var (pv 2)) ie_int (nobehind _ (by decide) (by decide))))) (fun _ _ _ _ _ => (ie_cmp op_gt o2_gt (ie_var (pv 2)) ie_int (nobehind _ (by decide) (by decide)))))))
    (is_one (is_ret (ie_callB cr_len cn_len (ia_cons (ie_cold (io_comp rfl sc_sign_changes.nd (ii_range2 rfl (fr_range Z) (ia_cons ie_int (ia_cons (ie_callB cr_len cn_len (ia_cons (ie_var (pv 1)) ia_nil) rfl (fr_len Z) bt_len) ia_nil))) (show BlkOk ["row", "signs", "number", "k"] (defScope s_sign_changes) _ [("k", 3)] from blkOk_by (by decide +kernel)) rfl (fun _ _ _ _ _ => (ig_name (pg_name sc_sign_changes.nd rfl (Or.inl rfl)))) (fun _ _ _ _ _ => (its_one (it_cmp (op_neU hr.units) o2_ne (ie_ix (ie_var (pv 1)) (ie_var (pv 3))) (ie_ix (ie_var (pv 1)) (ie_sub (ie_var (pv 3)) ie_int)) (nobehind _ (by decide) (by decide))))) (fun _ _ _ _ _ => (ie_var (pv 3))))) ia_nil) rfl (fr_len Z) bt_len))))
abbrev s__law_feed : Stmt := top 36
theorem sc__law_feed : FnScope ["_law_script"] ["_law_script"] (defScope s__law_feed) := ⟨rfl, rfl, rfl, by decide +kernel, rfl, by decide +kernel, by decide +kernel⟩
def m__law_feed : Fd := mDef 1 none
  (sRetO (mLst (mCons (mCold (mCBL seq1 (mCons (mVar 0) mNil))) (mCons (mPure (.int 0)) (mCons (mPure (.int 0)) (mCons (mPure (.int 1109)) mNil))))))
theorem ok__law_feed (Z : Cz K mg txE fdf) : FnOk P w K mg base (L2N.CX P w) 1 (He.ga K "_law_feed") (fdf "_law_feed") ["_law_script"] (spOf K (cAd K) 1 none m__law_feed) :=
  def_okN (F__law_feed Z) sc__law_feed rfl (fun i h => by cases h) fun cdv A outer s H E hr => 
  (is_one (is_retO (io_lst (ia_cons (ie_cold (io_callTy call_list_of cnl_list (ia_cons (ie_var (pv 0)) ia_nil) rfl (fr_list Z) bt_list)) (ia_cons ie_int (ia_cons ie_int (ia_cons ie_int ia_nil)))))))
abbrev s__law_take : Stmt := top 37
theorem sc__law_take : FnScope ["_law_feed_here", "_law_many", "_law_spot", "_law_cell", "_law_number"] ["_law_feed_here", "_law_many"] (defScope s__law_take) := ⟨rfl, rfl, rfl, by decide +kernel, rfl, by decide +kernel, by decide +kernel⟩
def m__law_take : Fd := mDef 5 (some 0)
  (sSeq (sIf (mBool (mBin fGt (mOwn1 0 hIx (mPure (.int 2))) (mPure (.int 0)))) (sSeq (sSet 4 (mOwn1 0 hIx (mPure (.int 2))))
      (sSeq (sPut 0 (mPure (.int 2)) (mBin fDiv (mVar 4) (mVar 1)))
      (sRet (mBin fMod (mCB gInt (mCons (mVar 4) mNil)) (mVar 1))))) sSkip)
    (sSeq (sSet 2 (mOwn1 0 hIx (mPure (.int 1))))
    (sSeq (sPut 0 (mPure (.int 1)) (mBin fAdd (mVar 2) (mPure (.int 1))))
    (sSeq (sSet 3 (mPure (.int 0)))
    (sSeq (sIf (mBool (mBin fLt (mVar 2) (mCB gLen (mCons (mOwn1 0 hIx (mPure (.int 0))) mNil)))) (sSet 3 (mBin fIx (mOwn1 0 hIx (mPure (.int 0))) (mVar 2))) sSkip)
    (sSeq (sIf (mBool (mBin fGe (mCB gAbs (mCons (mVar 3) mNil)) (mBin fPow (mPure (.int 10)) (mPure (.int 18))))) (sSeq (sSet 4 (mBin fMod (mCB gInt (mCons (mBin fAdd (mCB gAbs (mCons (mVar 3) mNil)) (mPure (.int 271828182845904))) mNil)) (mBin fPow (mPure (.int 10)) (mPure (.int 60)))))
      (sSeq (sPut 0 (mPure (.int 2)) (mBin fDiv (mVar 4) (mVar 1)))
      (sRet (mBin fMod (mCB gInt (mCons (mVar 4) mNil)) (mVar 1))))) sSkip)
    (sSeq (sPut 0 (mPure (.int 3)) (mBin fMod (mCB gInt (mCons (mBin fAdd (mBin fAdd (mBin fAdd (mBin fMul (mOwn1 0 hIx (mPure (.int 3))) (mPure (.int 30269))) (mBin fMul (mVar 3) (mPure (.int 4507)))) (mBin fMul (mVar 2) (mPure (.int 1201)))) (mPure (.int 59))) mNil)) (mPure (.int 2147483647))))
    (sSeq (sSet 4 (mBin fMod (mCB gInt (mCons (mBin fAdd (mBin fMul (mOwn1 0 hIx (mPure (.int 3))) (mPure (.int 45991))) (mBin fDiv (mOwn1 0 hIx (mPure (.int 3))) (mPure (.int 619)))) mNil)) (mPure (.int 2147483399))))
    (sRet (mBin fMod (mBin fDiv (mVar 4) (mPure (.int 17))) (mVar 1)))))))))))
theorem ok__law_take (Z : Cz K mg txE fdf) : FnOk P w K mg base (L2N.CX P w) 1 (He.ga K "_law_take") (fdf "_law_take") ["_law_feed_here", "_law_many"] (spOf K (cAd K) 2 (some 0) m__law_take) :=
  def_okN (F__law_take Z) sc__law_take rfl (fun i h => by cases h <;> decide) fun cdv A outer s H E hr => 
  (is_cons (is_if (it_cmp op_gt o2_gt (ie_ixV (pv 0) ie_int) ie_int (nobehind _ (by decide) (by decide))) (is_cons (is_set (i := 4) sc__law_take.nd rfl (Or.inl rfl) (ie_ixV (pv 0) ie_int))
      (is_cons (is_putL (pv 0) ie_int (ie_div (ie_var (pv 4)) (ie_var (pv 1))))
      (is_one (is_ret (ie_mod (ie_callTy call_int1 cn_int (ia_cons (ie_var (pv 4)) ia_nil) rfl (fr_int Z) bt_int) (ie_var (pv 1))))))) is_nil)
    (is_cons (is_set (i := 2) sc__law_take.nd rfl (Or.inl rfl) (ie_ixV (pv 0) ie_int))
    (is_cons (is_putL (pv 0) ie_int (ie_add (ie_var (pv 2)) ie_int))
    (is_cons (is_set (i := 3) sc__law_take.nd rfl (Or.inl rfl) ie_int)
    (is_cons (is_if (it_cmp op_lt o2_lt (ie_var (pv 2)) (ie_callB cr_len cn_len (ia_cons (ie_ixV (pv 0) ie_int) ia_nil) rfl (fr_len Z) bt_len) (nobehind _ (by decide) (by decide))) (is_one (is_set (i := 3) sc__law_take.nd rfl (Or.inl rfl) (ie_ix (ie_ixV (pv 0) ie_int) (ie_var (pv 2))))) is_nil)
    (is_cons (is_if (it_cmp op_ge o2_ge (ie_callB call_abs cn_abs (ia_cons (ie_var (pv 3)) ia_nil) rfl (fr_abs Z) bt_abs) (ie_pow ie_int ie_int) (nobehind _ (by decide) (by decide))) (is_cons (is_set (i := 4) sc__law_take.nd rfl (Or.inl rfl) (ie_mod (ie_callTy call_int1 cn_int (ia_cons (ie_add (ie_callB call_abs cn_abs (ia_cons (ie_var (pv 3)) ia_nil) rfl (fr_abs Z) bt_abs) ie_int) ia_nil) rfl (fr_int Z) bt_int) (ie_pow ie_int ie_int)))
      (is_cons (is_putL (pv 0) ie_int (ie_div (ie_var (pv 4)) (ie_var (pv 1))))
      (is_one (is_ret (ie_mod (ie_callTy call_int1 cn_int (ia_cons (ie_var (pv 4)) ia_nil) rfl (fr_int Z) bt_int) (ie_var (pv 1))))))) is_nil)
    (is_cons (is_putL (pv 0) ie_int (ie_mod (ie_callTy call_int1 cn_int (ia_cons (ie_add (ie_add (ie_add (ie_mul (ie_ixV (pv 0) ie_int) ie_int) (ie_mul (ie_var (pv 3)) ie_int)) (ie_mul (ie_var (pv 2)) ie_int)) ie_int) ia_nil) rfl (fr_int Z) bt_int) ie_int))
    (is_cons (is_set (i := 4) sc__law_take.nd rfl (Or.inl rfl) (ie_mod (ie_callTy call_int1 cn_int (ia_cons (ie_add (ie_mul (ie_ixV (pv 0) ie_int) ie_int) (ie_div (ie_ixV (pv 0) ie_int) ie_int)) ia_nil) rfl (fr_int Z) bt_int) ie_int))
    (is_one (is_ret (ie_mod (ie_div (ie_var (pv 4)) ie_int) (ie_var (pv 1)))))))))))))
abbrev s__law_common : Stmt := top 40
theorem sc__law_common : FnScope ["_law_left", "_law_right", "_law_step"] ["_law_left", "_law_right"] (defScope s__law_common) := ⟨rfl, rfl, rfl, by decide +kernel, rfl, by decide +kernel, by decide +kernel⟩
def m__law_common : Fd := mDef 3 none
  (sSeq (sSet 0 (mCB gAbs (mCons (mVar 0) mNil)))
    (sSeq (sSet 1 (mCB gAbs (mCons (mVar 1) mNil)))
    (sSeq (sFor (mRange1 (mCons (mPure (.int 12000)) mNil)) (pName 2) (sSeq (sIf (mBool (mBin fEq (mVar 1) (mPure (.int 0)))) sBreak sSkip)
      (sPar 0 1 (mCons (mVar 1) (mCons (mBin fMod (mCB gInt (mCons (mVar 0) mNil)) (mVar 1)) mNil)))))
    (sRet (mVar 0)))))
theorem ok__law_common (Z : Cz K mg txE fdf) : FnOk P w K mg base (L2N.CX P w) 1 (He.ga K "_law_common") (fdf "_law_common") ["_law_left", "_law_right"] (spOf K (cAd K) 2 none m__law_common) :=
  def_okN (F__law_common Z) sc__law_common rfl (fun i h => by cases h) fun cdv A outer s H E hr => 
  (is_cons (is_set (i := 0) sc__law_common.nd rfl (Or.inl rfl) (ie_callB call_abs cn_abs (ia_cons (ie_var (pv 0)) ia_nil) rfl (fr_abs Z) bt_abs))
    (is_cons (is_set (i := 1) sc__law_common.nd rfl (Or.inl rfl) (ie_callB call_abs cn_abs (ia_cons (ie_var (pv 1)) ia_nil) rfl (fr_abs Z) bt_abs))
    (is_cons (is_for (vs := [2]) (passes_of rfl) rfl (ii_range1 rfl (fr_range Z) (ia_cons ie_int ia_nil)) (ig_name (pg_name sc__law_common.nd rfl (Or.inl rfl))) (is_cons (is_if (it_cmp (op_eqU hr.units) o2_eq (ie_var (pv 1)) ie_int (nobehind _ (by decide) (by decide))) (is_one is_break) is_nil)
      (is_one (is_parL (i := 0) (j := 1) rfl sc__law_common.nd rfl rfl (by decide) rfl rfl (ia_cons (ie_var (pv 1)) (ia_cons (ie_mod (ie_callTy call_int1 cn_int (ia_cons (ie_var (pv 0)) ia_nil) rfl (fr_int Z) bt_int) (ie_var (pv 1))) ia_nil))))))
    (is_one (is_ret (ie_var (pv 0)))))))
abbrev s__law_is_integer : Stmt := top 43
theorem sc__law_is_integer : FnScope ["_law_got"] ["_law_got"] (defScope s__law_is_integer) := ⟨rfl, rfl, rfl, by decide +kernel, rfl, by decide +kernel, by decide +kernel⟩
def m__law_is_integer : Fd := mDef 1 none
  (sRet (mAndV (mUn (fun d => some (.bool (isInt d))) (mVar 0)) (mUn bNot (mUn (fun d => some (.bool (isBool d))) (mVar 0)))))
theorem ok__law_is_integer (Z : Cz K mg txE fdf) : FnOk P w K mg base (L2N.CX P w) 1 (He.ga K "_law_is_integer") (fdf "_law_is_integer") ["_law_got"] (spOf K (cAd K) 1 none m__law_is_integer) :=
  def_okN (F__law_is_integer Z) sc__law_is_integer rfl (fun i h => by cases h) fun cdv A outer s H E hr => 
  (is_one (is_ret (ie_and (ie_isi kit_int (ie_var (pv 0)) (pe_tyN rfl (fr_int Z) bt_int) rfl (fr_isinstance Z) bt_isinstance) (ie_one (ie_not (ie_isi kit_bool (ie_var (pv 0)) (pe_tyN rfl (fr_bool Z) bt_bool) rfl (fr_isinstance Z) bt_isinstance))))))
abbrev s__law_at : Stmt := top 47
theorem sc__law_at : FnScope ["_law_parts", "_law_spot", "_law_total", "_law_part"] ["_law_parts", "_law_spot"] (defScope s__law_at) := ⟨rfl, rfl, rfl, by decide +kernel, rfl, by decide +kernel, by decide +kernel⟩
def m__law_at : Fd := mDef 4 none
  (sSeq (sSet 2 (mPure (.int 0)))
    (sSeq (sFor (mSeq (mUn fRev (mVar 0))) (pName 3) (sSet 2 (mBin fAdd (mBin fMul (mVar 2) (mVar 1)) (mVar 3))))
    (sRet (mVar 2))))
theorem ok__law_at (Z : Cz K mg txE fdf) : FnOk P w K mg base (L2N.CX P w) 1 (He.ga K "_law_at") (fdf "_law_at") ["_law_parts", "_law_spot"] (spOf K (cAd K) 2 none m__law_at) :=
  def_okN (F__law_at Z) sc__law_at rfl (fun i h => by cases h) fun cdv A outer s H E hr => 
  (is_cons (is_set (i := 2) sc__law_at.nd rfl (Or.inl rfl) ie_int)
    (is_cons (is_for (vs := [3]) (passes_of rfl) rfl (ii_seq (ie_rev (ie_var (pv 0)))) (ig_name (pg_name sc__law_at.nd rfl (Or.inl rfl))) (is_one (is_set (i := 2) sc__law_at.nd rfl (Or.inl rfl) (ie_add (ie_mul (ie_var (pv 2)) (ie_var (pv 1))) (ie_var (pv 3))))))
    (is_one (is_ret (ie_var (pv 2))))))
abbrev s__law_stripped : Stmt := top 48
theorem sc__law_stripped : FnScope ["_law_parts", "_law_k"] ["_law_parts"] (defScope s__law_stripped) := ⟨rfl, rfl, rfl, by decide +kernel, rfl, by decide +kernel, by decide +kernel⟩
def m__law_stripped : Fd := mDef 2 none
  (sSeq (sFor (mRange1 (mCons (mCB gLen (mCons (mVar 0) mNil)) mNil)) (pName 1) (sIf (mBool (mBin fNe (mBin fIx (mVar 0) (mBin fSub (mBin fSub (mCB gLen (mCons (mVar 0) mNil)) (mPure (.int 1))) (mVar 1))) (mPure (.int 0)))) (sRet (mCB gTuple (mCons (mSlX (mVar 0) (mPure none) (mPart (mBin fSub (mCB gLen (mCons (mVar 0) mNil)) (mVar 1)))) mNil))) sSkip))
    (sRet (mTup mNil)))
theorem ok__law_stripped (Z : Cz K mg txE fdf) : FnOk P w K mg base (L2N.CX P w) 1 (He.ga K "_law_stripped") (fdf "_law_stripped") ["_law_parts"] (spOf K (cAd K) 1 none m__law_stripped) :=
  def_okN (F__law_stripped Z) sc__law_stripped rfl (fun i h => by cases h) fun cdv A outer s H E hr => 
  (is_cons (is_for (vs := [1]) (passes_of rfl) rfl (ii_range1 rfl (fr_range Z) (ia_cons (ie_callB cr_len cn_len (ia_cons (ie_var (pv 0)) ia_nil) rfl (fr_len Z) bt_len) ia_nil)) (ig_name (pg_name sc__law_stripped.nd rfl (Or.inl rfl))) (is_one (is_if (it_cmp (op_neU hr.units) o2_ne (ie_ix (ie_var (pv 0)) (ie_sub (ie_sub (ie_callB cr_len cn_len (ia_cons (ie_var (pv 0)) ia_nil) rfl (fr_len Z) bt_len) ie_int) (ie_var (pv 1)))) ie_int (nobehind _ (by decide) (by decide))) (is_one (is_ret (ie_callTy call_tuple_of cn_tuple (ia_cons (ie_slX (ie_var (pv 0)) ip_none (ip_some (ie_sub (ie_callB cr_len cn_len (ia_cons (ie_var (pv 0)) ia_nil) rfl (fr_len Z) bt_len) (ie_var (pv 1))))) ia_nil) rfl (fr_tuple Z) bt_tuple))) is_nil)))
    (is_one (is_ret (ie_tup ia_nil))))
abbrev s__law_changes : Stmt := top 52
theorem sc__law_changes : FnScope ["_law_left", "_law_signs", "_law_part", "_law_k"] ["_law_left"] (defScope s__law_changes) := ⟨rfl, rfl, rfl, by decide +kernel, rfl, by decide +kernel, by decide +kernel⟩
def m__law_changes : Fd := mDef 4 none
  (sSeq (sSet 1 (mCold (mComp (mSeq (mVar 0)) (pName 2) (mBool (mBin fNe (mVar 2) (mPure (.int 0)))) (mBin fGt (mVar 2) (mPure (.int 0))) [2])))
    (sRet (mCB (fun ds => (lst1 ds).bind hSum) (mCons (mCold (mComp (mRange1 (mCons (mBin fSub (mCB gLen (mCons (mVar 1) mNil)) (mPure (.int 1))) mNil)) (pName 3) (mPure true) (mCB gInt (mCons (mBin fNe (mBin fIx (mVar 1) (mVar 3)) (mBin fIx (mVar 1) (mBin fAdd (mVar 3) (mPure (.int 1))))) mNil)) [3])) mNil))))
theorem ok__law_changes (Z : Cz K mg txE fdf) : FnOk P w K mg base (L2N.CX P w) 1 (He.ga K "_law_changes") (fdf "_law_changes") ["_law_left"] (spOf K (cAd K) 1 none m__law_changes) :=
  def_okN (F__law_changes Z) sc__law_changes rfl (fun i h => by cases h) fun cdv A outer s H E hr => 
  (is_cons (is_set (i := 1) sc__law_changes.nd rfl (Or.inr rfl) (ie_cold (io_comp rfl sc__law_changes.nd (ii_seq (ie_var (pv 0))) (show BlkOk ["_law_left", "_law_signs", "_law_part", "_law_k"] (defScope s__law_changes) _ [("_law_part", 2)] from blkOk_by (by decide +kernel)) rfl (fun _ _ _ _ _ => (ig_name (pg_name sc__law_changes.nd rfl (Or.inl rfl)))) (fun _ _ _ _ _ => (its_one (it_cmp (op_neU hr.units) o2_ne (ie_var (pv 2)) ie_int (nobehind _ (by decide) (by decide))))) (fun _ _ _ _ _ => (ie_cmp op_gt o2_gt (ie_var (pv 2)) ie_int (nobehind _ (by decide) (by decide)))))))
    (is_one (is_ret (ie_callB (cr_sum rfl) cs_sum.cn (ia_cons (ie_cold (io_comp rfl sc__law_changes.nd (ii_range1 rfl (fr_range Z) (ia_cons (ie_sub (ie_callB cr_len cn_len (ia_cons (ie_var (pv 1)) ia_nil) rfl (fr_len Z) bt_len) ie_int) ia_nil)) (show BlkOk ["_law_left", "_law_signs", "_law_part", "_law_k"] (defScope s__law_changes) _ [("_law_k", 3)] from blkOk_by (by decide +kernel)) rfl (fun _ _ _ _ _ => (ig_name (pg_name sc__law_changes.nd rfl (Or.inl rfl)))) (fun _ _ _ _ _ => its_nil) (fun _ _ _ _ _ => (ie_callTy call_int1 cn_int (ia_cons (ie_cmp (op_neU hr.units) o2_ne (ie_ix (ie_var (pv 1)) (ie_var (pv 3))) (ie_ix (ie_var (pv 1)) (ie_add (ie_var (pv 3)) ie_int)) (nobehind _ (by decide) (by decide))) ia_nil) rfl (fr_int Z) bt_int)))) ia_nil) rfl (fr_sum Z) bt_sum))))
abbrev s_is_integer_tuple : Stmt := top 3
theorem sc_is_integer_tuple : FnScope ["thing", "number"] ["thing"] (defScope s_is_integer_tuple) := ⟨rfl, rfl, rfl, by decide +kernel, rfl, by decide +kernel, by decide +kernel⟩
def m_is_integer_tuple : Fd := mDef 2 none
  (sRet (mAndV (mUn (fun d => some (.bool (isTup d))) (mVar 0)) (mCB (fun ds => (lst1 ds).bind hAll) (mCons (mCold (mComp (mSeq (mVar 0)) (pName 1) (mPure true) (asD (mCall 1 m_is_integer none (gConsD (mVar 1) gNilA))) [1])) mNil))))
theorem ok_is_integer_tuple (Z : Cz K mg txE fdf) : FnOk P w K mg base (L2N.CX P w) 2 (He.ga K "is_integer_tuple") (fdf "is_integer_tuple") ["thing"] (spOf K (cAd K) 1 none m_is_integer_tuple) :=
  def_okN (F_is_integer_tuple Z) sc_is_integer_tuple rfl (fun i h => by cases h) fun cdv A outer s H E hr => 
  (is_one (is_ret (ie_and (ie_isi kit_tup (ie_var (pv 0)) (pe_tyN rfl (fr_tuple Z) bt_tuple) rfl (fr_isinstance Z) bt_isinstance) (ie_one (ie_callB (cr_all rfl) cs_all.cn (ia_cons (ie_cold (io_comp rfl sc_is_integer_tuple.nd (ii_seq (ie_var (pv 0))) (show BlkOk ["thing", "number"] (defScope s_is_integer_tuple) _ [("number", 1)] from blkOk_by (by decide +kernel)) rfl (fun _ _ _ _ _ => (ig_name (pg_name sc_is_integer_tuple.nd rfl (Or.inl rfl)))) (fun _ _ _ _ _ => its_nil) (fun _ _ _ _ _ => (IC.d (ic_callN (ok_is_integer Z) rfl (hr.mono (by decide)) (g_is_integer Z) (F_is_integer Z).kp (b_is_integer Z) tk0N (ga_d (ie_var (pv 1)) ga_nil) rfl))))) ia_nil) rfl (fr_all Z) bt_all)))))
abbrev s_added : Stmt := top 27
theorem sc_added : FnScope ["one", "other", "numbers", "k", "number"] ["one", "other"] (defScope s_added) := ⟨rfl, rfl, rfl, by decide +kernel, rfl, by decide +kernel, by decide +kernel⟩
def m_added : Fd := mDef 5 none
  (sSeq (sSetO 2 (mBinO fRepL (mCold (mLst (mCons (mPure (.int 0)) mNil))) (mCB gMax2 (mCons (mCB gLen (mCons (mVar 0) mNil)) (mCons (mCB gLen (mCons (mVar 1) mNil)) mNil)))))
    (sSeq (sFor (mEnumT (mCons (mVar 0) mNil)) (pTup (pCons (pName 3) (pCons (pName 4) pNil))) (sAugI 2 (· + ·) (mVar 3) (mVar 4)))
    (sSeq (sFor (mEnumT (mCons (mVar 1) mNil)) (pTup (pCons (pName 3) (pCons (pName 4) pNil))) (sAugI 2 (· + ·) (mVar 3) (mVar 4)))
    (sRet (asD (mCall 1 m_trimmed none (gConsD (mMove 2) gNilA)))))))
theorem ok_added (Z : Cz K mg txE fdf) : FnOk P w K mg base (L2N.CX P w) 2 (He.ga K "added") (fdf "added") ["one", "other"] (spOf K (cAd K) 2 none m_added) :=
  def_okN (F_added Z) sc_added rfl (fun i h => by cases h) fun cdv A outer s H E hr => 
  (is_cons (is_setO (i := 2) sc_added.nd rfl (Or.inl rfl) (io_rep (ie_cold (io_lst (ia_cons ie_int ia_nil))) (ie_callB (call_max2 rfl) cn_max2 (ia_cons (ie_callB cr_len cn_len (ia_cons (ie_var (pv 0)) ia_nil) rfl (fr_len Z) bt_len) (ia_cons (ie_callB cr_len cn_len (ia_cons (ie_var (pv 1)) ia_nil) rfl (fr_len Z) bt_len) ia_nil)) rfl (fr_max Z) bt_max)))
    (is_cons (is_for (vs := [3, 4]) (passes_of rfl) rfl (ii_enumT rfl (fr_enumerate Z) (ia_cons (ie_var (pv 0)) ia_nil)) (ig_tup rfl (igs_cons (ig_name (pg_name sc_added.nd rfl (Or.inl rfl))) (igs_cons (ig_name (pg_name sc_added.nd rfl (Or.inl rfl))) igs_nil)) (pCons_len (pCons_len (fun ds σ h => pNil_len h)))) (is_one (is_augI (pv 2) (ie_var (pv 3)) (ie_var (pv 4)) ip_add)))
    (is_cons (is_for (vs := [3, 4]) (passes_of rfl) rfl (ii_enumT rfl (fr_enumerate Z) (ia_cons (ie_var (pv 1)) ia_nil)) (ig_tup rfl (igs_cons (ig_name (pg_name sc_added.nd rfl (Or.inl rfl))) (igs_cons (ig_name (pg_name sc_added.nd rfl (Or.inl rfl))) igs_nil)) (pCons_len (pCons_len (fun ds σ h => pNil_len h)))) (is_one (is_augI (pv 2) (ie_var (pv 3)) (ie_var (pv 4)) ip_add)))
    (is_one (is_ret (IC.d (ic_callN (ok_trimmed Z) rfl (hr.mono (by decide)) (g_trimmed Z) (F_trimmed Z).kp (b_trimmed Z) (L2N.takes_of rfl rfl rfl rfl) (ga_d (ie_move (pv 2)) ga_nil) rfl)))))))
abbrev s_multiplied : Stmt := top 28
theorem sc_multiplied : FnScope ["one", "other", "numbers", "j", "number", "k", "factor"] ["one", "other"] (defScope s_multiplied) := ⟨rfl, rfl, rfl, by decide +kernel, rfl, by decide +kernel, by decide +kernel⟩
def m_multiplied : Fd := mDef 7 none
  (sSeq (sSetO 2 (mBinO fRepL (mCold (mLst (mCons (mPure (.int 0)) mNil))) (mBin fAdd (mCB gLen (mCons (mVar 0) mNil)) (mCB gLen (mCons (mVar 1) mNil)))))
    (sSeq (sFor (mEnumT (mCons (mVar 0) mNil)) (pTup (pCons (pName 3) (pCons (pName 4) pNil))) (sFor (mEnumT (mCons (mVar 1) mNil)) (pTup (pCons (pName 5) (pCons (pName 6) pNil))) (sAugI 2 (· + ·) (mBin fAdd (mVar 3) (mVar 5)) (mBin fMul (mVar 4) (mVar 6)))))
    (sRet (asD (mCall 1 m_trimmed none (gConsD (mMove 2) gNilA))))))
theorem ok_multiplied (Z : Cz K mg txE fdf) : FnOk P w K mg base (L2N.CX P w) 2 (He.ga K "multiplied") (fdf "multiplied") ["one", "other"] (spOf K (cAd K) 2 none m_multiplied) :=
  def_okN (F_multiplied Z) sc_multiplied rfl (fun i h => by cases h) fun cdv A outer s H E hr => 
  (is_cons (is_setO (i := 2) sc_multiplied.nd rfl (Or.inl rfl) (io_rep (ie_cold (io_lst (ia_cons ie_int ia_nil))) (ie_add (ie_callB cr_len cn_len (ia_cons (ie_var (pv 0)) ia_nil) rfl (fr_len Z) bt_len) (ie_callB cr_len cn_len (ia_cons (ie_var (pv 1)) ia_nil) rfl (fr_len Z) bt_len))))
    (is_cons (is_for (vs := [3, 4]) (passes_of rfl) rfl (ii_enumT rfl (fr_enumerate Z) (ia_cons (ie_var (pv 0)) ia_nil)) (ig_tup rfl (igs_cons (ig_name (pg_name sc_multiplied.nd rfl (Or.inl rfl))) (igs_cons (ig_name (pg_name sc_multiplied.nd rfl (Or.inl rfl))) igs_nil)) (pCons_len (pCons_len (fun ds σ h => pNil_len h)))) (is_one (is_for (vs := [5, 6]) (passes_of rfl) rfl (ii_enumT rfl (fr_enumerate Z) (ia_cons (ie_var (pv 1)) ia_nil)) (ig_tup rfl (igs_cons (ig_name (pg_name sc_multiplied.nd rfl (Or.inl rfl))) (igs_cons (ig_name (pg_name sc_multiplied.nd rfl (Or.inl rfl))) igs_nil)) (pCons_len (pCons_len (fun ds σ h => pNil_len h)))) (is_one (is_augI (pv 2) (ie_add (ie_var (pv 3)) (ie_var (pv 5))) (ie_mul (ie_var (pv 4)) (ie_var (pv 6))) ip_add)))))
    (is_one (is_ret (IC.d (ic_callN (ok_trimmed Z) rfl (hr.mono (by decide)) (g_trimmed Z) (F_trimmed Z).kp (b_trimmed Z) (L2N.takes_of rfl rfl rfl rfl) (ga_d (ie_move (pv 2)) ga_nil) rfl))))))
abbrev s__law_integer : Stmt := top 39
theorem sc__law_integer : FnScope ["_law_feed_here", "_law_kind"] ["_law_feed_here"] (defScope s__law_integer) := ⟨rfl, rfl, rfl, by decide +kernel, rfl, by decide +kernel, by decide +kernel⟩
def m__law_integer : Fd := mDef 2 (some 0)
  (sSeq (sSet 1 (asD (mCall 2 m__law_take (some 0) (gConsS 0 (gConsD (mPure (.int 6)) gNilA)))))
    (sSeq (sIf (mBool (mBin fLt (mVar 1) (mPure (.int 2)))) (sRet (mBin fSub (asD (mCall 2 m__law_take (some 0) (gConsS 0 (gConsD (mPure (.int 19)) gNilA)))) (mPure (.int 9)))) sSkip)
    (sSeq (sIf (mBool (mBin fEq (mVar 1) (mPure (.int 2)))) (sRet (mBin fSub (asD (mCall 2 m__law_take (some 0) (gConsS 0 (gConsD (mPure (.int 2001)) gNilA)))) (mPure (.int 1000)))) sSkip)
    (sSeq (sIf (mBool (mBin fEq (mVar 1) (mPure (.int 3)))) (sRet (mBin fMul (mBin fMul (mBin fSub (asD (mCall 2 m__law_take (some 0) (gConsS 0 (gConsD (mPure (.int 9)) gNilA)))) (mPure (.int 4))) (mBin fAdd (mPure (.int 1)) (asD (mCall 2 m__law_take (some 0) (gConsS 0 (gConsD (mPure (.int 12)) gNilA)))))) (mBin fAdd (mPure (.int 1)) (asD (mCall 2 m__law_take (some 0) (gConsS 0 (gConsD (mPure (.int 12)) gNilA))))))) sSkip)
    (sSeq (sIf (mBool (mBin fEq (mVar 1) (mPure (.int 4)))) (sRet (mBin fSub (mBin fAdd (mBin fMul (mBin fSub (mPure (.int 1)) (mBin fMul (mPure (.int 2)) (asD (mCall 2 m__law_take (some 0) (gConsS 0 (gConsD (mPure (.int 2)) gNilA)))))) (mBin fPow (mPure (.int 10)) (mPure (.int 12)))) (asD (mCall 2 m__law_take (some 0) (gConsS 0 (gConsD (mPure (.int 3)) gNilA))))) (mPure (.int 1)))) sSkip)
    (sRet (mBin fMul (mBin fSub (mPure (.int 1)) (mBin fMul (mPure (.int 2)) (asD (mCall 2 m__law_take (some 0) (gConsS 0 (gConsD (mPure (.int 2)) gNilA)))))) (mBin fAdd (mBin fMul (asD (mCall 2 m__law_take (some 0) (gConsS 0 (gConsD (mBin fPow (mPure (.int 10)) (mPure (.int 9))) gNilA)))) (mBin fPow (mPure (.int 10)) (mPure (.int 20)))) (asD (mCall 2 m__law_take (some 0) (gConsS 0 (gConsD (mBin fPow (mPure (.int 10)) (mPure (.int 9))) gNilA))))))))))))
theorem ok__law_integer (Z : Cz K mg txE fdf) : FnOk P w K mg base (L2N.CX P w) 2 (He.ga K "_law_integer") (fdf "_law_integer") ["_law_feed_here"] (spOf K (cAd K) 1 (some 0) m__law_integer) :=
  def_okN (F__law_integer Z) sc__law_integer rfl (fun i h => by cases h <;> decide) fun cdv A outer s H E hr => 
  (is_cons (is_set (i := 1) sc__law_integer.nd rfl (Or.inl rfl) (IC.d (ic_callN (ok__law_take Z) rfl (hr.mono (by decide)) (g__law_take Z) (F__law_take Z).kp (b__law_take Z) (L2N.takes_of rfl rfl rfl rfl) (ga_s (pv 0) (ga_d ie_int ga_nil)) rfl)))
    (is_cons (is_if (it_cmp op_lt o2_lt (ie_var (pv 1)) ie_int (nobehind _ (by decide) (by decide))) (is_one (is_ret (ie_sub (IC.d (ic_callN (ok__law_take Z) rfl (hr.mono (by decide)) (g__law_take Z) (F__law_take Z).kp (b__law_take Z) (L2N.takes_of rfl rfl rfl rfl) (ga_s (pv 0) (ga_d ie_int ga_nil)) rfl)) ie_int))) is_nil)
    (is_cons (is_if (it_cmp (op_eqU hr.units) o2_eq (ie_var (pv 1)) ie_int (nobehind _ (by decide) (by decide))) (is_one (is_ret (ie_sub (IC.d (ic_callN (ok__law_take Z) rfl (hr.mono (by decide)) (g__law_take Z) (F__law_take Z).kp (b__law_take Z) (L2N.takes_of rfl rfl rfl rfl) (ga_s (pv 0) (ga_d ie_int ga_nil)) rfl)) ie_int))) is_nil)
    (is_cons (is_if (it_cmp (op_eqU hr.units) o2_eq (ie_var (pv 1)) ie_int (nobehind _ (by decide) (by decide))) (is_one (is_ret (ie_mul (ie_mul (ie_sub (IC.d (ic_callN (ok__law_take Z) rfl (hr.mono (by decide)) (g__law_take Z) (F__law_take Z).kp (b__law_take Z) (L2N.takes_of rfl rfl rfl rfl) (ga_s (pv 0) (ga_d ie_int ga_nil)) rfl)) ie_int) (ie_add ie_int (IC.d (ic_callN (ok__law_take Z) rfl (hr.mono (by decide)) (g__law_take Z) (F__law_take Z).kp (b__law_take Z) (L2N.takes_of rfl rfl rfl rfl) (ga_s (pv 0) (ga_d ie_int ga_nil)) rfl)))) (ie_add ie_int (IC.d (ic_callN (ok__law_take Z) rfl (hr.mono (by decide)) (g__law_take Z) (F__law_take Z).kp (b__law_take Z) (L2N.takes_of rfl rfl rfl rfl) (ga_s (pv 0) (ga_d ie_int ga_nil)) rfl)))))) is_nil)
    (is_cons (is_if (it_cmp (op_eqU hr.units) o2_eq (ie_var (pv 1)) ie_int (nobehind _ (by decide) (by decide))) (is_one (is_ret (ie_sub (ie_add (ie_mul (ie_sub ie_int (ie_mul ie_int (IC.d (ic_callN (ok__law_take Z) rfl (hr.mono (by decide)) (g__law_take Z) (F__law_take Z).kp (b__law_take Z) (L2N.takes_of rfl rfl rfl rfl) (ga_s (pv 0) (ga_d ie_int ga_nil)) rfl)))) (ie_pow ie_int ie_int)) (IC.d (ic_callN (ok__law_take Z) rfl (hr.mono (by decide)) (g__law_take Z) (F__law_take Z).kp (b__law_take Z) (L2N.takes_of rfl rfl rfl rfl) (ga_s (pv 0) (ga_d ie_int ga_nil)) rfl))) ie_int))) is_nil)
    (is_one (is_ret (ie_mul (ie_sub ie_int (ie_mul ie_int (IC.d (ic_callN (ok__law_take Z) rfl (hr.mono (by decide)) (g__law_take Z) (F__law_take Z).kp (b__law_take Z) (L2N.takes_of rfl rfl rfl rfl) (ga_s (pv 0) (ga_d ie_int ga_nil)) rfl)))) (ie_add (ie_mul (IC.d (ic_callN (ok__law_take Z) rfl (hr.mono (by decide)) (g__law_take Z) (F__law_take Z).kp (b__law_take Z) (L2N.takes_of rfl rfl rfl rfl) (ga_s (pv 0) (ga_d (ie_pow ie_int ie_int) ga_nil)) rfl)) (ie_pow ie_int ie_int)) (IC.d (ic_callN (ok__law_take Z) rfl (hr.mono (by decide)) (g__law_take Z) (F__law_take Z).kp (b__law_take Z) (L2N.takes_of rfl rfl rfl rfl) (ga_s (pv 0) (ga_d (ie_pow ie_int ie_int) ga_nil)) rfl)))))))))))
abbrev s__law_lowest : Stmt := top 41
theorem sc__law_lowest : FnScope ["_law_high", "_law_low", "_law_common_here"] ["_law_high", "_law_low"] (defScope s__law_lowest) := ⟨rfl, rfl, rfl, by decide +kernel, rfl, by decide +kernel, by decide +kernel⟩
def m__law_lowest : Fd := mDef 3 none
  (sSeq (sIf (mBool (mBin fLt (mVar 1) (mPure (.int 0)))) (sSeq (sSet 0 (mUn fNeg (mVar 0)))
      (sSet 1 (mUn fNeg (mVar 1)))) sSkip)
    (sSeq (sSet 2 (asD (mCall 2 m__law_common none (gConsD (mVar 0) (gConsD (mVar 1) gNilA)))))
    (sRet (mTup (mCons (mBin fDiv (mVar 0) (mVar 2)) (mCons (mBin fDiv (mVar 1) (mVar 2)) mNil))))))
theorem ok__law_lowest (Z : Cz K mg txE fdf) : FnOk P w K mg base (L2N.CX P w) 2 (He.ga K "_law_lowest") (fdf "_law_lowest") ["_law_high", "_law_low"] (spOf K (cAd K) 2 none m__law_lowest) :=
  def_okN (F__law_lowest Z) sc__law_lowest rfl (fun i h => by cases h) fun cdv A outer s H E hr => 
  (is_cons (is_if (it_cmp op_lt o2_lt (ie_var (pv 1)) ie_int (nobehind _ (by decide) (by decide))) (is_cons (is_set (i := 0) sc__law_lowest.nd rfl (Or.inl rfl) (ie_neg (ie_var (pv 0))))
      (is_one (is_set (i := 1) sc__law_lowest.nd rfl (Or.inl rfl) (ie_neg (ie_var (pv 1)))))) is_nil)
    (is_cons (is_set (i := 2) sc__law_lowest.nd rfl (Or.inl rfl) (IC.d (ic_callN (ok__law_common Z) rfl (hr.mono (by decide)) (g__law_common Z) (F__law_common Z).kp (b__law_common Z) (L2N.takes_of rfl rfl rfl rfl) (ga_d (ie_var (pv 0)) (ga_d (ie_var (pv 1)) ga_nil)) rfl)))
    (is_one (is_ret (ie_tup (ia_cons (ie_div (ie_var (pv 0)) (ie_var (pv 2))) (ia_cons (ie_div (ie_var (pv 1)) (ie_var (pv 2))) ia_nil)))))))
abbrev s__law_is_row : Stmt := top 44
theorem sc__law_is_row : FnScope ["_law_got", "_law_part"] ["_law_got"] (defScope s__law_is_row) := ⟨rfl, rfl, rfl, by decide +kernel, rfl, by decide +kernel, by decide +kernel⟩
def m__law_is_row : Fd := mDef 2 none
  (sSeq (sIf (mNot (mTruD (mUn (fun d => some (.bool (isTup d))) (mVar 0)))) (sRet (mPure (.bool false))) sSkip)
    (sSeq (sFor (mSeq (mVar 0)) (pName 1) (sIf (mNot (mTruD (asD (mCall 1 m__law_is_integer none (gConsD (mVar 1) gNilA))))) (sRet (mPure (.bool false))) sSkip))
    (sRet (mOrV (mBin fEq (mCB gLen (mCons (mVar 0) mNil)) (mPure (.int 0))) (mBin fNe (mBin fIx (mVar 0) (mUn fNeg (mPure (.int 1)))) (mPure (.int 0)))))))
theorem ok__law_is_row (Z : Cz K mg txE fdf) : FnOk P w K mg base (L2N.CX P w) 2 (He.ga K "_law_is_row") (fdf "_law_is_row") ["_law_got"] (spOf K (cAd K) 1 none m__law_is_row) :=
  def_okN (F__law_is_row Z) sc__law_is_row rfl (fun i h => by cases h) fun cdv A outer s H E hr => 
  (is_cons (is_if (it_not (it_truD (ie_isi kit_tup (ie_var (pv 0)) (pe_tyN rfl (fr_tuple Z) bt_tuple) rfl (fr_isinstance Z) bt_isinstance))) (is_one (is_ret ie_bl)) is_nil)
    (is_cons (is_for (vs := [1]) (passes_of rfl) rfl (ii_seq (ie_var (pv 0))) (ig_name (pg_name sc__law_is_row.nd rfl (Or.inl rfl))) (is_one (is_if (it_not (it_truD (IC.d (ic_callN (ok__law_is_integer Z) rfl (hr.mono (by decide)) (g__law_is_integer Z) (F__law_is_integer Z).kp (b__law_is_integer Z) (L2N.takes_of rfl rfl rfl rfl) (ga_d (ie_var (pv 1)) ga_nil) rfl)))) (is_one (is_ret ie_bl)) is_nil)))
    (is_one (is_ret (ie_or (ie_cmp (op_eqU hr.units) o2_eq (ie_callB cr_len cn_len (ia_cons (ie_var (pv 0)) ia_nil) rfl (fr_len Z) bt_len) ie_int (nobehind _ (by decide) (by decide))) (ie_one (ie_cmp (op_neU hr.units) o2_ne (ie_ix (ie_var (pv 0)) (ie_neg ie_int)) ie_int (nobehind _ (by decide) (by decide)))))))))
abbrev s__law_stands : Stmt := top 45
theorem sc__law_stands : FnScope ["_law_got", "_law_high", "_law_low"] ["_law_got", "_law_high", "_law_low"] (defScope s__law_stands) := ⟨rfl, rfl, rfl, by decide +kernel, rfl, by decide +kernel, by decide +kernel⟩
def m__law_stands : Fd := mDef 3 none
  (sSeq (sIf (mOr (mNot (mTruD (mUn (fun d => some (.bool (isTup d))) (mVar 0)))) (mOr (mBool (mBin fNe (mCB gLen (mCons (mVar 0) mNil)) (mPure (.int 2)))) (mOr (mNot (mTruD (asD (mCall 1 m__law_is_integer none (gConsD (mBin fIx (mVar 0) (mPure (.int 0))) gNilA))))) (mNot (mTruD (asD (mCall 1 m__law_is_integer none (gConsD (mBin fIx (mVar 0) (mPure (.int 1))) gNilA)))))))) (sRet (mPure (.bool false))) sSkip)
    (sRet (mAndV (mBin fGt (mBin fIx (mVar 0) (mPure (.int 1))) (mPure (.int 0))) (mAndV (mBin fEq (asD (mCall 2 m__law_common none (gConsD (mBin fIx (mVar 0) (mPure (.int 0))) (gConsD (mBin fIx (mVar 0) (mPure (.int 1))) gNilA)))) (mPure (.int 1))) (mBin fEq (mBin fMul (mBin fIx (mVar 0) (mPure (.int 0))) (mVar 2)) (mBin fMul (mVar 1) (mBin fIx (mVar 0) (mPure (.int 1)))))))))
theorem ok__law_stands (Z : Cz K mg txE fdf) : FnOk P w K mg base (L2N.CX P w) 2 (He.ga K "_law_stands") (fdf "_law_stands") ["_law_got", "_law_high", "_law_low"] (spOf K (cAd K) 3 none m__law_stands) :=
  def_okN (F__law_stands Z) sc__law_stands rfl (fun i h => by cases h) fun cdv A outer s H E hr => 
  (is_cons (is_if (IW.it (iw_or (it_not (it_truD (ie_isi kit_tup (ie_var (pv 0)) (pe_tyN rfl (fr_tuple Z) bt_tuple) rfl (fr_isinstance Z) bt_isinstance))) (iw_or (it_cmp (op_neU hr.units) o2_ne (ie_callB cr_len cn_len (ia_cons (ie_var (pv 0)) ia_nil) rfl (fr_len Z) bt_len) ie_int (nobehind _ (by decide) (by decide))) (iw_or (it_not (it_truD (IC.d (ic_callN (ok__law_is_integer Z) rfl (hr.mono (by decide)) (g__law_is_integer Z) (F__law_is_integer Z).kp (b__law_is_integer Z) (L2N.takes_of rfl rfl rfl rfl) (ga_d (ie_ix (ie_var (pv 0)) ie_int) ga_nil) rfl)))) (iw_or1 (it_not (it_truD (IC.d (ic_callN (ok__law_is_integer Z) rfl (hr.mono (by decide)) (g__law_is_integer Z) (F__law_is_integer Z).kp (b__law_is_integer Z) (L2N.takes_of rfl rfl rfl rfl) (ga_d (ie_ix (ie_var (pv 0)) ie_int) ga_nil) rfl))))))))) (is_one (is_ret ie_bl)) is_nil)
    (is_one (is_ret (ie_and (ie_cmp op_gt o2_gt (ie_ix (ie_var (pv 0)) ie_int) ie_int (nobehind _ (by decide) (by decide))) (ie_and (ie_cmp (op_eqU hr.units) o2_eq (IC.d (ic_callN (ok__law_common Z) rfl (hr.mono (by decide)) (g__law_common Z) (F__law_common Z).kp (b__law_common Z) (L2N.takes_of rfl rfl rfl rfl) (ga_d (ie_ix (ie_var (pv 0)) ie_int) (ga_d (ie_ix (ie_var (pv 0)) ie_int) ga_nil)) rfl)) ie_int (nobehind _ (by decide) (by decide))) (ie_one (ie_cmp (op_eqU hr.units) o2_eq (ie_mul (ie_ix (ie_var (pv 0)) ie_int) (ie_var (pv 2))) (ie_mul (ie_var (pv 1)) (ie_ix (ie_var (pv 0)) ie_int)) (nobehind _ (by decide) (by decide)))))))))
abbrev s__law_sum_row : Stmt := top 49
theorem sc__law_sum_row : FnScope ["_law_left", "_law_right", "_law_size", "_law_k"] ["_law_left", "_law_right"] (defScope s__law_sum_row) := ⟨rfl, rfl, rfl, by decide +kernel, rfl, by decide +kernel, by decide +kernel⟩
def m__law_sum_row : Fd := mDef 4 none
  (sSeq (sSet 2 (mCB gMax2 (mCons (mCB gLen (mCons (mVar 0) mNil)) (mCons (mCB gLen (mCons (mVar 1) mNil)) mNil))))
    (sSeq (sSet 0 (mCold (mBinO fCatL (mCold (mCBL seq1 (mCons (mVar 0) mNil))) (mCold (mBinO fRepL (mCold (mLst (mCons (mPure (.int 0)) mNil))) (mBin fSub (mVar 2) (mCB gLen (mCons (mVar 0) mNil))))))))
    (sSeq (sSet 1 (mCold (mBinO fCatL (mCold (mCBL seq1 (mCons (mVar 1) mNil))) (mCold (mBinO fRepL (mCold (mLst (mCons (mPure (.int 0)) mNil))) (mBin fSub (mVar 2) (mCB gLen (mCons (mVar 1) mNil))))))))
    (sRet (asD (mCall 1 m__law_stripped none (gConsD (mCold (mComp (mRange1 (mCons (mVar 2) mNil)) (pName 3) (mPure true) (mBin fAdd (mBin fIx (mVar 0) (mVar 3)) (mBin fIx (mVar 1) (mVar 3))) [3])) gNilA)))))))
theorem ok__law_sum_row (Z : Cz K mg txE fdf) : FnOk P w K mg base (L2N.CX P w) 2 (He.ga K "_law_sum_row") (fdf "_law_sum_row") ["_law_left", "_law_right"] (spOf K (cAd K) 2 none m__law_sum_row) :=
  def_okN (F__law_sum_row Z) sc__law_sum_row rfl (fun i h => by cases h) fun cdv A outer s H E hr => 
  (is_cons (is_set (i := 2) sc__law_sum_row.nd rfl (Or.inl rfl) (ie_callB (call_max2 rfl) cn_max2 (ia_cons (ie_callB cr_len cn_len (ia_cons (ie_var (pv 0)) ia_nil) rfl (fr_len Z) bt_len) (ia_cons (ie_callB cr_len cn_len (ia_cons (ie_var (pv 1)) ia_nil) rfl (fr_len Z) bt_len) ia_nil)) rfl (fr_max Z) bt_max))
    (is_cons (is_set (i := 0) sc__law_sum_row.nd rfl (Or.inr rfl) (ie_cold (io_cat (ie_cold (io_callTy call_list_of cnl_list (ia_cons (ie_var (pv 0)) ia_nil) rfl (fr_list Z) bt_list)) (ie_cold (io_rep (ie_cold (io_lst (ia_cons ie_int ia_nil))) (ie_sub (ie_var (pv 2)) (ie_callB cr_len cn_len (ia_cons (ie_var (pv 0)) ia_nil) rfl (fr_len Z) bt_len)))))))
    (is_cons (is_set (i := 1) sc__law_sum_row.nd rfl (Or.inr rfl) (ie_cold (io_cat (ie_cold (io_callTy call_list_of cnl_list (ia_cons (ie_var (pv 1)) ia_nil) rfl (fr_list Z) bt_list)) (ie_cold (io_rep (ie_cold (io_lst (ia_cons ie_int ia_nil))) (ie_sub (ie_var (pv 2)) (ie_callB cr_len cn_len (ia_cons (ie_var (pv 1)) ia_nil) rfl (fr_len Z) bt_len)))))))
    (is_one (is_ret (IC.d (ic_callN (ok__law_stripped Z) rfl (hr.mono (by decide)) (g__law_stripped Z) (F__law_stripped Z).kp (b__law_stripped Z) (L2N.takes_of rfl rfl rfl rfl) (ga_d (ie_cold (io_comp rfl sc__law_sum_row.nd (ii_range1 rfl (fr_range Z) (ia_cons (ie_var (pv 2)) ia_nil)) (show BlkOk ["_law_left", "_law_right", "_law_size", "_law_k"] (defScope s__law_sum_row) _ [("_law_k", 3)] from blkOk_by (by decide +kernel)) rfl (fun _ _ _ _ _ => (ig_name (pg_name sc__law_sum_row.nd rfl (Or.inl rfl)))) (fun _ _ _ _ _ => its_nil) (fun _ _ _ _ _ => (ie_add (ie_ix (ie_var (pv 0)) (ie_var (pv 3))) (ie_ix (ie_var (pv 1)) (ie_var (pv 3))))))) ga_nil) rfl)))))))
abbrev s_is_integer_pair : Stmt := top 4
theorem sc_is_integer_pair : FnScope ["thing"] ["thing"] (defScope s_is_integer_pair) := ⟨rfl, rfl, rfl, by decide +kernel, rfl, by decide +kernel, by decide +kernel⟩
def m_is_integer_pair : Fd := mDef 1 none
  (sRet (mAndV (asD (mCall 1 m_is_integer_tuple none (gConsD (mVar 0) gNilA))) (mBin fEq (mCB gLen (mCons (mVar 0) mNil)) (mPure (.int 2)))))
theorem ok_is_integer_pair (Z : Cz K mg txE fdf) : FnOk P w K mg base (L2N.CX P w) 3 (He.ga K "is_integer_pair") (fdf "is_integer_pair") ["thing"] (spOf K (cAd K) 1 none m_is_integer_pair) :=
  def_okN (F_is_integer_pair Z) sc_is_integer_pair rfl (fun i h => by cases h) fun cdv A outer s H E hr => 
  (is_one (is_ret (ie_and (IC.d (ic_callN (ok_is_integer_tuple Z) rfl (hr.mono (by decide)) (g_is_integer_tuple Z) (F_is_integer_tuple Z).kp (b_is_integer_tuple Z) (L2N.takes_of rfl rfl rfl rfl) (ga_d (ie_var (pv 0)) ga_nil) rfl)) (ie_one (ie_cmp (op_eqU hr.units) o2_eq (ie_callB cr_len cn_len (ia_cons (ie_var (pv 0)) ia_nil) rfl (fr_len Z) bt_len) ie_int (nobehind _ (by decide) (by decide)))))))
abbrev s_is_row : Stmt := top 6
theorem sc_is_row : FnScope ["thing"] ["thing"] (defScope s_is_row) := ⟨rfl, rfl, rfl, by decide +kernel, rfl, by decide +kernel, by decide +kernel⟩
def m_is_row : Fd := mDef 1 none
  (sRet (mAndV (asD (mCall 1 m_is_integer_tuple none (gConsD (mVar 0) gNilA))) (mOrV (mBin fEq (mVar 0) (mTup mNil)) (mBin fNe (mBin fIx (mVar 0) (mUn fNeg (mPure (.int 1)))) (mPure (.int 0))))))
theorem ok_is_row (Z : Cz K mg txE fdf) : FnOk P w K mg base (L2N.CX P w) 3 (He.ga K "is_row") (fdf "is_row") ["thing"] (spOf K (cAd K) 1 none m_is_row) :=
  def_okN (F_is_row Z) sc_is_row rfl (fun i h => by cases h) fun cdv A outer s H E hr => 
  (is_one (is_ret (ie_and (IC.d (ic_callN (ok_is_integer_tuple Z) rfl (hr.mono (by decide)) (g_is_integer_tuple Z) (F_is_integer_tuple Z).kp (b_is_integer_tuple Z) (L2N.takes_of rfl rfl rfl rfl) (ga_d (ie_var (pv 0)) ga_nil) rfl)) (ie_one (ie_or (ie_cmp (op_eqU hr.units) o2_eq (ie_var (pv 0)) (ie_tup ia_nil) (nobehind _ (by decide) (by decide))) (ie_one (ie_cmp (op_neU hr.units) o2_ne (ie_ix (ie_var (pv 0)) (ie_neg ie_int)) ie_int (nobehind _ (by decide) (by decide)))))))))
abbrev s_need : Stmt := top 15
theorem sc_need : FnScope ["good", "name"] ["good", "name"] (defScope s_need) := ⟨rfl, rfl, rfl, by decide +kernel, rfl, by decide +kernel, by decide +kernel⟩
def m_need : Fd := mDef 2 none
  (sIf (mNot (mTruD (mVar 0))) (sRaise2 "NotUsable" "word" "at" (mCons (mVar 1) (mCons (mUn fNeg (mPure (.int 1))) mNil))) sSkip)
theorem ok_need (Z : Cz K mg txE fdf) : FnOk P w K mg base (L2N.CX P w) 3 (He.ga K "need") (fdf "need") ["good", "name"] (spOf K (cAd K) 2 none m_need) :=
  def_okN (F_need Z) sc_need rfl (fun i h => by cases h) fun cdv A outer s H E hr => 
  (is_one (is_if (it_not (it_truD (ie_var (pv 0)))) (is_one (is_raise2N (c := "NotUsable") rfl (L2N.takes_of rfl rfl rfl rfl) (X_NotUsable Z).T (X_NotUsable Z).iC (X_NotUsable Z).tI ((X_NotUsable Z).nn 0) ((X_NotUsable Z).nn 1) (ok_ini_NotUsable Z) (hr.mono (by decide)) (X_NotUsable Z).B (cg_NotUsable Z) (ia_cons (ie_var (pv 1)) (ia_cons (ie_neg ie_int) ia_nil)) rfl)) is_nil))
abbrev s__law_quotient : Stmt := top 42
theorem sc__law_quotient : FnScope ["_law_feed_here", "_law_high", "_law_low"] ["_law_feed_here"] (defScope s__law_quotient) := ⟨rfl, rfl, rfl, by decide +kernel, rfl, by decide +kernel, by decide +kernel⟩
def m__law_quotient : Fd := mDef 3 (some 0)
  (sSeq (sSet 1 (asD (mCall 1 m__law_integer (some 0) (gConsS 0 gNilA))))
    (sSeq (sSet 2 (asD (mCall 1 m__law_integer (some 0) (gConsS 0 gNilA))))
    (sRet (asD (mCall 2 m__law_lowest none (gConsD (mVar 1) (gConsD (mBin fAdd (mVar 2) (mCB gInt (mCons (mBin fEq (mVar 2) (mPure (.int 0))) mNil))) gNilA)))))))
theorem ok__law_quotient (Z : Cz K mg txE fdf) : FnOk P w K mg base (L2N.CX P w) 3 (He.ga K "_law_quotient") (fdf "_law_quotient") ["_law_feed_here"] (spOf K (cAd K) 1 (some 0) m__law_quotient) :=
  def_okN (F__law_quotient Z) sc__law_quotient rfl (fun i h => by cases h <;> decide) fun cdv A outer s H E hr => 
  (is_cons (is_set (i := 1) sc__law_quotient.nd rfl (Or.inl rfl) (IC.d (ic_callN (ok__law_integer Z) rfl (hr.mono (by decide)) (g__law_integer Z) (F__law_integer Z).kp (b__law_integer Z) (L2N.takes_of rfl rfl rfl rfl) (ga_s (pv 0) ga_nil) rfl)))
    (is_cons (is_set (i := 2) sc__law_quotient.nd rfl (Or.inl rfl) (IC.d (ic_callN (ok__law_integer Z) rfl (hr.mono (by decide)) (g__law_integer Z) (F__law_integer Z).kp (b__law_integer Z) (L2N.takes_of rfl rfl rfl rfl) (ga_s (pv 0) ga_nil) rfl)))
    (is_one (is_ret (IC.d (ic_callN (ok__law_lowest Z) rfl (hr.mono (by decide)) (g__law_lowest Z) (F__law_lowest Z).kp (b__law_lowest Z) (L2N.takes_of rfl rfl rfl rfl) (ga_d (ie_var (pv 1)) (ga_d (ie_add (ie_var (pv 2)) (ie_callTy call_int1 cn_int (ia_cons (ie_cmp (op_eqU hr.units) o2_eq (ie_var (pv 2)) ie_int (nobehind _ (by decide) (by decide))) ia_nil) rfl (fr_int Z) bt_int)) ga_nil)) rfl))))))
abbrev s__law_poly : Stmt := top 46
theorem sc__law_poly : FnScope ["_law_feed_here", "_law_great", "_law_parts", "_law_wide", "_law_k"] ["_law_feed_here", "_law_great"] (defScope s__law_poly) := ⟨rfl, rfl, rfl, by decide +kernel, rfl, by decide +kernel, by decide +kernel⟩
def m__law_poly : Fd := mDef 5 (some 0)
  (sSeq (sSetO 2 (mComp (mRange1 (mCons (asD (mCall 2 m__law_take (some 0) (gConsS 0 (gConsD (mPure (.int 9)) gNilA)))) mNil)) (pName 4) (mPure true) (mBin fMul (asD (mCall 1 m__law_integer (some 0) (gConsS 0 gNilA))) (mCB gInt (mCons (mBin fGt (asD (mCall 2 m__law_take (some 0) (gConsS 0 (gConsD (mPure (.int 4)) gNilA)))) (mPure (.int 0))) mNil))) [4]))
    (sSeq (sIf (mTruD (mVar 1)) (sSeq (sSet 3 (mBin fMul (mBin fMul (mBin fMul (mBin fPow (mPure (.int 10)) (mPure (.int 64))) (mBin fPow (mPure (.int 10)) (mPure (.int 64)))) (mBin fPow (mPure (.int 10)) (mPure (.int 64)))) (mBin fPow (mPure (.int 10)) (mPure (.int 64)))))
      (sSetO 2 (mComp (mRange1 (mCons (mOwn 2 hLen) mNil)) (pName 4) (mPure true) (mBin fAdd (mBin fMul (mOwn1 2 hIx (mVar 4)) (mVar 3)) (mVar 4)) [4]))) sSkip)
    (sSeq (sIf (mAnd (mBool (mBin fGt (mOwn 2 hLen) (mPure (.int 0)))) (mBool (mBin fEq (mOwn1 2 hIx (mUn fNeg (mPure (.int 1)))) (mPure (.int 0))))) (sPut 2 (mUn fNeg (mPure (.int 1))) (mBin fAdd (mPure (.int 1)) (asD (mCall 2 m__law_take (some 0) (gConsS 0 (gConsD (mPure (.int 5)) gNilA)))))) sSkip)
    (sRet (mOwn 2 hTuple)))))
theorem ok__law_poly (Z : Cz K mg txE fdf) : FnOk P w K mg base (L2N.CX P w) 3 (He.ga K "_law_poly") (fdf "_law_poly") ["_law_feed_here", "_law_great"] (spOf K (cAd K) 2 (some 0) m__law_poly) :=
  def_okN (F__law_poly Z) sc__law_poly rfl (fun i h => by cases h <;> decide) fun cdv A outer s H E hr => 
  (is_cons (is_setO (i := 2) sc__law_poly.nd rfl (Or.inr rfl) (io_comp rfl sc__law_poly.nd (ii_range1 rfl (fr_range Z) (ia_cons (IC.d (ic_callN (ok__law_take Z) rfl (hr.mono (by decide)) (g__law_take Z) (F__law_take Z).kp (b__law_take Z) (L2N.takes_of rfl rfl rfl rfl) (ga_s (pv 0) (ga_d ie_int ga_nil)) rfl)) ia_nil)) (show BlkOk ["_law_feed_here", "_law_great", "_law_parts", "_law_wide", "_law_k"] (defScope s__law_poly) _ [("_law_k", 4)] from blkOk_by (by decide +kernel)) rfl (fun _ _ _ _ _ => (ig_name (pg_name sc__law_poly.nd rfl (Or.inl rfl)))) (fun _ _ _ _ _ => its_nil) (fun _ _ _ _ _ => (ie_mul (IC.d (ic_callN (ok__law_integer Z) rfl (hr.mono (by decide)) (g__law_integer Z) (F__law_integer Z).kp (b__law_integer Z) tk0N (ga_s (pv 0) ga_nil) rfl)) (ie_callTy call_int1 cn_int (ia_cons (ie_cmp op_gt o2_gt (IC.d (ic_callN (ok__law_take Z) rfl (hr.mono (by decide)) (g__law_take Z) (F__law_take Z).kp (b__law_take Z) tk0N (ga_s (pv 0) (ga_d ie_int ga_nil)) rfl)) ie_int (nobehind _ (by decide) (by decide))) ia_nil) rfl (fr_int Z) bt_int)))))
    (is_cons (is_if (it_truD (ie_var (pv 1))) (is_cons (is_set (i := 3) sc__law_poly.nd rfl (Or.inr rfl) (ie_mul (ie_mul (ie_mul (ie_pow ie_int ie_int) (ie_pow ie_int ie_int)) (ie_pow ie_int ie_int)) (ie_pow ie_int ie_int)))
      (is_one (is_setO (i := 2) sc__law_poly.nd rfl (Or.inr rfl) (io_comp rfl sc__law_poly.nd (ii_range1 rfl (fr_range Z) (ia_cons (ie_callBV cr_len cs_len (pv 2) rfl (fr_len Z) bt_len) ia_nil)) (show BlkOk ["_law_feed_here", "_law_great", "_law_parts", "_law_wide", "_law_k"] (defScope s__law_poly) _ [("_law_k", 4)] from blkOk_by (by decide +kernel)) rfl (fun _ _ _ _ _ => (ig_name (pg_name sc__law_poly.nd rfl (Or.inl rfl)))) (fun _ _ _ _ _ => its_nil) (fun _ _ _ _ _ => (ie_add (ie_mul (ie_ixV (pv 2) (ie_var (pv 4))) (ie_var (pv 3))) (ie_var (pv 4)))))))) is_nil)
    (is_cons (is_if (IW.it (iw_and (it_cmp op_gt o2_gt (ie_callBV cr_len cs_len (pv 2) rfl (fr_len Z) bt_len) ie_int (nobehind _ (by decide) (by decide))) (iw_and1 (it_cmp (op_eqU hr.units) o2_eq (ie_ixV (pv 2) (ie_neg ie_int)) ie_int (nobehind _ (by decide) (by decide)))))) (is_one (is_putL (pv 2) (ie_neg ie_int) (ie_add ie_int (IC.d (ic_callN (ok__law_take Z) rfl (hr.mono (by decide)) (g__law_take Z) (F__law_take Z).kp (b__law_take Z) (L2N.takes_of rfl rfl rfl rfl) (ga_s (pv 0) (ga_d ie_int ga_nil)) rfl))))) is_nil)
    (is_one (is_ret (ie_callTyV call_tuple_of cs_tuple (pv 2) rfl (fr_tuple Z) bt_tuple))))))
abbrev s__law_product : Stmt := top 50
theorem sc__law_product : FnScope ["_law_got", "_law_left", "_law_right", "_law_wide", "_law_parts", "_law_part"] ["_law_got", "_law_left", "_law_right"] (defScope s__law_product) := ⟨rfl, rfl, rfl, by decide +kernel, rfl, by decide +kernel, by decide +kernel⟩
def m__law_product : Fd := mDef 6 none
  (sSeq (sIf (mOr (mNot (mTruD (asD (mCall 1 m__law_is_row none (gConsD (mVar 0) gNilA))))) (mBool (mBin fGt (mCB gLen (mCons (mVar 0) mNil)) (mPure (.int 16))))) (sRet (mPure (.bool false))) sSkip)
    (sSeq (sSet 3 (mPure (.int 4)))
    (sSeq (sFor (mSeq (mTup (mCons (mVar 1) (mCons (mVar 2) mNil)))) (pName 4) (sSet 3 (mBin fMul (mVar 3) (mBin fAdd (mPure (.int 4)) (mBin fMul (mPure (.int 4)) (mCB (fun ds => (lst1 ds).bind hSum) (mCons (mCold (mComp (mSeq (mVar 4)) (pName 5) (mPure true) (mCB gAbs (mCons (mVar 5) mNil)) [5])) mNil)))))))
    (sSeq (sFor (mSeq (mVar 0)) (pName 5) (sIf (mBool (mBin fGe (mBin fMul (mPure (.int 2)) (mCB gAbs (mCons (mVar 5) mNil))) (mVar 3))) (sRet (mPure (.bool false))) sSkip))
    (sRet (mBin fEq (asD (mCall 2 m__law_at none (gConsD (mVar 0) (gConsD (mVar 3) gNilA)))) (mBin fMul (asD (mCall 2 m__law_at none (gConsD (mVar 1) (gConsD (mVar 3) gNilA)))) (asD (mCall 2 m__law_at none (gConsD (mVar 2) (gConsD (mVar 3) gNilA)))))))))))
theorem ok__law_product (Z : Cz K mg txE fdf) : FnOk P w K mg base (L2N.CX P w) 3 (He.ga K "_law_product") (fdf "_law_product") ["_law_got", "_law_left", "_law_right"] (spOf K (cAd K) 3 none m__law_product) :=
  def_okN (F__law_product Z) sc__law_product rfl (fun i h => by cases h) fun cdv A outer s H E hr => 
  (is_cons (is_if (IW.it (iw_or (it_not (it_truD (IC.d (ic_callN (ok__law_is_row Z) rfl (hr.mono (by decide)) (g__law_is_row Z) (F__law_is_row Z).kp (b__law_is_row Z) (L2N.takes_of rfl rfl rfl rfl) (ga_d (ie_var (pv 0)) ga_nil) rfl)))) (iw_or1 (it_cmp op_gt o2_gt (ie_callB cr_len cn_len (ia_cons (ie_var (pv 0)) ia_nil) rfl (fr_len Z) bt_len) ie_int (nobehind _ (by decide) (by decide)))))) (is_one (is_ret ie_bl)) is_nil)
    (is_cons (is_set (i := 3) sc__law_product.nd rfl (Or.inl rfl) ie_int)
    (is_cons (is_for (vs := [4]) (passes_of rfl) rfl (ii_seq (ie_tup (ia_cons (ie_var (pv 1)) (ia_cons (ie_var (pv 2)) ia_nil)))) (ig_name (pg_name sc__law_product.nd rfl (Or.inl rfl))) (is_one (is_set (i := 3) sc__law_product.nd rfl (Or.inl rfl) (ie_mul (ie_var (pv 3)) (ie_add ie_int (ie_mul ie_int (ie_callB (cr_sum rfl) cs_sum.cn (ia_cons (ie_cold (io_comp rfl sc__law_product.nd (ii_seq (ie_var (pv 4))) (show BlkOk ["_law_got", "_law_left", "_law_right", "_law_wide", "_law_parts", "_law_part"] (defScope s__law_product) _ [("_law_part", 5)] from blkOk_by (by decide +kernel)) rfl (fun _ _ _ _ _ => (ig_name (pg_name sc__law_product.nd rfl (Or.inl rfl)))) (fun _ _ _ _ _ => its_nil) (fun _ _ _ _ _ => (ie_callB call_abs cn_abs (ia_cons (ie_var (pv 5)) ia_nil) rfl (fr_abs Z) bt_abs)))) ia_nil) rfl (fr_sum Z) bt_sum)))))))
    (is_cons (is_for (vs := [5]) (passes_of rfl) rfl (ii_seq (ie_var (pv 0))) (ig_name (pg_name sc__law_product.nd rfl (Or.inl rfl))) (is_one (is_if (it_cmp op_ge o2_ge (ie_mul ie_int (ie_callB call_abs cn_abs (ia_cons (ie_var (pv 5)) ia_nil) rfl (fr_abs Z) bt_abs)) (ie_var (pv 3)) (nobehind _ (by decide) (by decide))) (is_one (is_ret ie_bl)) is_nil)))
    (is_one (is_ret (ie_cmp (op_eqU hr.units) o2_eq (IC.d (ic_callN (ok__law_at Z) rfl (hr.mono (by decide)) (g__law_at Z) (F__law_at Z).kp (b__law_at Z) (L2N.takes_of rfl rfl rfl rfl) (ga_d (ie_var (pv 0)) (ga_d (ie_var (pv 3)) ga_nil)) rfl)) (ie_mul (IC.d (ic_callN (ok__law_at Z) rfl (hr.mono (by decide)) (g__law_at Z) (F__law_at Z).kp (b__law_at Z) (L2N.takes_of rfl rfl rfl rfl) (ga_d (ie_var (pv 1)) (ga_d (ie_var (pv 3)) ga_nil)) rfl)) (IC.d (ic_callN (ok__law_at Z) rfl (hr.mono (by decide)) (g__law_at Z) (F__law_at Z).kp (b__law_at Z) (L2N.takes_of rfl rfl rfl rfl) (ga_d (ie_var (pv 2)) (ga_d (ie_var (pv 3)) ga_nil)) rfl))) (nobehind _ (by decide) (by decide)))))))))
abbrev s_is_quotient : Stmt := top 5
theorem sc_is_quotient : FnScope ["thing"] ["thing"] (defScope s_is_quotient) := ⟨rfl, rfl, rfl, by decide +kernel, rfl, by decide +kernel, by decide +kernel⟩
def m_is_quotient : Fd := mDef 1 none
  (sRet (mAndV (asD (mCall 1 m_is_integer_pair none (gConsD (mVar 0) gNilA))) (mAndV (mBin fGe (mBin fIx (mVar 0) (mPure (.int 1))) (mPure (.int 1))) (mBin fEq (mCB gGcd (mCons (mBin fIx (mVar 0) (mPure (.int 0))) (mCons (mBin fIx (mVar 0) (mPure (.int 1))) mNil))) (mPure (.int 1))))))
theorem ok_is_quotient (Z : Cz K mg txE fdf) : FnOk P w K mg base (L2N.CX P w) 4 (He.ga K "is_quotient") (fdf "is_quotient") ["thing"] (spOf K (cAd K) 1 none m_is_quotient) :=
  def_okN (F_is_quotient Z) sc_is_quotient rfl (fun i h => by cases h) fun cdv A outer s H E hr => 
  (is_one (is_ret (ie_and (IC.d (ic_callN (ok_is_integer_pair Z) rfl (hr.mono (by decide)) (g_is_integer_pair Z) (F_is_integer_pair Z).kp (b_is_integer_pair Z) (L2N.takes_of rfl rfl rfl rfl) (ga_d (ie_var (pv 0)) ga_nil) rfl)) (ie_and (ie_cmp op_ge o2_ge (ie_ix (ie_var (pv 0)) ie_int) ie_int (nobehind _ (by decide) (by decide))) (ie_one (ie_cmp (op_eqU hr.units) o2_eq (ie_callLib cr_gcd cn_gcd (ia_cons (ie_ix (ie_var (pv 0)) ie_int) (ia_cons (ie_ix (ie_var (pv 0)) ie_int) ia_nil)) rfl (lb_gcd Z)) ie_int (nobehind _ (by decide) (by decide))))))))
abbrev s_quotient_of : Stmt := top 19
theorem sc_quotient_of : FnScope ["top", "bottom"] ["top", "bottom"] (defScope s_quotient_of) := ⟨rfl, rfl, rfl, by decide +kernel, rfl, by decide +kernel, by decide +kernel⟩
def m_quotient_of : Fd := mDef 2 none
  (sSeq (sExpr (asD (mCall 2 m_need none (gConsD (asD (mCall 1 m_is_integer none (gConsD (mVar 0) gNilA))) (gConsD (mPure (.str "top")) gNilA)))))
    (sSeq (sExpr (asD (mCall 2 m_need none (gConsD (mAndV (asD (mCall 1 m_is_integer none (gConsD (mVar 1) gNilA))) (mBin fNe (mVar 1) (mPure (.int 0)))) (gConsD (mPure (.str "bottom")) gNilA)))))
    (sRet (asD (mCall 2 m_lowest none (gConsD (mVar 0) (gConsD (mVar 1) gNilA)))))))
theorem ok_quotient_of (Z : Cz K mg txE fdf) : FnOk P w K mg base (L2N.CX P w) 4 (He.ga K "quotient_of") (fdf "quotient_of") ["top", "bottom"] (spOf K (cAd K) 2 none m_quotient_of) :=
  def_okN (F_quotient_of Z) sc_quotient_of rfl (fun i h => by cases h) fun cdv A outer s H E hr => 
  (is_cons (is_expr (IC.d (ic_callN (ok_need Z) rfl (hr.mono (by decide)) (g_need Z) (F_need Z).kp (b_need Z) (L2N.takes_of rfl rfl rfl rfl) (ga_d (IC.d (ic_callN (ok_is_integer Z) rfl (hr.mono (by decide)) (g_is_integer Z) (F_is_integer Z).kp (b_is_integer Z) (L2N.takes_of rfl rfl rfl rfl) (ga_d (ie_var (pv 0)) ga_nil) rfl)) (ga_d ie_str ga_nil)) rfl)))
    (is_cons (is_expr (IC.d (ic_callN (ok_need Z) rfl (hr.mono (by decide)) (g_need Z) (F_need Z).kp (b_need Z) (L2N.takes_of rfl rfl rfl rfl) (ga_d (ie_and (IC.d (ic_callN (ok_is_integer Z) rfl (hr.mono (by decide)) (g_is_integer Z) (F_is_integer Z).kp (b_is_integer Z) (L2N.takes_of rfl rfl rfl rfl) (ga_d (ie_var (pv 1)) ga_nil) rfl)) (ie_one (ie_cmp (op_neU hr.units) o2_ne (ie_var (pv 1)) ie_int (nobehind _ (by decide) (by decide))))) (ga_d ie_str ga_nil)) rfl)))
    (is_one (is_ret (IC.d (ic_callN (ok_lowest Z) rfl (hr.mono (by decide)) (g_lowest Z) (F_lowest Z).kp (b_lowest Z) (L2N.takes_of rfl rfl rfl rfl) (ga_d (ie_var (pv 0)) (ga_d (ie_var (pv 1)) ga_nil)) rfl))))))
abbrev s_row_of : Stmt := top 29
theorem sc_row_of : FnScope ["numbers"] ["numbers"] (defScope s_row_of) := ⟨rfl, rfl, rfl, by decide +kernel, rfl, by decide +kernel, by decide +kernel⟩
def m_row_of : Fd := mDef 1 none
  (sSeq (sExpr (asD (mCall 2 m_need none (gConsD (asD (mCall 1 m_is_integer_tuple none (gConsD (mVar 0) gNilA))) (gConsD (mPure (.str "numbers")) gNilA)))))
    (sRet (asD (mCall 1 m_trimmed none (gConsD (mVar 0) gNilA)))))
theorem ok_row_of (Z : Cz K mg txE fdf) : FnOk P w K mg base (L2N.CX P w) 4 (He.ga K "row_of") (fdf "row_of") ["numbers"] (spOf K (cAd K) 1 none m_row_of) :=
  def_okN (F_row_of Z) sc_row_of rfl (fun i h => by cases h) fun cdv A outer s H E hr => 
  (is_cons (is_expr (IC.d (ic_callN (ok_need Z) rfl (hr.mono (by decide)) (g_need Z) (F_need Z).kp (b_need Z) (L2N.takes_of rfl rfl rfl rfl) (ga_d (IC.d (ic_callN (ok_is_integer_tuple Z) rfl (hr.mono (by decide)) (g_is_integer_tuple Z) (F_is_integer_tuple Z).kp (b_is_integer_tuple Z) (L2N.takes_of rfl rfl rfl rfl) (ga_d (ie_var (pv 0)) ga_nil) rfl)) (ga_d ie_str ga_nil)) rfl)))
    (is_one (is_ret (IC.d (ic_callN (ok_trimmed Z) rfl (hr.mono (by decide)) (g_trimmed Z) (F_trimmed Z).kp (b_trimmed Z) (L2N.takes_of rfl rfl rfl rfl) (ga_d (ie_var (pv 0)) ga_nil) rfl)))))
abbrev s_row_plus : Stmt := top 30
theorem sc_row_plus : FnScope ["row", "other"] ["row", "other"] (defScope s_row_plus) := ⟨rfl, rfl, rfl, by decide +kernel, rfl, by decide +kernel, by decide +kernel⟩
def m_row_plus : Fd := mDef 2 none
  (sSeq (sExpr (asD (mCall 2 m_need none (gConsD (asD (mCall 1 m_is_row none (gConsD (mVar 1) gNilA))) (gConsD (mPure (.str "other")) gNilA)))))
    (sRet (asD (mCall 2 m_added none (gConsD (mVar 0) (gConsD (mVar 1) gNilA))))))
theorem ok_row_plus (Z : Cz K mg txE fdf) : FnOk P w K mg base (L2N.CX P w) 4 (He.ga K "row_plus") (fdf "row_plus") ["row", "other"] (spOf K (cAd K) 2 none m_row_plus) :=
  def_okN (F_row_plus Z) sc_row_plus rfl (fun i h => by cases h) fun cdv A outer s H E hr => 
  (is_cons (is_expr (IC.d (ic_callN (ok_need Z) rfl (hr.mono (by decide)) (g_need Z) (F_need Z).kp (b_need Z) (L2N.takes_of rfl rfl rfl rfl) (ga_d (IC.d (ic_callN (ok_is_row Z) rfl (hr.mono (by decide)) (g_is_row Z) (F_is_row Z).kp (b_is_row Z) (L2N.takes_of rfl rfl rfl rfl) (ga_d (ie_var (pv 1)) ga_nil) rfl)) (ga_d ie_str ga_nil)) rfl)))
    (is_one (is_ret (IC.d (ic_callN (ok_added Z) rfl (hr.mono (by decide)) (g_added Z) (F_added Z).kp (b_added Z) (L2N.takes_of rfl rfl rfl rfl) (ga_d (ie_var (pv 0)) (ga_d (ie_var (pv 1)) ga_nil)) rfl)))))
abbrev s_row_times : Stmt := top 31
theorem sc_row_times : FnScope ["row", "other"] ["row", "other"] (defScope s_row_times) := ⟨rfl, rfl, rfl, by decide +kernel, rfl, by decide +kernel, by decide +kernel⟩
def m_row_times : Fd := mDef 2 none
  (sSeq (sExpr (asD (mCall 2 m_need none (gConsD (asD (mCall 1 m_is_row none (gConsD (mVar 1) gNilA))) (gConsD (mPure (.str "other")) gNilA)))))
    (sRet (asD (mCall 2 m_multiplied none (gConsD (mVar 0) (gConsD (mVar 1) gNilA))))))
theorem ok_row_times (Z : Cz K mg txE fdf) : FnOk P w K mg base (L2N.CX P w) 4 (He.ga K "row_times") (fdf "row_times") ["row", "other"] (spOf K (cAd K) 2 none m_row_times) :=
  def_okN (F_row_times Z) sc_row_times rfl (fun i h => by cases h) fun cdv A outer s H E hr => 
  (is_cons (is_expr (IC.d (ic_callN (ok_need Z) rfl (hr.mono (by decide)) (g_need Z) (F_need Z).kp (b_need Z) (L2N.takes_of rfl rfl rfl rfl) (ga_d (IC.d (ic_callN (ok_is_row Z) rfl (hr.mono (by decide)) (g_is_row Z) (F_is_row Z).kp (b_is_row Z) (L2N.takes_of rfl rfl rfl rfl) (ga_d (ie_var (pv 1)) ga_nil) rfl)) (ga_d ie_str ga_nil)) rfl)))
    (is_one (is_ret (IC.d (ic_callN (ok_multiplied Z) rfl (hr.mono (by decide)) (g_multiplied Z) (F_multiplied Z).kp (b_multiplied Z) (L2N.takes_of rfl rfl rfl rfl) (ga_d (ie_var (pv 0)) (ga_d (ie_var (pv 1)) ga_nil)) rfl)))))
abbrev s_row_moved : Stmt := top 33
theorem sc_row_moved : FnScope ["row", "by", "moved", "number"] ["row", "by"] (defScope s_row_moved) := ⟨rfl, rfl, rfl, by decide +kernel, rfl, by decide +kernel, by decide +kernel⟩
def m_row_moved : Fd := mDef 4 none
  (sSeq (sExpr (asD (mCall 2 m_need none (gConsD (asD (mCall 1 m_is_integer none (gConsD (mVar 1) gNilA))) (gConsD (mPure (.str "by")) gNilA)))))
    (sSeq (sSet 2 (mTup mNil))
    (sSeq (sFor (mRev (mVar 0)) (pName 3) (sSet 2 (asD (mCall 2 m_added none (gConsD (asD (mCall 2 m_multiplied none (gConsD (mVar 2) (gConsD (mTup (mCons (mVar 1) (mCons (mPure (.int 1)) mNil))) gNilA)))) (gConsD (mTup (mCons (mVar 3) mNil)) gNilA))))))
    (sRet (mVar 2)))))
theorem ok_row_moved (Z : Cz K mg txE fdf) : FnOk P w K mg base (L2N.CX P w) 4 (He.ga K "row_moved") (fdf "row_moved") ["row", "by"] (spOf K (cAd K) 2 none m_row_moved) :=
  def_okN (F_row_moved Z) sc_row_moved rfl (fun i h => by cases h) fun cdv A outer s H E hr => 
  (is_cons (is_expr (IC.d (ic_callN (ok_need Z) rfl (hr.mono (by decide)) (g_need Z) (F_need Z).kp (b_need Z) (L2N.takes_of rfl rfl rfl rfl) (ga_d (IC.d (ic_callN (ok_is_integer Z) rfl (hr.mono (by decide)) (g_is_integer Z) (F_is_integer Z).kp (b_is_integer Z) (L2N.takes_of rfl rfl rfl rfl) (ga_d (ie_var (pv 1)) ga_nil) rfl)) (ga_d ie_str ga_nil)) rfl)))
    (is_cons (is_set (i := 2) sc_row_moved.nd rfl (Or.inl rfl) (ie_tup ia_nil))
    (is_cons (is_for (vs := [3]) (passes_of rfl) rfl (ii_rev (ie_var (pv 0)) rfl (fr_reversed Z)) (ig_name (pg_name sc_row_moved.nd rfl (Or.inl rfl))) (is_one (is_set (i := 2) sc_row_moved.nd rfl (Or.inl rfl) (IC.d (ic_callN (ok_added Z) rfl (hr.mono (by decide)) (g_added Z) (F_added Z).kp (b_added Z) (L2N.takes_of rfl rfl rfl rfl) (ga_d (IC.d (ic_callN (ok_multiplied Z) rfl (hr.mono (by decide)) (g_multiplied Z) (F_multiplied Z).kp (b_multiplied Z) (L2N.takes_of rfl rfl rfl rfl) (ga_d (ie_var (pv 2)) (ga_d (ie_tup (ia_cons (ie_var (pv 1)) (ia_cons ie_int ia_nil))) ga_nil)) rfl)) (ga_d (ie_tup (ia_cons (ie_var (pv 3)) ia_nil)) ga_nil)) rfl)))))
    (is_one (is_ret (ie_var (pv 2)))))))
abbrev s_need_two : Stmt := top 18
theorem sc_need_two : FnScope ["one", "other"] ["one", "other"] (defScope s_need_two) := ⟨rfl, rfl, rfl, by decide +kernel, rfl, by decide +kernel, by decide +kernel⟩
def m_need_two : Fd := mDef 2 none
  (sSeq (sExpr (asD (mCall 2 m_need none (gConsD (asD (mCall 1 m_is_quotient none (gConsD (mVar 0) gNilA))) (gConsD (mPure (.str "one")) gNilA)))))
    (sExpr (asD (mCall 2 m_need none (gConsD (asD (mCall 1 m_is_quotient none (gConsD (mVar 1) gNilA))) (gConsD (mPure (.str "other")) gNilA))))))
theorem ok_need_two (Z : Cz K mg txE fdf) : FnOk P w K mg base (L2N.CX P w) 5 (He.ga K "need_two") (fdf "need_two") ["one", "other"] (spOf K (cAd K) 2 none m_need_two) :=
  def_okN (F_need_two Z) sc_need_two rfl (fun i h => by cases h) fun cdv A outer s H E hr => 
  (is_cons (is_expr (IC.d (ic_callN (ok_need Z) rfl (hr.mono (by decide)) (g_need Z) (F_need Z).kp (b_need Z) (L2N.takes_of rfl rfl rfl rfl) (ga_d (IC.d (ic_callN (ok_is_quotient Z) rfl (hr.mono (by decide)) (g_is_quotient Z) (F_is_quotient Z).kp (b_is_quotient Z) (L2N.takes_of rfl rfl rfl rfl) (ga_d (ie_var (pv 0)) ga_nil) rfl)) (ga_d ie_str ga_nil)) rfl)))
    (is_one (is_expr (IC.d (ic_callN (ok_need Z) rfl (hr.mono (by decide)) (g_need Z) (F_need Z).kp (b_need Z) (L2N.takes_of rfl rfl rfl rfl) (ga_d (IC.d (ic_callN (ok_is_quotient Z) rfl (hr.mono (by decide)) (g_is_quotient Z) (F_is_quotient Z).kp (b_is_quotient Z) (L2N.takes_of rfl rfl rfl rfl) (ga_d (ie_var (pv 1)) ga_nil) rfl)) (ga_d ie_str ga_nil)) rfl)))))
abbrev s_plus : Stmt := top 20
theorem sc_plus : FnScope ["one", "other"] ["one", "other"] (defScope s_plus) := ⟨rfl, rfl, rfl, by decide +kernel, rfl, by decide +kernel, by decide +kernel⟩
def m_plus : Fd := mDef 2 none
  (sSeq (sExpr (asD (mCall 2 m_need_two none (gConsD (mVar 0) (gConsD (mVar 1) gNilA)))))
    (sRet (asD (mCall 2 m_lowest none (gConsD (mBin fAdd (mBin fMul (mBin fIx (mVar 0) (mPure (.int 0))) (mBin fIx (mVar 1) (mPure (.int 1)))) (mBin fMul (mBin fIx (mVar 1) (mPure (.int 0))) (mBin fIx (mVar 0) (mPure (.int 1))))) (gConsD (mBin fMul (mBin fIx (mVar 0) (mPure (.int 1))) (mBin fIx (mVar 1) (mPure (.int 1)))) gNilA))))))
theorem ok_plus (Z : Cz K mg txE fdf) : FnOk P w K mg base (L2N.CX P w) 6 (He.ga K "plus") (fdf "plus") ["one", "other"] (spOf K (cAd K) 2 none m_plus) :=
  def_okN (F_plus Z) sc_plus rfl (fun i h => by cases h) fun cdv A outer s H E hr => 
  (is_cons (is_expr (IC.d (ic_callN (ok_need_two Z) rfl (hr.mono (by decide)) (g_need_two Z) (F_need_two Z).kp (b_need_two Z) (L2N.takes_of rfl rfl rfl rfl) (ga_d (ie_var (pv 0)) (ga_d (ie_var (pv 1)) ga_nil)) rfl)))
    (is_one (is_ret (IC.d (ic_callN (ok_lowest Z) rfl (hr.mono (by decide)) (g_lowest Z) (F_lowest Z).kp (b_lowest Z) (L2N.takes_of rfl rfl rfl rfl) (ga_d (ie_add (ie_mul (ie_ix (ie_var (pv 0)) ie_int) (ie_ix (ie_var (pv 1)) ie_int)) (ie_mul (ie_ix (ie_var (pv 1)) ie_int) (ie_ix (ie_var (pv 0)) ie_int))) (ga_d (ie_mul (ie_ix (ie_var (pv 0)) ie_int) (ie_ix (ie_var (pv 1)) ie_int)) ga_nil)) rfl)))))
abbrev s_minus : Stmt := top 21
theorem sc_minus : FnScope ["one", "other"] ["one", "other"] (defScope s_minus) := ⟨rfl, rfl, rfl, by decide +kernel, rfl, by decide +kernel, by decide +kernel⟩
def m_minus : Fd := mDef 2 none
  (sSeq (sExpr (asD (mCall 2 m_need_two none (gConsD (mVar 0) (gConsD (mVar 1) gNilA)))))
    (sRet (asD (mCall 2 m_lowest none (gConsD (mBin fSub (mBin fMul (mBin fIx (mVar 0) (mPure (.int 0))) (mBin fIx (mVar 1) (mPure (.int 1)))) (mBin fMul (mBin fIx (mVar 1) (mPure (.int 0))) (mBin fIx (mVar 0) (mPure (.int 1))))) (gConsD (mBin fMul (mBin fIx (mVar 0) (mPure (.int 1))) (mBin fIx (mVar 1) (mPure (.int 1)))) gNilA))))))
theorem ok_minus (Z : Cz K mg txE fdf) : FnOk P w K mg base (L2N.CX P w) 6 (He.ga K "minus") (fdf "minus") ["one", "other"] (spOf K (cAd K) 2 none m_minus) :=
  def_okN (F_minus Z) sc_minus rfl (fun i h => by cases h) fun cdv A outer s H E hr => 
  (is_cons (is_expr (IC.d (ic_callN (ok_need_two Z) rfl (hr.mono (by decide)) (g_need_two Z) (F_need_two Z).kp (b_need_two Z) (L2N.takes_of rfl rfl rfl rfl) (ga_d (ie_var (pv 0)) (ga_d (ie_var (pv 1)) ga_nil)) rfl)))
    (is_one (is_ret (IC.d (ic_callN (ok_lowest Z) rfl (hr.mono (by decide)) (g_lowest Z) (F_lowest Z).kp (b_lowest Z) (L2N.takes_of rfl rfl rfl rfl) (ga_d (ie_sub (ie_mul (ie_ix (ie_var (pv 0)) ie_int) (ie_ix (ie_var (pv 1)) ie_int)) (ie_mul (ie_ix (ie_var (pv 1)) ie_int) (ie_ix (ie_var (pv 0)) ie_int))) (ga_d (ie_mul (ie_ix (ie_var (pv 0)) ie_int) (ie_ix (ie_var (pv 1)) ie_int)) ga_nil)) rfl)))))
abbrev s_times : Stmt := top 22
theorem sc_times : FnScope ["one", "other"] ["one", "other"] (defScope s_times) := ⟨rfl, rfl, rfl, by decide +kernel, rfl, by decide +kernel, by decide +kernel⟩
def m_times : Fd := mDef 2 none
  (sSeq (sExpr (asD (mCall 2 m_need_two none (gConsD (mVar 0) (gConsD (mVar 1) gNilA)))))
    (sRet (asD (mCall 2 m_lowest none (gConsD (mBin fMul (mBin fIx (mVar 0) (mPure (.int 0))) (mBin fIx (mVar 1) (mPure (.int 0)))) (gConsD (mBin fMul (mBin fIx (mVar 0) (mPure (.int 1))) (mBin fIx (mVar 1) (mPure (.int 1)))) gNilA))))))
theorem ok_times (Z : Cz K mg txE fdf) : FnOk P w K mg base (L2N.CX P w) 6 (He.ga K "times") (fdf "times") ["one", "other"] (spOf K (cAd K) 2 none m_times) :=
  def_okN (F_times Z) sc_times rfl (fun i h => by cases h) fun cdv A outer s H E hr => 
  (is_cons (is_expr (IC.d (ic_callN (ok_need_two Z) rfl (hr.mono (by decide)) (g_need_two Z) (F_need_two Z).kp (b_need_two Z) (L2N.takes_of rfl rfl rfl rfl) (ga_d (ie_var (pv 0)) (ga_d (ie_var (pv 1)) ga_nil)) rfl)))
    (is_one (is_ret (IC.d (ic_callN (ok_lowest Z) rfl (hr.mono (by decide)) (g_lowest Z) (F_lowest Z).kp (b_lowest Z) (L2N.takes_of rfl rfl rfl rfl) (ga_d (ie_mul (ie_ix (ie_var (pv 0)) ie_int) (ie_ix (ie_var (pv 1)) ie_int)) (ga_d (ie_mul (ie_ix (ie_var (pv 0)) ie_int) (ie_ix (ie_var (pv 1)) ie_int)) ga_nil)) rfl)))))
abbrev s_over : Stmt := top 23
theorem sc_over : FnScope ["one", "other"] ["one", "other"] (defScope s_over) := ⟨rfl, rfl, rfl, by decide +kernel, rfl, by decide +kernel, by decide +kernel⟩
def m_over : Fd := mDef 2 none
  (sSeq (sExpr (asD (mCall 2 m_need_two none (gConsD (mVar 0) (gConsD (mVar 1) gNilA)))))
    (sSeq (sExpr (asD (mCall 2 m_need none (gConsD (mBin fNe (mBin fIx (mVar 1) (mPure (.int 0))) (mPure (.int 0))) (gConsD (mPure (.str "other")) gNilA)))))
    (sRet (asD (mCall 2 m_lowest none (gConsD (mBin fMul (mBin fIx (mVar 0) (mPure (.int 0))) (mBin fIx (mVar 1) (mPure (.int 1)))) (gConsD (mBin fMul (mBin fIx (mVar 0) (mPure (.int 1))) (mBin fIx (mVar 1) (mPure (.int 0)))) gNilA)))))))
theorem ok_over (Z : Cz K mg txE fdf) : FnOk P w K mg base (L2N.CX P w) 6 (He.ga K "over") (fdf "over") ["one", "other"] (spOf K (cAd K) 2 none m_over) :=
  def_okN (F_over Z) sc_over rfl (fun i h => by cases h) fun cdv A outer s H E hr => 
  (is_cons (is_expr (IC.d (ic_callN (ok_need_two Z) rfl (hr.mono (by decide)) (g_need_two Z) (F_need_two Z).kp (b_need_two Z) (L2N.takes_of rfl rfl rfl rfl) (ga_d (ie_var (pv 0)) (ga_d (ie_var (pv 1)) ga_nil)) rfl)))
    (is_cons (is_expr (IC.d (ic_callN (ok_need Z) rfl (hr.mono (by decide)) (g_need Z) (F_need Z).kp (b_need Z) (L2N.takes_of rfl rfl rfl rfl) (ga_d (ie_cmp (op_neU hr.units) o2_ne (ie_ix (ie_var (pv 1)) ie_int) ie_int (nobehind _ (by decide) (by decide))) (ga_d ie_str ga_nil)) rfl)))
    (is_one (is_ret (IC.d (ic_callN (ok_lowest Z) rfl (hr.mono (by decide)) (g_lowest Z) (F_lowest Z).kp (b_lowest Z) (L2N.takes_of rfl rfl rfl rfl) (ga_d (ie_mul (ie_ix (ie_var (pv 0)) ie_int) (ie_ix (ie_var (pv 1)) ie_int)) (ga_d (ie_mul (ie_ix (ie_var (pv 0)) ie_int) (ie_ix (ie_var (pv 1)) ie_int)) ga_nil)) rfl))))))
abbrev s_is_less : Stmt := top 24
theorem sc_is_less : FnScope ["one", "other"] ["one", "other"] (defScope s_is_less) := ⟨rfl, rfl, rfl, by decide +kernel, rfl, by decide +kernel, by decide +kernel⟩
def m_is_less : Fd := mDef 2 none
  (sSeq (sExpr (asD (mCall 2 m_need_two none (gConsD (mVar 0) (gConsD (mVar 1) gNilA)))))
    (sRet (mBin fLt (mBin fMul (mBin fIx (mVar 0) (mPure (.int 0))) (mBin fIx (mVar 1) (mPure (.int 1)))) (mBin fMul (mBin fIx (mVar 1) (mPure (.int 0))) (mBin fIx (mVar 0) (mPure (.int 1)))))))
theorem ok_is_less (Z : Cz K mg txE fdf) : FnOk P w K mg base (L2N.CX P w) 6 (He.ga K "is_less") (fdf "is_less") ["one", "other"] (spOf K (cAd K) 2 none m_is_less) :=
  def_okN (F_is_less Z) sc_is_less rfl (fun i h => by cases h) fun cdv A outer s H E hr => 
  (is_cons (is_expr (IC.d (ic_callN (ok_need_two Z) rfl (hr.mono (by decide)) (g_need_two Z) (F_need_two Z).kp (b_need_two Z) (L2N.takes_of rfl rfl rfl rfl) (ga_d (ie_var (pv 0)) (ga_d (ie_var (pv 1)) ga_nil)) rfl)))
    (is_one (is_ret (ie_cmp op_lt o2_lt (ie_mul (ie_ix (ie_var (pv 0)) ie_int) (ie_ix (ie_var (pv 1)) ie_int)) (ie_mul (ie_ix (ie_var (pv 1)) ie_int) (ie_ix (ie_var (pv 0)) ie_int)) (nobehind _ (by decide) (by decide))))))
abbrev s_row_at : Stmt := top 32
theorem sc_row_at : FnScope ["row", "value", "total", "number"] ["row", "value"] (defScope s_row_at) := ⟨rfl, rfl, rfl, by decide +kernel, rfl, by decide +kernel, by decide +kernel⟩
def m_row_at : Fd := mDef 4 none
  (sSeq (sExpr (asD (mCall 2 m_need none (gConsD (asD (mCall 1 m_is_quotient none (gConsD (mVar 1) gNilA))) (gConsD (mPure (.str "value")) gNilA)))))
    (sSeq (sSet 2 (mTup (mCons (mPure (.int 0)) (mCons (mPure (.int 1)) mNil))))
    (sSeq (sFor (mRev (mVar 0)) (pName 3) (sSet 2 (asD (mCall 2 m_plus none (gConsD (asD (mCall 2 m_times none (gConsD (mVar 2) (gConsD (mVar 1) gNilA)))) (gConsD (mTup (mCons (mVar 3) (mCons (mPure (.int 1)) mNil))) gNilA))))))
    (sRet (mVar 2)))))
theorem ok_row_at (Z : Cz K mg txE fdf) : FnOk P w K mg base (L2N.CX P w) 7 (He.ga K "row_at") (fdf "row_at") ["row", "value"] (spOf K (cAd K) 2 none m_row_at) :=
  def_okN (F_row_at Z) sc_row_at rfl (fun i h => by cases h) fun cdv A outer s H E hr => 
  (is_cons (is_expr (IC.d (ic_callN (ok_need Z) rfl (hr.mono (by decide)) (g_need Z) (F_need Z).kp (b_need Z) (L2N.takes_of rfl rfl rfl rfl) (ga_d (IC.d (ic_callN (ok_is_quotient Z) rfl (hr.mono (by decide)) (g_is_quotient Z) (F_is_quotient Z).kp (b_is_quotient Z) (L2N.takes_of rfl rfl rfl rfl) (ga_d (ie_var (pv 1)) ga_nil) rfl)) (ga_d ie_str ga_nil)) rfl)))
    (is_cons (is_set (i := 2) sc_row_at.nd rfl (Or.inl rfl) (ie_tup (ia_cons ie_int (ia_cons ie_int ia_nil))))
    (is_cons (is_for (vs := [3]) (passes_of rfl) rfl (ii_rev (ie_var (pv 0)) rfl (fr_reversed Z)) (ig_name (pg_name sc_row_at.nd rfl (Or.inl rfl))) (is_one (is_set (i := 2) sc_row_at.nd rfl (Or.inl rfl) (IC.d (ic_callN (ok_plus Z) rfl (hr.mono (by decide)) (g_plus Z) (F_plus Z).kp (b_plus Z) (L2N.takes_of rfl rfl rfl rfl) (ga_d (IC.d (ic_callN (ok_times Z) rfl (hr.mono (by decide)) (g_times Z) (F_times Z).kp (b_times Z) (L2N.takes_of rfl rfl rfl rfl) (ga_d (ie_var (pv 2)) (ga_d (ie_var (pv 1)) ga_nil)) rfl)) (ga_d (ie_tup (ia_cons (ie_var (pv 3)) (ia_cons ie_int ia_nil))) ga_nil)) rfl)))))
    (is_one (is_ret (ie_var (pv 2)))))))
abbrev s__law_same : Stmt := top 38
theorem sc__law_same : FnScope ["_law_got", "_law_due", "_law_k"] ["_law_got", "_law_due"] (defScope s__law_same) := ⟨rfl, rfl, rfl, by decide +kernel, rfl, by decide +kernel, by decide +kernel⟩
def bd__law_same (mr : Fd) : Fd := mDef 3 none
  (sSeq (sIf (mTruD (mUn (fun d => some (.bool (isTup d))) (mVar 1))) (sSeq (sIf (mOr (mNot (mTruD (mUn (fun d => some (.bool (isTup d))) (mVar 0)))) (mBool (mBin fNe (mCB gLen (mCons (mVar 0) mNil)) (mCB gLen (mCons (mVar 1) mNil))))) (sRet (mPure (.bool false))) sSkip)
      (sSeq (sFor (mRange1 (mCons (mCB gLen (mCons (mVar 1) mNil)) mNil)) (pName 2) (sIf (mNot (mTruD (asD (mCall 2 mr none (gConsD (mBin fIx (mVar 0) (mVar 2)) (gConsD (mBin fIx (mVar 1) (mVar 2)) gNilA)))))) (sRet (mPure (.bool false))) sSkip))
      (sRet (mPure (.bool true))))) sSkip)
    (sSeq (sIf (mTruD (mUn (fun d => some (.bool (isBool d))) (mVar 1))) (sRet (mAndV (mUn (fun d => some (.bool (isBool d))) (mVar 0)) (mBin fEq (mVar 0) (mVar 1)))) sSkip)
    (sSeq (sIf (mTruD (mUn (fun d => some (.bool (isStr d))) (mVar 1))) (sRet (mAndV (mUn (fun d => some (.bool (isStr d))) (mVar 0)) (mBin fEq (mVar 0) (mVar 1)))) sSkip)
    (sRet (mAndV (mUn (fun d => some (.bool (isInt d))) (mVar 0)) (mAndV (mUn bNot (mUn (fun d => some (.bool (isBool d))) (mVar 0))) (mBin fEq (mVar 0) (mVar 1))))))))
def m__law_same : Nat → Fd
  | 0 => fun _ => .stuck
  | z + 1 => bd__law_same (m__law_same z)
theorem okb__law_same (Z : Cz K mg txE fdf) (z : Nat) (mr : Fd) (ih : FnOk P w K mg base (L2N.CX P w) (0 + z) (He.ga K "_law_same") (fdf "_law_same") ["_law_got", "_law_due"] (spOf K (cAd K) 2 none mr)) : FnOk P w K mg base (L2N.CX P w) (0 + z + 1) (He.ga K "_law_same") (fdf "_law_same") ["_law_got", "_law_due"] (spOf K (cAd K) 2 none (bd__law_same mr)) :=
  def_okN (F__law_same Z) sc__law_same rfl (fun i h => by cases h) fun cdv A outer s H E hr => 
  (is_cons (is_if (it_truD (ie_isi kit_tup (ie_var (pv 1)) (pe_tyN rfl (fr_tuple Z) bt_tuple) rfl (fr_isinstance Z) bt_isinstance)) (is_cons (is_if (IW.it (iw_or (it_not (it_truD (ie_isi kit_tup (ie_var (pv 0)) (pe_tyN rfl (fr_tuple Z) bt_tuple) rfl (fr_isinstance Z) bt_isinstance))) (iw_or1 (it_cmp (op_neU hr.units) o2_ne (ie_callB cr_len cn_len (ia_cons (ie_var (pv 0)) ia_nil) rfl (fr_len Z) bt_len) (ie_callB cr_len cn_len (ia_cons (ie_var (pv 1)) ia_nil) rfl (fr_len Z) bt_len) (nobehind _ (by decide) (by decide)))))) (is_one (is_ret ie_bl)) is_nil)
      (is_cons (is_for (vs := [2]) (passes_of rfl) rfl (ii_range1 rfl (fr_range Z) (ia_cons (ie_callB cr_len cn_len (ia_cons (ie_var (pv 1)) ia_nil) rfl (fr_len Z) bt_len) ia_nil)) (ig_name (pg_name sc__law_same.nd rfl (Or.inl rfl))) (is_one (is_if (it_not (it_truD (IC.d (ic_callN ih rfl (hr.mono (Nat.le_refl _)) (g__law_same Z) (F__law_same Z).kp (b__law_same Z) (L2N.takes_of rfl rfl rfl rfl) (ga_d (ie_ix (ie_var (pv 0)) (ie_var (pv 2))) (ga_d (ie_ix (ie_var (pv 1)) (ie_var (pv 2))) ga_nil)) rfl)))) (is_one (is_ret ie_bl)) is_nil)))
      (is_one (is_ret ie_bl)))) is_nil)
    (is_cons (is_if (it_truD (ie_isi kit_bool (ie_var (pv 1)) (pe_tyN rfl (fr_bool Z) bt_bool) rfl (fr_isinstance Z) bt_isinstance)) (is_one (is_ret (ie_and (ie_isi kit_bool (ie_var (pv 0)) (pe_tyN rfl (fr_bool Z) bt_bool) rfl (fr_isinstance Z) bt_isinstance) (ie_one (ie_cmp (op_eqU hr.units) o2_eq (ie_var (pv 0)) (ie_var (pv 1)) (nobehind _ (by decide) (by decide))))))) is_nil)
    (is_cons (is_if (it_truD (ie_isi kit_str (ie_var (pv 1)) (pe_tyN rfl (fr_str Z) bt_str) rfl (fr_isinstance Z) bt_isinstance)) (is_one (is_ret (ie_and (ie_isi kit_str (ie_var (pv 0)) (pe_tyN rfl (fr_str Z) bt_str) rfl (fr_isinstance Z) bt_isinstance) (ie_one (ie_cmp (op_eqU hr.units) o2_eq (ie_var (pv 0)) (ie_var (pv 1)) (nobehind _ (by decide) (by decide))))))) is_nil)
    (is_one (is_ret (ie_and (ie_isi kit_int (ie_var (pv 0)) (pe_tyN rfl (fr_int Z) bt_int) rfl (fr_isinstance Z) bt_isinstance) (ie_and (ie_not (ie_isi kit_bool (ie_var (pv 0)) (pe_tyN rfl (fr_bool Z) bt_bool) rfl (fr_isinstance Z) bt_isinstance)) (ie_one (ie_cmp (op_eqU hr.units) o2_eq (ie_var (pv 0)) (ie_var (pv 1)) (nobehind _ (by decide) (by decide)))))))))))
theorem ok__law_same (Z : Cz K mg txE fdf) : ∀ z, FnOk P w K mg base (L2N.CX P w) (0 + z) (He.ga K "_law_same") (fdf "_law_same") ["_law_got", "_law_due"] (spOf K (cAd K) 2 none (m__law_same z))
  | 0 => fn_stuckN
  | z + 1 => okb__law_same Z z (m__law_same z) (ok__law_same Z z)
theorem okbH__law_same (Z : Cz K mg txE fdf) (z : Nat) (mr : Fd) (ih : L2H.FnH P w K mg base (L2N.CX P w) (0 + z) (He.ga K "_law_same") (fdf "_law_same") ["_law_got", "_law_due"] (spOf K (cAd K) 2 none mr)) : L2H.FnH P w K mg base (L2N.CX P w) (0 + z + 1) (He.ga K "_law_same") (fdf "_law_same") ["_law_got", "_law_due"] (spOf K (cAd K) 2 none (bd__law_same mr)) :=
  def_okH (F__law_same Z) sc__law_same rfl (fun i h => by cases h) fun cdv A outer s H E p ht hr => 
  (is_cons (is_if (it_truD (ie_isi kit_tup (ie_var (pv 1)) (pe_tyN rfl (fr_tuple Z) bt_tuple) rfl (fr_isinstance Z) bt_isinstance)) (is_cons (is_if (IW.it (iw_or (it_not (it_truD (ie_isi kit_tup (ie_var (pv 0)) (pe_tyN rfl (fr_tuple Z) bt_tuple) rfl (fr_isinstance Z) bt_isinstance))) (iw_or1 (it_cmp (op_neU (roomH_units hr)) o2_ne (ie_callB cr_len cn_len (ia_cons (ie_var (pv 0)) ia_nil) rfl (fr_len Z) bt_len) (ie_callB cr_len cn_len (ia_cons (ie_var (pv 1)) ia_nil) rfl (fr_len Z) bt_len) (nobehind _ (by decide) (by decide)))))) (is_one (is_ret ie_bl)) is_nil)
      (is_cons (is_forH (vs := [2]) (passes_of rfl) ⟨p, ht, List.mem_singleton.mpr rfl⟩ (ii_range1H rfl (fr_range Z) (ia_cons (ie_callB cr_len cn_len (ia_cons (ie_var (pv 1)) ia_nil) rfl (fr_len Z) bt_len) ia_nil)) (ig_name (pg_name sc__law_same.nd rfl (Or.inl rfl))) (is_one (is_if (it_not (it_truD (IC.d (ic_callH ih rfl (hr.mono (Nat.le_refl _)) ⟨p, ht, List.mem_singleton.mpr rfl⟩ (g__law_same Z) (F__law_same Z).kp (b__law_same Z) (L2N.takes_of rfl rfl rfl rfl) (ga_d (ie_ix (ie_var (pv 0)) (ie_var (pv 2))) (ga_d (ie_ix (ie_var (pv 1)) (ie_var (pv 2))) ga_nil)) rfl)))) (is_one (is_ret ie_bl)) is_nil)))
      (is_one (is_ret ie_bl)))) is_nil)
    (is_cons (is_if (it_truD (ie_isi kit_bool (ie_var (pv 1)) (pe_tyN rfl (fr_bool Z) bt_bool) rfl (fr_isinstance Z) bt_isinstance)) (is_one (is_ret (ie_and (ie_isi kit_bool (ie_var (pv 0)) (pe_tyN rfl (fr_bool Z) bt_bool) rfl (fr_isinstance Z) bt_isinstance) (ie_one (ie_cmp (op_eqU (roomH_units hr)) o2_eq (ie_var (pv 0)) (ie_var (pv 1)) (nobehind _ (by decide) (by decide))))))) is_nil)
    (is_cons (is_if (it_truD (ie_isi kit_str (ie_var (pv 1)) (pe_tyN rfl (fr_str Z) bt_str) rfl (fr_isinstance Z) bt_isinstance)) (is_one (is_ret (ie_and (ie_isi kit_str (ie_var (pv 0)) (pe_tyN rfl (fr_str Z) bt_str) rfl (fr_isinstance Z) bt_isinstance) (ie_one (ie_cmp (op_eqU (roomH_units hr)) o2_eq (ie_var (pv 0)) (ie_var (pv 1)) (nobehind _ (by decide) (by decide))))))) is_nil)
    (is_one (is_ret (ie_and (ie_isi kit_int (ie_var (pv 0)) (pe_tyN rfl (fr_int Z) bt_int) rfl (fr_isinstance Z) bt_isinstance) (ie_and (ie_not (ie_isi kit_bool (ie_var (pv 0)) (pe_tyN rfl (fr_bool Z) bt_bool) rfl (fr_isinstance Z) bt_isinstance)) (ie_one (ie_cmp (op_eqU (roomH_units hr)) o2_eq (ie_var (pv 0)) (ie_var (pv 1)) (nobehind _ (by decide) (by decide)))))))))))
theorem okH__law_same (Z : Cz K mg txE fdf) : ∀ z, L2H.FnH P w K mg base (L2N.CX P w) (0 + z) (He.ga K "_law_same") (fdf "_law_same") ["_law_got", "_law_due"] (spOf K (cAd K) 2 none (m__law_same z))
  | 0 => fnH_stuck
  | z + 1 => okbH__law_same Z z (m__law_same z) (okH__law_same Z z)
abbrev s__law_act : Stmt := top 55
theorem sc__law_act : FnScope ["_law_kind", "_law_left", "_law_right"] ["_law_kind", "_law_left", "_law_right"] (defScope s__law_act) := ⟨rfl, rfl, rfl, by decide +kernel, rfl, by decide +kernel, by decide +kernel⟩
def m__law_act : Fd := mDef 3 none
  (sSeq (sIf (mBool (mBin fEq (mVar 0) (mPure (.int 0)))) (sRet (asD (mCall 2 m_plus none (gConsD (mVar 1) (gConsD (mVar 2) gNilA))))) sSkip)
    (sSeq (sIf (mBool (mBin fEq (mVar 0) (mPure (.int 1)))) (sRet (asD (mCall 2 m_minus none (gConsD (mVar 1) (gConsD (mVar 2) gNilA))))) sSkip)
    (sSeq (sIf (mBool (mBin fEq (mVar 0) (mPure (.int 2)))) (sRet (asD (mCall 2 m_times none (gConsD (mVar 1) (gConsD (mVar 2) gNilA))))) sSkip)
    (sSeq (sIf (mBool (mBin fEq (mVar 0) (mPure (.int 3)))) (sRet (asD (mCall 2 m_over none (gConsD (mVar 1) (gConsD (mVar 2) gNilA))))) sSkip)
    (sSeq (sIf (mBool (mBin fEq (mVar 0) (mPure (.int 4)))) (sRet (asD (mCall 2 m_is_less none (gConsD (mVar 1) (gConsD (mVar 2) gNilA))))) sSkip)
    (sSeq (sIf (mBool (mBin fEq (mVar 0) (mPure (.int 5)))) (sRet (asD (mCall 2 m_quotient_of none (gConsD (mVar 1) (gConsD (mVar 2) gNilA))))) sSkip)
    (sSeq (sIf (mBool (mBin fEq (mVar 0) (mPure (.int 6)))) (sRet (asD (mCall 2 m_row_plus none (gConsD (mVar 1) (gConsD (mVar 2) gNilA))))) sSkip)
    (sSeq (sIf (mBool (mBin fEq (mVar 0) (mPure (.int 7)))) (sRet (asD (mCall 2 m_row_times none (gConsD (mVar 1) (gConsD (mVar 2) gNilA))))) sSkip)
    (sSeq (sIf (mBool (mBin fEq (mVar 0) (mPure (.int 8)))) (sRet (asD (mCall 2 m_row_at none (gConsD (mVar 1) (gConsD (mVar 2) gNilA))))) sSkip)
    (sSeq (sIf (mBool (mBin fEq (mVar 0) (mPure (.int 9)))) (sRet (asD (mCall 2 m_row_moved none (gConsD (mVar 1) (gConsD (mVar 2) gNilA))))) sSkip)
    (sRet (asD (mCall 1 m_row_of none (gConsD (mVar 2) gNilA))))))))))))))
theorem ok__law_act (Z : Cz K mg txE fdf) : FnOk P w K mg base (L2N.CX P w) 8 (He.ga K "_law_act") (fdf "_law_act") ["_law_kind", "_law_left", "_law_right"] (spOf K (cAd K) 3 none m__law_act) :=
  def_okN (F__law_act Z) sc__law_act rfl (fun i h => by cases h) fun cdv A outer s H E hr => 
  (is_cons (is_if (it_cmp (op_eqU hr.units) o2_eq (ie_var (pv 0)) ie_int (nobehind _ (by decide) (by decide))) (is_one (is_ret (IC.d (ic_callN (ok_plus Z) rfl (hr.mono (by decide)) (g_plus Z) (F_plus Z).kp (b_plus Z) (L2N.takes_of rfl rfl rfl rfl) (ga_d (ie_var (pv 1)) (ga_d (ie_var (pv 2)) ga_nil)) rfl)))) is_nil)
    (is_cons (is_if (it_cmp (op_eqU hr.units) o2_eq (ie_var (pv 0)) ie_int (nobehind _ (by decide) (by decide))) (is_one (is_ret (IC.d (ic_callN (ok_minus Z) rfl (hr.mono (by decide)) (g_minus Z) (F_minus Z).kp (b_minus Z) (L2N.takes_of rfl rfl rfl rfl) (ga_d (ie_var (pv 1)) (ga_d (ie_var (pv 2)) ga_nil)) rfl)))) is_nil)
    (is_cons (is_if (it_cmp (op_eqU hr.units) o2_eq (ie_var (pv 0)) ie_int (nobehind _ (by decide) (by decide))) (is_one (is_ret (IC.d (ic_callN (ok_times Z) rfl (hr.mono (by decide)) (g_times Z) (F_times Z).kp (b_times Z) (L2N.takes_of rfl rfl rfl rfl) (ga_d (ie_var (pv 1)) (ga_d (ie_var (pv 2)) ga_nil)) rfl)))) is_nil)
    (is_cons (is_if (it_cmp (op_eqU hr.units) o2_eq (ie_var (pv 0)) ie_int (nobehind _ (by decide) (by decide))) (is_one (is_ret (IC.d (ic_callN (ok_over Z) rfl (hr.mono (by decide)) (g_over Z) (F_over Z).kp (b_over Z) (L2N.takes_of rfl rfl rfl rfl) (ga_d (ie_var (pv 1)) (ga_d (ie_var (pv 2)) ga_nil)) rfl)))) is_nil)
    (is_cons (is_if (it_cmp (op_eqU hr.units) o2_eq (ie_var (pv 0)) ie_int (nobehind _ (by decide) (by decide))) (is_one (is_ret (IC.d (ic_callN (ok_is_less Z) rfl (hr.mono (by decide)) (g_is_less Z) (F_is_less Z).kp (b_is_less Z) (L2N.takes_of rfl rfl rfl rfl) (ga_d (ie_var (pv 1)) (ga_d (ie_var (pv 2)) ga_nil)) rfl)))) is_nil)
    (is_cons (is_if (it_cmp (op_eqU hr.units) o2_eq (ie_var (pv 0)) ie_int (nobehind _ (by decide) (by decide))) (is_one (is_ret (IC.d (ic_callN (ok_quotient_of Z) rfl (hr.mono (by decide)) (g_quotient_of Z) (F_quotient_of Z).kp (b_quotient_of Z) (L2N.takes_of rfl rfl rfl rfl) (ga_d (ie_var (pv 1)) (ga_d (ie_var (pv 2)) ga_nil)) rfl)))) is_nil)
    (is_cons (is_if (it_cmp (op_eqU hr.units) o2_eq (ie_var (pv 0)) ie_int (nobehind _ (by decide) (by decide))) (is_one (is_ret (IC.d (ic_callN (ok_row_plus Z) rfl (hr.mono (by decide)) (g_row_plus Z) (F_row_plus Z).kp (b_row_plus Z) (L2N.takes_of rfl rfl rfl rfl) (ga_d (ie_var (pv 1)) (ga_d (ie_var (pv 2)) ga_nil)) rfl)))) is_nil)
    (is_cons (is_if (it_cmp (op_eqU hr.units) o2_eq (ie_var (pv 0)) ie_int (nobehind _ (by decide) (by decide))) (is_one (is_ret (IC.d (ic_callN (ok_row_times Z) rfl (hr.mono (by decide)) (g_row_times Z) (F_row_times Z).kp (b_row_times Z) (L2N.takes_of rfl rfl rfl rfl) (ga_d (ie_var (pv 1)) (ga_d (ie_var (pv 2)) ga_nil)) rfl)))) is_nil)
    (is_cons (is_if (it_cmp (op_eqU hr.units) o2_eq (ie_var (pv 0)) ie_int (nobehind _ (by decide) (by decide))) (is_one (is_ret (IC.d (ic_callN (ok_row_at Z) rfl (hr.mono (by decide)) (g_row_at Z) (F_row_at Z).kp (b_row_at Z) (L2N.takes_of rfl rfl rfl rfl) (ga_d (ie_var (pv 1)) (ga_d (ie_var (pv 2)) ga_nil)) rfl)))) is_nil)
    (is_cons (is_if (it_cmp (op_eqU hr.units) o2_eq (ie_var (pv 0)) ie_int (nobehind _ (by decide) (by decide))) (is_one (is_ret (IC.d (ic_callN (ok_row_moved Z) rfl (hr.mono (by decide)) (g_row_moved Z) (F_row_moved Z).kp (b_row_moved Z) (L2N.takes_of rfl rfl rfl rfl) (ga_d (ie_var (pv 1)) (ga_d (ie_var (pv 2)) ga_nil)) rfl)))) is_nil)
    (is_one (is_ret (IC.d (ic_callN (ok_row_of Z) rfl (hr.mono (by decide)) (g_row_of Z) (F_row_of Z).kp (b_row_of Z) (L2N.takes_of rfl rfl rfl rfl) (ga_d (ie_var (pv 2)) ga_nil) rfl))))))))))))))
abbrev s__law_moved : Stmt := top 51
theorem sc__law_moved : FnScope ["_law_left", "_law_shift", "_law_got", "_law_k"] ["_law_left", "_law_shift"] (defScope s__law_moved) := ⟨rfl, rfl, rfl, by decide +kernel, rfl, by decide +kernel, by decide +kernel⟩
def m__law_moved : Fd := mDef 4 none
  (sSeq (sSet 2 (asD (mCall 2 m_row_moved none (gConsD (mVar 0) (gConsD (mVar 1) gNilA)))))
    (sSeq (sIf (mOr (mNot (mTruD (asD (mCall 1 m__law_is_row none (gConsD (mVar 2) gNilA))))) (mBool (mBin fNe (mCB gLen (mCons (mVar 2) mNil)) (mCB gLen (mCons (mVar 0) mNil))))) (sRet (mPure (.bool false))) sSkip)
    (sSeq (sFor (mRange1 (mCons (mBin fAdd (mCB gLen (mCons (mVar 0) mNil)) (mPure (.int 1))) mNil)) (pName 3) (sIf (mBool (mBin fNe (asD (mCall 2 m__law_at none (gConsD (mVar 2) (gConsD (mVar 3) gNilA)))) (asD (mCall 2 m__law_at none (gConsD (mVar 0) (gConsD (mBin fAdd (mVar 3) (mVar 1)) gNilA)))))) (sRet (mPure (.bool false))) sSkip))
    (sRet (asD (mCall 2 (m__law_same 8) none (gConsD (asD (mCall 2 m_row_moved none (gConsD (mVar 2) (gConsD (mUn fNeg (mVar 1)) gNilA)))) (gConsD (mVar 0) gNilA))))))))
theorem ok__law_moved (Z : Cz K mg txE fdf) : FnOk P w K mg base (L2N.CX P w) 9 (He.ga K "_law_moved") (fdf "_law_moved") ["_law_left", "_law_shift"] (spOf K (cAd K) 2 none m__law_moved) :=
  def_okN (F__law_moved Z) sc__law_moved rfl (fun i h => by cases h) fun cdv A outer s H E hr => 
  (is_cons (is_set (i := 2) sc__law_moved.nd rfl (Or.inl rfl) (IC.d (ic_callN (ok_row_moved Z) rfl (hr.mono (by decide)) (g_row_moved Z) (F_row_moved Z).kp (b_row_moved Z) (L2N.takes_of rfl rfl rfl rfl) (ga_d (ie_var (pv 0)) (ga_d (ie_var (pv 1)) ga_nil)) rfl)))
    (is_cons (is_if (IW.it (iw_or (it_not (it_truD (IC.d (ic_callN (ok__law_is_row Z) rfl (hr.mono (by decide)) (g__law_is_row Z) (F__law_is_row Z).kp (b__law_is_row Z) (L2N.takes_of rfl rfl rfl rfl) (ga_d (ie_var (pv 2)) ga_nil) rfl)))) (iw_or1 (it_cmp (op_neU hr.units) o2_ne (ie_callB cr_len cn_len (ia_cons (ie_var (pv 2)) ia_nil) rfl (fr_len Z) bt_len) (ie_callB cr_len cn_len (ia_cons (ie_var (pv 0)) ia_nil) rfl (fr_len Z) bt_len) (nobehind _ (by decide) (by decide)))))) (is_one (is_ret ie_bl)) is_nil)
    (is_cons (is_for (vs := [3]) (passes_of rfl) rfl (ii_range1 rfl (fr_range Z) (ia_cons (ie_add (ie_callB cr_len cn_len (ia_cons (ie_var (pv 0)) ia_nil) rfl (fr_len Z) bt_len) ie_int) ia_nil)) (ig_name (pg_name sc__law_moved.nd rfl (Or.inl rfl))) (is_one (is_if (it_cmp (op_neU hr.units) o2_ne (IC.d (ic_callN (ok__law_at Z) rfl (hr.mono (by decide)) (g__law_at Z) (F__law_at Z).kp (b__law_at Z) (L2N.takes_of rfl rfl rfl rfl) (ga_d (ie_var (pv 2)) (ga_d (ie_var (pv 3)) ga_nil)) rfl)) (IC.d (ic_callN (ok__law_at Z) rfl (hr.mono (by decide)) (g__law_at Z) (F__law_at Z).kp (b__law_at Z) (L2N.takes_of rfl rfl rfl rfl) (ga_d (ie_var (pv 0)) (ga_d (ie_add (ie_var (pv 3)) (ie_var (pv 1))) ga_nil)) rfl)) (nobehind _ (by decide) (by decide))) (is_one (is_ret ie_bl)) is_nil)))
    (is_one (is_ret (IC.d (ic_callN (ok__law_same Z 8) rfl (hr.mono (by decide)) (g__law_same Z) (F__law_same Z).kp (b__law_same Z) (L2N.takes_of rfl rfl rfl rfl) (ga_d (IC.d (ic_callN (ok_row_moved Z) rfl (hr.mono (by decide)) (g_row_moved Z) (F_row_moved Z).kp (b_row_moved Z) (L2N.takes_of rfl rfl rfl rfl) (ga_d (ie_var (pv 2)) (ga_d (ie_neg (ie_var (pv 1))) ga_nil)) rfl)) (ga_d (ie_var (pv 0)) ga_nil)) rfl)))))))
abbrev s__law_quotients : Stmt := top 53
theorem sc__law_quotients : FnScope ["_law_feed_here", "_law_left", "_law_right", "_law_high", "_law_low", "_law_many", "_law_deep", "_law_near"] ["_law_feed_here", "_law_left", "_law_right"] (defScope s__law_quotients) := ⟨rfl, rfl, rfl, by decide +kernel, rfl, by decide +kernel, by decide +kernel⟩
def m__law_quotients : Fd := mDef 8 (some 0)
  (sSeq (sSet 3 (asD (mCall 1 m__law_integer (some 0) (gConsS 0 gNilA))))
    (sSeq (sSet 4 (asD (mCall 1 m__law_integer (some 0) (gConsS 0 gNilA))))
    (sSeq (sSet 4 (mBin fAdd (mVar 4) (mCB gInt (mCons (mBin fEq (mVar 4) (mPure (.int 0))) mNil))))
    (sSeq (sIf (mNot (mTruD (asD (mCall 3 m__law_stands none (gConsD (asD (mCall 2 m_quotient_of none (gConsD (mVar 3) (gConsD (mVar 4) gNilA)))) (gConsD (mVar 3) (gConsD (mVar 4) gNilA))))))) (sRet (mPure (.bool false))) sSkip)
    (sSeq (sSet 5 (mBin fAdd (mPure (.int 1)) (asD (mCall 2 m__law_take (some 0) (gConsS 0 (gConsD (mPure (.int 9)) gNilA))))))
    (sSeq (sIf (mNot (mTruD (asD (mCall 3 m__law_stands none (gConsD (asD (mCall 2 m_quotient_of none (gConsD (mBin fMul (mVar 3) (mVar 5)) (gConsD (mBin fMul (mUn fNeg (mVar 4)) (mVar 5)) gNilA)))) (gConsD (mUn fNeg (mVar 3)) (gConsD (mVar 4) gNilA))))))) (sRet (mPure (.bool false))) sSkip)
    (sSeq (sSet 6 (mBin fMul (mBin fIx (mVar 1) (mPure (.int 1))) (mBin fIx (mVar 2) (mPure (.int 1)))))
    (sSeq (sIf (mNot (mTruD (asD (mCall 3 m__law_stands none (gConsD (asD (mCall 2 m_plus none (gConsD (mVar 1) (gConsD (mVar 2) gNilA)))) (gConsD (mBin fAdd (mBin fMul (mBin fIx (mVar 1) (mPure (.int 0))) (mBin fIx (mVar 2) (mPure (.int 1)))) (mBin fMul (mBin fIx (mVar 2) (mPure (.int 0))) (mBin fIx (mVar 1) (mPure (.int 1))))) (gConsD (mVar 6) gNilA))))))) (sRet (mPure (.bool false))) sSkip)
    (sSeq (sIf (mNot (mTruD (asD (mCall 3 m__law_stands none (gConsD (asD (mCall 2 m_minus none (gConsD (mVar 1) (gConsD (mVar 2) gNilA)))) (gConsD (mBin fSub (mBin fMul (mBin fIx (mVar 1) (mPure (.int 0))) (mBin fIx (mVar 2) (mPure (.int 1)))) (mBin fMul (mBin fIx (mVar 2) (mPure (.int 0))) (mBin fIx (mVar 1) (mPure (.int 1))))) (gConsD (mVar 6) gNilA))))))) (sRet (mPure (.bool false))) sSkip)
    (sSeq (sIf (mNot (mTruD (asD (mCall 3 m__law_stands none (gConsD (asD (mCall 2 m_times none (gConsD (mVar 1) (gConsD (mVar 2) gNilA)))) (gConsD (mBin fMul (mBin fIx (mVar 1) (mPure (.int 0))) (mBin fIx (mVar 2) (mPure (.int 0)))) (gConsD (mVar 6) gNilA))))))) (sRet (mPure (.bool false))) sSkip)
    (sSeq (sIf (mAnd (mBool (mBin fNe (mBin fIx (mVar 2) (mPure (.int 0))) (mPure (.int 0)))) (mNot (mTruD (asD (mCall 3 m__law_stands none (gConsD (asD (mCall 2 m_over none (gConsD (mVar 1) (gConsD (mVar 2) gNilA)))) (gConsD (mBin fMul (mBin fIx (mVar 1) (mPure (.int 0))) (mBin fIx (mVar 2) (mPure (.int 1)))) (gConsD (mBin fMul (mBin fIx (mVar 1) (mPure (.int 1))) (mBin fIx (mVar 2) (mPure (.int 0)))) gNilA)))))))) (sRet (mPure (.bool false))) sSkip)
    (sSeq (sSet 7 (asD (mCall 2 m__law_lowest none (gConsD (mBin fAdd (mBin fMul (mBin fIx (mVar 1) (mPure (.int 0))) (mPure (.int 7))) (mPure (.int 1))) (gConsD (mBin fMul (mBin fIx (mVar 1) (mPure (.int 1))) (mPure (.int 7))) gNilA)))))
    (sSeq (sIf (mNot (mTruD (asD (mCall 2 (m__law_same 8) none (gConsD (mTup (mCons (asD (mCall 2 m_is_less none (gConsD (mVar 1) (gConsD (mVar 7) gNilA)))) (mCons (asD (mCall 2 m_is_less none (gConsD (mVar 7) (gConsD (mVar 1) gNilA)))) (mCons (asD (mCall 2 m_is_less none (gConsD (mVar 1) (gConsD (mVar 1) gNilA)))) mNil)))) (gConsD (mTup (mCons (mPure (.bool true)) (mCons (mPure (.bool false)) (mCons (mPure (.bool false)) mNil)))) gNilA)))))) (sRet (mPure (.bool false))) sSkip)
    (sSeq (sIf (mOr (mNot (mTruD (asD (mCall 2 (m__law_same 8) none (gConsD (asD (mCall 2 m_minus none (gConsD (mVar 1) (gConsD (mVar 1) gNilA)))) (gConsD (mTup (mCons (mPure (.int 0)) (mCons (mPure (.int 1)) mNil))) gNilA)))))) (mNot (mTruD (asD (mCall 2 (m__law_same 8) none (gConsD (asD (mCall 2 m_times none (gConsD (mTup (mCons (mPure (.int 0)) (mCons (mPure (.int 1)) mNil))) (gConsD (mVar 1) gNilA)))) (gConsD (mTup (mCons (mPure (.int 0)) (mCons (mPure (.int 1)) mNil))) gNilA))))))) (sRet (mPure (.bool false))) sSkip)
    (sRet (asD (mCall 2 (m__law_same 8) none (gConsD (asD (mCall 2 m_is_less none (gConsD (mVar 1) (gConsD (mVar 2) gNilA)))) (gConsD (mBin fLt (mBin fMul (mBin fIx (mVar 1) (mPure (.int 0))) (mBin fIx (mVar 2) (mPure (.int 1)))) (mBin fMul (mBin fIx (mVar 2) (mPure (.int 0))) (mBin fIx (mVar 1) (mPure (.int 1))))) gNilA)))))))))))))))))))
theorem ok__law_quotients (Z : Cz K mg txE fdf) : FnOk P w K mg base (L2N.CX P w) 9 (He.ga K "_law_quotients") (fdf "_law_quotients") ["_law_feed_here", "_law_left", "_law_right"] (spOf K (cAd K) 3 (some 0) m__law_quotients) :=
  def_okN (F__law_quotients Z) sc__law_quotients rfl (fun i h => by cases h <;> decide) fun cdv A outer s H E hr => 
  (is_cons (is_set (i := 3) sc__law_quotients.nd rfl (Or.inl rfl) (IC.d (ic_callN (ok__law_integer Z) rfl (hr.mono (by decide)) (g__law_integer Z) (F__law_integer Z).kp (b__law_integer Z) (L2N.takes_of rfl rfl rfl rfl) (ga_s (pv 0) ga_nil) rfl)))
    (is_cons (is_set (i := 4) sc__law_quotients.nd rfl (Or.inl rfl) (IC.d (ic_callN (ok__law_integer Z) rfl (hr.mono (by decide)) (g__law_integer Z) (F__law_integer Z).kp (b__law_integer Z) (L2N.takes_of rfl rfl rfl rfl) (ga_s (pv 0) ga_nil) rfl)))
    (is_cons (is_set (i := 4) sc__law_quotients.nd rfl (Or.inl rfl) (ie_add (ie_var (pv 4)) (ie_callTy call_int1 cn_int (ia_cons (ie_cmp (op_eqU hr.units) o2_eq (ie_var (pv 4)) ie_int (nobehind _ (by decide) (by decide))) ia_nil) rfl (fr_int Z) bt_int)))
    (is_cons (is_if (it_not (it_truD (IC.d (ic_callN (ok__law_stands Z) rfl (hr.mono (by decide)) (g__law_stands Z) (F__law_stands Z).kp (b__law_stands Z) (L2N.takes_of rfl rfl rfl rfl) (ga_d (IC.d (ic_callN (ok_quotient_of Z) rfl (hr.mono (by decide)) (g_quotient_of Z) (F_quotient_of Z).kp (b_quotient_of Z) (L2N.takes_of rfl rfl rfl rfl) (ga_d (ie_var (pv 3)) (ga_d (ie_var (pv 4)) ga_nil)) rfl)) (ga_d (ie_var (pv 3)) (ga_d (ie_var (pv 4)) ga_nil))) rfl)))) (is_one (is_ret ie_bl)) is_nil)
    (is_cons (is_set (i := 5) sc__law_quotients.nd rfl (Or.inl rfl) (ie_add ie_int (IC.d (ic_callN (ok__law_take Z) rfl (hr.mono (by decide)) (g__law_take Z) (F__law_take Z).kp (b__law_take Z) (L2N.takes_of rfl rfl rfl rfl) (ga_s (pv 0) (ga_d ie_int ga_nil)) rfl))))
    (is_cons (is_if (it_not (it_truD (IC.d (ic_callN (ok__law_stands Z) rfl (hr.mono (by decide)) (g__law_stands Z) (F__law_stands Z).kp (b__law_stands Z) (L2N.takes_of rfl rfl rfl rfl) (ga_d (IC.d (ic_callN (ok_quotient_of Z) rfl (hr.mono (by decide)) (g_quotient_of Z) (F_quotient_of Z).kp (b_quotient_of Z) (L2N.takes_of rfl rfl rfl rfl) (ga_d (ie_mul (ie_var (pv 3)) (ie_var (pv 5))) (ga_d (ie_mul (ie_neg (ie_var (pv 4))) (ie_var (pv 5))) ga_nil)) rfl)) (ga_d (ie_neg (ie_var (pv 3))) (ga_d (ie_var (pv 4)) ga_nil))) rfl)))) (is_one (is_ret ie_bl)) is_nil)
    (is_cons (is_set (i := 6) sc__law_quotients.nd rfl (Or.inl rfl) (ie_mul (ie_ix (ie_var (pv 1)) ie_int) (ie_ix (ie_var (pv 2)) ie_int)))
    (is_cons (is_if (it_not (it_truD (IC.d (ic_callN (ok__law_stands Z) rfl (hr.mono (by decide)) (g__law_stands Z) (F__law_stands Z).kp (b__law_stands Z) (L2N.takes_of rfl rfl rfl rfl) (ga_d (IC.d (ic_callN (ok_plus Z) rfl (hr.mono (by decide)) (g_plus Z) (F_plus Z).kp (b_plus Z) (L2N.takes_of rfl rfl rfl rfl) (ga_d (ie_var (pv 1)) (ga_d (ie_var (pv 2)) ga_nil)) rfl)) (ga_d (ie_add (ie_mul (ie_ix (ie_var (pv 1)) ie_int) (ie_ix (ie_var (pv 2)) ie_int)) (ie_mul (ie_ix (ie_var (pv 2)) ie_int) (ie_ix (ie_var (pv 1)) ie_int))) (ga_d (ie_var (pv 6)) ga_nil))) rfl)))) (is_one (is_ret ie_bl)) is_nil)
    (is_cons (is_if (it_not (it_truD (IC.d (ic_callN (ok__law_stands Z) rfl (hr.mono (by decide)) (g__law_stands Z) (F__law_stands Z).kp (b__law_stands Z) (L2N.takes_of rfl rfl rfl rfl) (ga_d (IC.d (ic_callN (ok_minus Z) rfl (hr.mono (by decide)) (g_minus Z) (F_minus Z).kp (b_minus Z) (L2N.takes_of rfl rfl rfl rfl) (ga_d (ie_var (pv 1)) (ga_d (ie_var (pv 2)) ga_nil)) rfl)) (ga_d (ie_sub (ie_mul (ie_ix (ie_var (pv 1)) ie_int) (ie_ix (ie_var (pv 2)) ie_int)) (ie_mul (ie_ix (ie_var (pv 2)) ie_int) (ie_ix (ie_var (pv 1)) ie_int))) (ga_d (ie_var (pv 6)) ga_nil))) rfl)))) (is_one (is_ret ie_bl)) is_nil)
    (is_cons (is_if (it_not (it_truD (IC.d (ic_callN (ok__law_stands Z) rfl (hr.mono (by decide)) (g__law_stands Z) (F__law_stands Z).kp (b__law_stands Z) (L2N.takes_of rfl rfl rfl rfl) (ga_d (IC.d (ic_callN (ok_times Z) rfl (hr.mono (by decide)) (g_times Z) (F_times Z).kp (b_times Z) (L2N.takes_of rfl rfl rfl rfl) (ga_d (ie_var (pv 1)) (ga_d (ie_var (pv 2)) ga_nil)) rfl)) (ga_d (ie_mul (ie_ix (ie_var (pv 1)) ie_int) (ie_ix (ie_var (pv 2)) ie_int)) (ga_d (ie_var (pv 6)) ga_nil))) rfl)))) (is_one (is_ret ie_bl)) is_nil)
    (is_cons (is_if (IW.it (iw_and (it_cmp (op_neU hr.units) o2_ne (ie_ix (ie_var (pv 2)) ie_int) ie_int (nobehind _ (by decide) (by decide))) (iw_and1 (it_not (it_truD (IC.d (ic_callN (ok__law_stands Z) rfl (hr.mono (by decide)) (g__law_stands Z) (F__law_stands Z).kp (b__law_stands Z) (L2N.takes_of rfl rfl rfl rfl) (ga_d (IC.d (ic_callN (ok_over Z) rfl (hr.mono (by decide)) (g_over Z) (F_over Z).kp (b_over Z) (L2N.takes_of rfl rfl rfl rfl) (ga_d (ie_var (pv 1)) (ga_d (ie_var (pv 2)) ga_nil)) rfl)) (ga_d (ie_mul (ie_ix (ie_var (pv 1)) ie_int) (ie_ix (ie_var (pv 2)) ie_int)) (ga_d (ie_mul (ie_ix (ie_var (pv 1)) ie_int) (ie_ix (ie_var (pv 2)) ie_int)) ga_nil))) rfl))))))) (is_one (is_ret ie_bl)) is_nil)
    (is_cons (is_set (i := 7) sc__law_quotients.nd rfl (Or.inl rfl) (IC.d (ic_callN (ok__law_lowest Z) rfl (hr.mono (by decide)) (g__law_lowest Z) (F__law_lowest Z).kp (b__law_lowest Z) (L2N.takes_of rfl rfl rfl rfl) (ga_d (ie_add (ie_mul (ie_ix (ie_var (pv 1)) ie_int) ie_int) ie_int) (ga_d (ie_mul (ie_ix (ie_var (pv 1)) ie_int) ie_int) ga_nil)) rfl)))
    (is_cons (is_if (it_not (it_truD (IC.d (ic_callN (ok__law_same Z 8) rfl (hr.mono (by decide)) (g__law_same Z) (F__law_same Z).kp (b__law_same Z) (L2N.takes_of rfl rfl rfl rfl) (ga_d (ie_tup (ia_cons (IC.d (ic_callN (ok_is_less Z) rfl (hr.mono (by decide)) (g_is_less Z) (F_is_less Z).kp (b_is_less Z) (L2N.takes_of rfl rfl rfl rfl) (ga_d (ie_var (pv 1)) (ga_d (ie_var (pv 7)) ga_nil)) rfl)) (ia_cons (IC.d (ic_callN (ok_is_less Z) rfl (hr.mono (by decide)) (g_is_less Z) (F_is_less Z).kp (b_is_less Z) (L2N.takes_of rfl rfl rfl rfl) (ga_d (ie_var (pv 7)) (ga_d (ie_var (pv 1)) ga_nil)) rfl)) (ia_cons (IC.d (ic_callN (ok_is_less Z) rfl (hr.mono (by decide)) (g_is_less Z) (F_is_less Z).kp (b_is_less Z) (L2N.takes_of rfl rfl rfl rfl) (ga_d (ie_var (pv 1)) (ga_d (ie_var (pv 1)) ga_nil)) rfl)) ia_nil)))) (ga_d (ie_tup (ia_cons ie_bl (ia_cons ie_bl (ia_cons ie_bl ia_nil)))) ga_nil)) rfl)))) (is_one (is_ret ie_bl)) is_nil)
    (is_cons (is_if (IW.it (iw_or (it_not (it_truD (IC.d (ic_callN (ok__law_same Z 8) rfl (hr.mono (by decide)) (g__law_same Z) (F__law_same Z).kp (b__law_same Z) (L2N.takes_of rfl rfl rfl rfl) (ga_d (IC.d (ic_callN (ok_minus Z) rfl (hr.mono (by decide)) (g_minus Z) (F_minus Z).kp (b_minus Z) (L2N.takes_of rfl rfl rfl rfl) (ga_d (ie_var (pv 1)) (ga_d (ie_var (pv 1)) ga_nil)) rfl)) (ga_d (ie_tup (ia_cons ie_int (ia_cons ie_int ia_nil))) ga_nil)) rfl)))) (iw_or1 (it_not (it_truD (IC.d (ic_callN (ok__law_same Z 8) rfl (hr.mono (by decide)) (g__law_same Z) (F__law_same Z).kp (b__law_same Z) (L2N.takes_of rfl rfl rfl rfl) (ga_d (IC.d (ic_callN (ok_times Z) rfl (hr.mono (by decide)) (g_times Z) (F_times Z).kp (b_times Z) (L2N.takes_of rfl rfl rfl rfl) (ga_d (ie_tup (ia_cons ie_int (ia_cons ie_int ia_nil))) (ga_d (ie_var (pv 1)) ga_nil)) rfl)) (ga_d (ie_tup (ia_cons ie_int (ia_cons ie_int ia_nil))) ga_nil)) rfl))))))) (is_one (is_ret ie_bl)) is_nil)
    (is_one (is_ret (IC.d (ic_callN (ok__law_same Z 8) rfl (hr.mono (by decide)) (g__law_same Z) (F__law_same Z).kp (b__law_same Z) (L2N.takes_of rfl rfl rfl rfl) (ga_d (IC.d (ic_callN (ok_is_less Z) rfl (hr.mono (by decide)) (g_is_less Z) (F_is_less Z).kp (b_is_less Z) (L2N.takes_of rfl rfl rfl rfl) (ga_d (ie_var (pv 1)) (ga_d (ie_var (pv 2)) ga_nil)) rfl)) (ga_d (ie_cmp op_lt o2_lt (ie_mul (ie_ix (ie_var (pv 1)) ie_int) (ie_ix (ie_var (pv 2)) ie_int)) (ie_mul (ie_ix (ie_var (pv 2)) ie_int) (ie_ix (ie_var (pv 1)) ie_int)) (nobehind _ (by decide) (by decide))) ga_nil)) rfl))))))))))))))))))
abbrev s__law_refuses : Stmt := top 56
theorem sc__law_refuses : FnScope ["_law_kind", "_law_left", "_law_right", "_law_due", "e"] ["_law_kind", "_law_left", "_law_right", "_law_due"] (defScope s__law_refuses) := ⟨rfl, rfl, rfl, by decide +kernel, rfl, by decide +kernel, by decide +kernel⟩
def m__law_refuses : Fd := mDef 5 none
  (sSeq (sTryAs (sExpr (asD (mCall 3 m__law_act none (gConsD (mVar 0) (gConsD (mVar 1) (gConsD (mVar 2) gNilA)))))) "NotUsable" [] 4 (sSeq (sIf (mOr (mNot (mTruD (mExc 4 true))) (mOr (mNot (mTruD (mExc 4 true))) (mNot (mTruD (mExc 4 true))))) (sRet (mPure (.bool false))) sSkip)
      (sSeq (sIf (mOr (mTruD (mExc 4 false)) (mOr (mTruD (mExc 4 false)) (mTruD (mExc 4 false)))) (sRet (mPure (.bool false))) sSkip)
      (sRet (asD (mCall 2 (m__law_same 8) none (gConsD (mTup (mCons (mFld 4 "word") (mCons (mFld 4 "at") mNil))) (gConsD (mTup (mCons (mVar 3) (mCons (mUn fNeg (mPure (.int 1))) mNil))) gNilA))))))))
    (sRet (mPure (.bool false))))
theorem ok__law_refuses (Z : Cz K mg txE fdf) : FnOk P w K mg base (L2N.CX P w) 9 (He.ga K "_law_refuses") (fdf "_law_refuses") ["_law_kind", "_law_left", "_law_right", "_law_due"] (spOf K (cAd K) 4 none m__law_refuses) :=
  def_okN (F__law_refuses Z) sc__law_refuses rfl (fun i h => by cases h) fun cdv A outer s H E hr => 
  (is_cons (is_tryAsN (c0 := "NotUsable") (nm := []) (i := 4) rfl rfl sc__law_refuses.nd rfl rfl ⟨rfl, by decide, Or.inl (cg_NotUsable Z)⟩ (L2N.takes_of rfl rfl rfl rfl) (Z.mm 0 (q := ("NotUsable", "NotUsable", true))) (fun _ h => by cases h) (fun _ _ _ _ _ _ _ hB => nbs hB rfl) (fun W1 pn xe tk1 hp1 => (is_one (is_expr (IC.d (ic_callN (ok__law_act Z) rfl (hr.mono (by decide)) (g__law_act Z) (F__law_act Z).kp (b__law_act Z) tk1 (ga_d (ie_var (pv 0)) (ga_d (ie_var (pv 1)) (ga_d (ie_var (pv 2)) ga_nil))) rfl))))) (fun ax oe dx pn hzn hv => let hz := L2N.Zn.zc hzn; (is_cons (is_if (IW.it (iw_or (it_not (it_truD (ie_isX (Z.xx 0 (x := "NotUsable")).2 hz hv (Z.kk 0 (q := ("NotUsable", "PatternError", true))) rel_ref (pv 4) (pe_clsN rfl (cg_PatternError Z)) (by intro t ht h1; simp at ht; first | exact ht | (rcases ht with ht | ht <;> first | exact ht | (subst ht; exact absurd h1 (by decide)))) rfl (fr_isinstance Z) bt_isinstance))) (iw_or (it_not (it_truD (ie_isX (Z.xx 0 (x := "NotUsable")).2 hz hv (Z.kk 1 (q := ("NotUsable", "ThreadError", true))) rel_ref (pv 4) (pe_clsN rfl (cg_ThreadError Z)) (by intro t ht h1; simp at ht; first | exact ht | (rcases ht with ht | ht <;> first | exact ht | (subst ht; exact absurd h1 (by decide)))) rfl (fr_isinstance Z) bt_isinstance))) (iw_or1 (it_not (it_truD (ie_isX (Z.xx 0 (x := "NotUsable")).2 hz hv (Z.kt 0 (q := ("NotUsable", "ValueError", true))) rel_ty (pv 4) (pe_tyN rfl (fr_ValueError Z) bt_ValueError) (by intro t ht h1; simp at ht; first | exact ht | (rcases ht with ht | ht <;> first | exact ht | (subst ht; exact absurd h1 (by decide)))) rfl (fr_isinstance Z) bt_isinstance))))))) (is_one (is_ret ie_bl)) is_nil)
      (is_cons (is_if (IW.it (iw_or (it_truD (ie_isX (Z.xx 0 (x := "NotUsable")).2 hz hv (Z.kk 2 (q := ("NotUsable", "PaperError", false))) rel_ref (pv 4) (pe_clsN rfl (cg_PaperError Z)) (by intro t ht h1; simp at ht; first | exact ht | (rcases ht with ht | ht <;> first | exact ht | (subst ht; exact absurd h1 (by decide)))) rfl (fr_isinstance Z) bt_isinstance)) (iw_or (it_truD (ie_isX (Z.xx 0 (x := "NotUsable")).2 hz hv (Z.kk 3 (q := ("NotUsable", "LiveError", false))) rel_ref (pv 4) (pe_clsN rfl (cg_LiveError Z)) (by intro t ht h1; simp at ht; first | exact ht | (rcases ht with ht | ht <;> first | exact ht | (subst ht; exact absurd h1 (by decide)))) rfl (fr_isinstance Z) bt_isinstance)) (iw_or1 (it_truD (ie_isX (Z.xx 0 (x := "NotUsable")).2 hz hv (Z.kk 4 (q := ("NotUsable", "TextError", false))) rel_ref (pv 4) (pe_clsN rfl (cg_TextError Z)) (by intro t ht h1; simp at ht; first | exact ht | (rcases ht with ht | ht <;> first | exact ht | (subst ht; exact absurd h1 (by decide)))) rfl (fr_isinstance Z) bt_isinstance)))))) (is_one (is_ret ie_bl)) is_nil)
      (is_one (is_ret (IC.d (ic_callH (okH__law_same Z 8) rfl (roomS (hr.mono (by decide))) (hotc_of hzn hv) (g__law_same Z) (F__law_same Z).kp (b__law_same Z) tk0N (ga_d (ie_tup (ia_cons (ie_fld (Z.xx 0 (x := "NotUsable")).1 ((X_NotUsable Z).nn 0) hz hv (pv 4) (by intro t ht h1; simp at ht; first | exact ht | (rcases ht with ht | ht <;> first | exact ht | (subst ht; exact absurd h1 (by decide))))) (ia_cons (ie_fld (Z.xx 0 (x := "NotUsable")).1 ((X_NotUsable Z).nn 1) hz hv (pv 4) (by intro t ht h1; simp at ht; first | exact ht | (rcases ht with ht | ht <;> first | exact ht | (subst ht; exact absurd h1 (by decide))))) ia_nil))) (ga_d (ie_tup (ia_cons (ie_var (pv 3)) (ia_cons (ie_neg ie_int) ia_nil))) ga_nil)) rfl))))))))
    (is_one (is_ret ie_bl)))
abbrev s__law_by_name : Stmt := top 58
theorem sc__law_by_name : FnScope ["_law_left", "_law_near", "_law_poly_here", "_law_pair"] ["_law_left", "_law_near", "_law_poly_here", "_law_pair"] (defScope s__law_by_name) := ⟨rfl, rfl, rfl, by decide +kernel, rfl, by decide +kernel, by decide +kernel⟩
def m__law_by_name : Fd := mDef 4 none
  (sSeq (sIf (mNot (mTruD (asD (mCall 2 (m__law_same 8) none (gConsD (asD (mKw 2 m_quotient_of [1, 0] (mCons (mBin fIx (mVar 1) (mPure (.int 1))) (mCons (mBin fIx (mVar 1) (mPure (.int 0))) mNil)))) (gConsD (mVar 1) gNilA)))))) (sRet (mPure (.bool false))) sSkip)
    (sSeq (sIf (mNot (mTruD (asD (mCall 2 (m__law_same 8) none (gConsD (asD (mKw 2 m_plus [1, 0] (mCons (mVar 1) (mCons (mVar 0) mNil)))) (gConsD (asD (mCall 2 m_plus none (gConsD (mVar 0) (gConsD (mVar 1) gNilA)))) gNilA)))))) (sRet (mPure (.bool false))) sSkip)
    (sSeq (sIf (mNot (mTruD (asD (mCall 2 (m__law_same 8) none (gConsD (asD (mKw 2 m_minus [1, 0] (mCons (mVar 1) (mCons (mVar 0) mNil)))) (gConsD (asD (mCall 2 m_minus none (gConsD (mVar 0) (gConsD (mVar 1) gNilA)))) gNilA)))))) (sRet (mPure (.bool false))) sSkip)
    (sSeq (sIf (mNot (mTruD (asD (mCall 2 (m__law_same 8) none (gConsD (asD (mKw 2 m_times [1, 0] (mCons (mVar 1) (mCons (mVar 0) mNil)))) (gConsD (asD (mCall 2 m_times none (gConsD (mVar 0) (gConsD (mVar 1) gNilA)))) gNilA)))))) (sRet (mPure (.bool false))) sSkip)
    (sSeq (sIf (mNot (mTruD (asD (mCall 2 (m__law_same 8) none (gConsD (asD (mKw 2 m_is_less [1, 0] (mCons (mVar 1) (mCons (mVar 0) mNil)))) (gConsD (asD (mCall 2 m_is_less none (gConsD (mVar 0) (gConsD (mVar 1) gNilA)))) gNilA)))))) (sRet (mPure (.bool false))) sSkip)
    (sSeq (sIf (mAnd (mBool (mBin fNe (mBin fIx (mVar 1) (mPure (.int 0))) (mPure (.int 0)))) (mNot (mTruD (asD (mCall 2 (m__law_same 8) none (gConsD (asD (mKw 2 m_over [1, 0] (mCons (mVar 1) (mCons (mVar 0) mNil)))) (gConsD (asD (mCall 2 m_over none (gConsD (mVar 0) (gConsD (mVar 1) gNilA)))) gNilA))))))) (sRet (mPure (.bool false))) sSkip)
    (sSeq (sIf (mNot (mTruD (asD (mCall 2 (m__law_same 8) none (gConsD (asD (mKw 2 m_row_plus [1, 0] (mCons (mVar 3) (mCons (mVar 2) mNil)))) (gConsD (asD (mCall 2 m_row_plus none (gConsD (mVar 2) (gConsD (mVar 3) gNilA)))) gNilA)))))) (sRet (mPure (.bool false))) sSkip)
    (sSeq (sIf (mNot (mTruD (asD (mCall 2 (m__law_same 8) none (gConsD (asD (mKw 2 m_row_times [1, 0] (mCons (mVar 3) (mCons (mVar 2) mNil)))) (gConsD (asD (mCall 2 m_row_times none (gConsD (mVar 2) (gConsD (mVar 3) gNilA)))) gNilA)))))) (sRet (mPure (.bool false))) sSkip)
    (sSeq (sIf (mOr (mNot (mTruD (asD (mCall 2 (m__law_same 8) none (gConsD (asD (mKw 2 m_row_at [1, 0] (mCons (mVar 0) (mCons (mVar 2) mNil)))) (gConsD (asD (mCall 2 m_row_at none (gConsD (mVar 2) (gConsD (mVar 0) gNilA)))) gNilA)))))) (mNot (mTruD (asD (mCall 2 (m__law_same 8) none (gConsD (asD (mKw 1 m_row_of [0] (mCons (mVar 3) mNil))) (gConsD (mVar 3) gNilA))))))) (sRet (mPure (.bool false))) sSkip)
    (sSeq (sIf (mNot (mTruD (asD (mCall 2 (m__law_same 8) none (gConsD (asD (mKw 2 m_row_moved [1, 0] (mCons (mBin fIx (mVar 0) (mPure (.int 0))) (mCons (mVar 2) mNil)))) (gConsD (asD (mCall 2 m_row_moved none (gConsD (mVar 2) (gConsD (mBin fIx (mVar 0) (mPure (.int 0))) gNilA)))) gNilA)))))) (sRet (mPure (.bool false))) sSkip)
    (sRet (asD (mCall 2 (m__law_same 8) none (gConsD (asD (mKw 1 m_sign_changes [0] (mCons (mVar 2) mNil))) (gConsD (asD (mCall 1 m_sign_changes none (gConsD (mVar 2) gNilA))) gNilA)))))))))))))))
theorem ok__law_by_name (Z : Cz K mg txE fdf) : FnOk P w K mg base (L2N.CX P w) 9 (He.ga K "_law_by_name") (fdf "_law_by_name") ["_law_left", "_law_near", "_law_poly_here", "_law_pair"] (spOf K (cAd K) 4 none m__law_by_name) :=
  def_okN (F__law_by_name Z) sc__law_by_name rfl (fun i h => by cases h) fun cdv A outer s H E hr => 
  (is_cons (is_if (it_not (it_truD (IC.d (ic_callN (ok__law_same Z 8) rfl (hr.mono (by decide)) (g__law_same Z) (F__law_same Z).kp (b__law_same Z) (L2N.takes_of rfl rfl rfl rfl) (ga_d (IC.d (ic_kwN (ks := ["bottom", "top"]) (is := [1, 0]) (ok_quotient_of Z) rfl (hr.mono (by decide)) (g_quotient_of Z) (F_quotient_of Z).kp (kw_of (F_quotient_of Z) fun _ _ _ _ _ _ us hl => match us, hl with | [_, _], _ => rfl) (L2N.takes_of rfl rfl rfl rfl) (ik_cons (ie_ix (ie_var (pv 1)) ie_int) (ik_cons (ie_ix (ie_var (pv 1)) ie_int) ik_nil)) rfl (hlen := (mCons_len (mCons_len (fun _ _ _ h => mNil_len h)))))) (ga_d (ie_var (pv 1)) ga_nil)) rfl)))) (is_one (is_ret ie_bl)) is_nil)
    (is_cons (is_if (it_not (it_truD (IC.d (ic_callN (ok__law_same Z 8) rfl (hr.mono (by decide)) (g__law_same Z) (F__law_same Z).kp (b__law_same Z) (L2N.takes_of rfl rfl rfl rfl) (ga_d (IC.d (ic_kwN (ks := ["other", "one"]) (is := [1, 0]) (ok_plus Z) rfl (hr.mono (by decide)) (g_plus Z) (F_plus Z).kp (kw_of (F_plus Z) fun _ _ _ _ _ _ us hl => match us, hl with | [_, _], _ => rfl) (L2N.takes_of rfl rfl rfl rfl) (ik_cons (ie_var (pv 1)) (ik_cons (ie_var (pv 0)) ik_nil)) rfl (hlen := (mCons_len (mCons_len (fun _ _ _ h => mNil_len h)))))) (ga_d (IC.d (ic_callN (ok_plus Z) rfl (hr.mono (by decide)) (g_plus Z) (F_plus Z).kp (b_plus Z) (L2N.takes_of rfl rfl rfl rfl) (ga_d (ie_var (pv 0)) (ga_d (ie_var (pv 1)) ga_nil)) rfl)) ga_nil)) rfl)))) (is_one (is_ret ie_bl)) is_nil)
    (is_cons (is_if (it_not (it_truD (IC.d (ic_callN (ok__law_same Z 8) rfl (hr.mono (by decide)) (g__law_same Z) (F__law_same Z).kp (b__law_same Z) (L2N.takes_of rfl rfl rfl rfl) (ga_d (IC.d (ic_kwN (ks := ["other", "one"]) (is := [1, 0]) (ok_minus Z) rfl (hr.mono (by decide)) (g_minus Z) (F_minus Z).kp (kw_of (F_minus Z) fun _ _ _ _ _ _ us hl => match us, hl with | [_, _], _ => rfl) (L2N.takes_of rfl rfl rfl rfl) (ik_cons (ie_var (pv 1)) (ik_cons (ie_var (pv 0)) ik_nil)) rfl (hlen := (mCons_len (mCons_len (fun _ _ _ h => mNil_len h)))))) (ga_d (IC.d (ic_callN (ok_minus Z) rfl (hr.mono (by decide)) (g_minus Z) (F_minus Z).kp (b_minus Z) (L2N.takes_of rfl rfl rfl rfl) (ga_d (ie_var (pv 0)) (ga_d (ie_var (pv 1)) ga_nil)) rfl)) ga_nil)) rfl)))) (is_one (is_ret ie_bl)) is_nil)
    (is_cons (is_if (it_not (it_truD (IC.d (ic_callN (ok__law_same Z 8) rfl (hr.mono (by decide)) (g__law_same Z) (F__law_same Z).kp (b__law_same Z) (L2N.takes_of rfl rfl rfl rfl) (ga_d (IC.d (ic_kwN (ks := ["other", "one"]) (is := [1, 0]) (ok_times Z) rfl (hr.mono (by decide)) (g_times Z) (F_times Z).kp (kw_of (F_times Z) fun _ _ _ _ _ _ us hl => match us, hl with | [_, _], _ => rfl) (L2N.takes_of rfl rfl rfl rfl) (ik_cons (ie_var (pv 1)) (ik_cons (ie_var (pv 0)) ik_nil)) rfl (hlen := (mCons_len (mCons_len (fun _ _ _ h => mNil_len h)))))) (ga_d (IC.d (ic_callN (ok_times Z) rfl (hr.mono (by decide)) (g_times Z) (F_times Z).kp (b_times Z) (L2N.takes_of rfl rfl rfl rfl) (ga_d (ie_var (pv 0)) (ga_d (ie_var (pv 1)) ga_nil)) rfl)) ga_nil)) rfl)))) (is_one (is_ret ie_bl)) is_nil)
    (is_cons (is_if (it_not (it_truD (IC.d (ic_callN (ok__law_same Z 8) rfl (hr.mono (by decide)) (g__law_same Z) (F__law_same Z).kp (b__law_same Z) (L2N.takes_of rfl rfl rfl rfl) (ga_d (IC.d (ic_kwN (ks := ["other", "one"]) (is := [1, 0]) (ok_is_less Z) rfl (hr.mono (by decide)) (g_is_less Z) (F_is_less Z).kp (kw_of (F_is_less Z) fun _ _ _ _ _ _ us hl => match us, hl with | [_, _], _ => rfl) (L2N.takes_of rfl rfl rfl rfl) (ik_cons (ie_var (pv 1)) (ik_cons (ie_var (pv 0)) ik_nil)) rfl (hlen := (mCons_len (mCons_len (fun _ _ _ h => mNil_len h)))))) (ga_d (IC.d (ic_callN (ok_is_less Z) rfl (hr.mono (by decide)) (g_is_less Z) (F_is_less Z).kp (b_is_less Z) (L2N.takes_of rfl rfl rfl rfl) (ga_d (ie_var (pv 0)) (ga_d (ie_var (pv 1)) ga_nil)) rfl)) ga_nil)) rfl)))) (is_one (is_ret ie_bl)) is_nil)
    (is_cons (is_if (IW.it (iw_and (it_cmp (op_neU hr.units) o2_ne (ie_ix (ie_var (pv 1)) ie_int) ie_int (nobehind _ (by decide) (by decide))) (iw_and1 (it_not (it_truD (IC.d (ic_callN (ok__law_same Z 8) rfl (hr.mono (by decide)) (g__law_same Z) (F__law_same Z).kp (b__law_same Z) (L2N.takes_of rfl rfl rfl rfl) (ga_d (IC.d (ic_kwN (ks := ["other", "one"]) (is := [1, 0]) (ok_over Z) rfl (hr.mono (by decide)) (g_over Z) (F_over Z).kp (kw_of (F_over Z) fun _ _ _ _ _ _ us hl => match us, hl with | [_, _], _ => rfl) (L2N.takes_of rfl rfl rfl rfl) (ik_cons (ie_var (pv 1)) (ik_cons (ie_var (pv 0)) ik_nil)) rfl (hlen := (mCons_len (mCons_len (fun _ _ _ h => mNil_len h)))))) (ga_d (IC.d (ic_callN (ok_over Z) rfl (hr.mono (by decide)) (g_over Z) (F_over Z).kp (b_over Z) (L2N.takes_of rfl rfl rfl rfl) (ga_d (ie_var (pv 0)) (ga_d (ie_var (pv 1)) ga_nil)) rfl)) ga_nil)) rfl))))))) (is_one (is_ret ie_bl)) is_nil)
    (is_cons (is_if (it_not (it_truD (IC.d (ic_callN (ok__law_same Z 8) rfl (hr.mono (by decide)) (g__law_same Z) (F__law_same Z).kp (b__law_same Z) (L2N.takes_of rfl rfl rfl rfl) (ga_d (IC.d (ic_kwN (ks := ["other", "row"]) (is := [1, 0]) (ok_row_plus Z) rfl (hr.mono (by decide)) (g_row_plus Z) (F_row_plus Z).kp (kw_of (F_row_plus Z) fun _ _ _ _ _ _ us hl => match us, hl with | [_, _], _ => rfl) (L2N.takes_of rfl rfl rfl rfl) (ik_cons (ie_var (pv 3)) (ik_cons (ie_var (pv 2)) ik_nil)) rfl (hlen := (mCons_len (mCons_len (fun _ _ _ h => mNil_len h)))))) (ga_d (IC.d (ic_callN (ok_row_plus Z) rfl (hr.mono (by decide)) (g_row_plus Z) (F_row_plus Z).kp (b_row_plus Z) (L2N.takes_of rfl rfl rfl rfl) (ga_d (ie_var (pv 2)) (ga_d (ie_var (pv 3)) ga_nil)) rfl)) ga_nil)) rfl)))) (is_one (is_ret ie_bl)) is_nil)
    (is_cons (is_if (it_not (it_truD (IC.d (ic_callN (ok__law_same Z 8) rfl (hr.mono (by decide)) (g__law_same Z) (F__law_same Z).kp (b__law_same Z) (L2N.takes_of rfl rfl rfl rfl) (ga_d (IC.d (ic_kwN (ks := ["other", "row"]) (is := [1, 0]) (ok_row_times Z) rfl (hr.mono (by decide)) (g_row_times Z) (F_row_times Z).kp (kw_of (F_row_times Z) fun _ _ _ _ _ _ us hl => match us, hl with | [_, _], _ => rfl) (L2N.takes_of rfl rfl rfl rfl) (ik_cons (ie_var (pv 3)) (ik_cons (ie_var (pv 2)) ik_nil)) rfl (hlen := (mCons_len (mCons_len (fun _ _ _ h => mNil_len h)))))) (ga_d (IC.d (ic_callN (ok_row_times Z) rfl (hr.mono (by decide)) (g_row_times Z) (F_row_times Z).kp (b_row_times Z) (L2N.takes_of rfl rfl rfl rfl) (ga_d (ie_var (pv 2)) (ga_d (ie_var (pv 3)) ga_nil)) rfl)) ga_nil)) rfl)))) (is_one (is_ret ie_bl)) is_nil)
    (is_cons (is_if (IW.it (iw_or (it_not (it_truD (IC.d (ic_callN (ok__law_same Z 8) rfl (hr.mono (by decide)) (g__law_same Z) (F__law_same Z).kp (b__law_same Z) (L2N.takes_of rfl rfl rfl rfl) (ga_d (IC.d (ic_kwN (ks := ["value", "row"]) (is := [1, 0]) (ok_row_at Z) rfl (hr.mono (by decide)) (g_row_at Z) (F_row_at Z).kp (kw_of (F_row_at Z) fun _ _ _ _ _ _ us hl => match us, hl with | [_, _], _ => rfl) (L2N.takes_of rfl rfl rfl rfl) (ik_cons (ie_var (pv 0)) (ik_cons (ie_var (pv 2)) ik_nil)) rfl (hlen := (mCons_len (mCons_len (fun _ _ _ h => mNil_len h)))))) (ga_d (IC.d (ic_callN (ok_row_at Z) rfl (hr.mono (by decide)) (g_row_at Z) (F_row_at Z).kp (b_row_at Z) (L2N.takes_of rfl rfl rfl rfl) (ga_d (ie_var (pv 2)) (ga_d (ie_var (pv 0)) ga_nil)) rfl)) ga_nil)) rfl)))) (iw_or1 (it_not (it_truD (IC.d (ic_callN (ok__law_same Z 8) rfl (hr.mono (by decide)) (g__law_same Z) (F__law_same Z).kp (b__law_same Z) (L2N.takes_of rfl rfl rfl rfl) (ga_d (IC.d (ic_kwN (ks := ["numbers"]) (is := [0]) (ok_row_of Z) rfl (hr.mono (by decide)) (g_row_of Z) (F_row_of Z).kp (kw_of (F_row_of Z) fun _ _ _ _ _ _ us hl => match us, hl with | [_], _ => rfl) (L2N.takes_of rfl rfl rfl rfl) (ik_cons (ie_var (pv 3)) ik_nil) rfl (hlen := (mCons_len (fun _ _ _ h => mNil_len h))))) (ga_d (ie_var (pv 3)) ga_nil)) rfl))))))) (is_one (is_ret ie_bl)) is_nil)
    (is_cons (is_if (it_not (it_truD (IC.d (ic_callN (ok__law_same Z 8) rfl (hr.mono (by decide)) (g__law_same Z) (F__law_same Z).kp (b__law_same Z) (L2N.takes_of rfl rfl rfl rfl) (ga_d (IC.d (ic_kwN (ks := ["by", "row"]) (is := [1, 0]) (ok_row_moved Z) rfl (hr.mono (by decide)) (g_row_moved Z) (F_row_moved Z).kp (kw_of (F_row_moved Z) fun _ _ _ _ _ _ us hl => match us, hl with | [_, _], _ => rfl) (L2N.takes_of rfl rfl rfl rfl) (ik_cons (ie_ix (ie_var (pv 0)) ie_int) (ik_cons (ie_var (pv 2)) ik_nil)) rfl (hlen := (mCons_len (mCons_len (fun _ _ _ h => mNil_len h)))))) (ga_d (IC.d (ic_callN (ok_row_moved Z) rfl (hr.mono (by decide)) (g_row_moved Z) (F_row_moved Z).kp (b_row_moved Z) (L2N.takes_of rfl rfl rfl rfl) (ga_d (ie_var (pv 2)) (ga_d (ie_ix (ie_var (pv 0)) ie_int) ga_nil)) rfl)) ga_nil)) rfl)))) (is_one (is_ret ie_bl)) is_nil)
    (is_one (is_ret (IC.d (ic_callN (ok__law_same Z 8) rfl (hr.mono (by decide)) (g__law_same Z) (F__law_same Z).kp (b__law_same Z) (L2N.takes_of rfl rfl rfl rfl) (ga_d (IC.d (ic_kwN (ks := ["row"]) (is := [0]) (ok_sign_changes Z) rfl (hr.mono (by decide)) (g_sign_changes Z) (F_sign_changes Z).kp (kw_of (F_sign_changes Z) fun _ _ _ _ _ _ us hl => match us, hl with | [_], _ => rfl) (L2N.takes_of rfl rfl rfl rfl) (ik_cons (ie_var (pv 2)) ik_nil) rfl (hlen := (mCons_len (fun _ _ _ h => mNil_len h))))) (ga_d (IC.d (ic_callN (ok_sign_changes Z) rfl (hr.mono (by decide)) (g_sign_changes Z) (F_sign_changes Z).kp (b_sign_changes Z) (L2N.takes_of rfl rfl rfl rfl) (ga_d (ie_var (pv 2)) ga_nil) rfl)) ga_nil)) rfl))))))))))))))
abbrev s__law_rows : Stmt := top 54
theorem sc__law_rows : FnScope ["_law_feed_here", "_law_left", "_law_right", "_law_part", "_law_minor", "_law_loose", "_law_high", "_law_low", "_law_k"] ["_law_feed_here", "_law_left", "_law_right", "_law_part"] (defScope s__law_rows) := ⟨rfl, rfl, rfl, by decide +kernel, rfl, by decide +kernel, by decide +kernel⟩
def m__law_rows : Fd := mDef 9 (some 0)
  (sSeq (sIf (mNot (mTruD (asD (mCall 2 (m__law_same 8) none (gConsD (asD (mCall 2 m_row_plus none (gConsD (mVar 1) (gConsD (mVar 2) gNilA)))) (gConsD (asD (mCall 2 m__law_sum_row none (gConsD (mVar 1) (gConsD (mVar 2) gNilA)))) gNilA)))))) (sRet (mPure (.bool false))) sSkip)
    (sSeq (sSet 4 (mCB gTuple (mCons (mCold (mComp (mSeq (mVar 1)) (pName 8) (mPure true) (mUn fNeg (mVar 8)) [8])) mNil)))
    (sSeq (sIf (mOr (mNot (mTruD (asD (mCall 2 (m__law_same 8) none (gConsD (asD (mCall 2 m_row_plus none (gConsD (mVar 1) (gConsD (mVar 4) gNilA)))) (gConsD (mTup mNil) gNilA)))))) (mNot (mTruD (asD (mCall 2 (m__law_same 8) none (gConsD (asD (mCall 2 m_row_plus none (gConsD (mVar 1) (gConsD (mTup mNil) gNilA)))) (gConsD (mVar 1) gNilA))))))) (sRet (mPure (.bool false))) sSkip)
    (sSeq (sIf (mBool (mBin fGt (mCB gLen (mCons (mVar 1) mNil)) (mPure (.int 1)))) (sSeq (sSet 4 (mBin fCatT (mTup (mCons (mBin fSub (mPure (.int 1)) (mBin fIx (mVar 1) (mPure (.int 0)))) mNil)) (mSl (mVar 4) (mPart (mPure (.int 1))) (mPure none))))
      (sIf (mNot (mTruD (asD (mCall 2 (m__law_same 8) none (gConsD (asD (mCall 2 m_row_plus none (gConsD (mVar 4) (gConsD (mVar 1) gNilA)))) (gConsD (mTup (mCons (mPure (.int 1)) mNil)) gNilA)))))) (sRet (mPure (.bool false))) sSkip)) sSkip)
    (sSeq (sIf (mOr (mNot (mTruD (asD (mCall 3 m__law_product none (gConsD (asD (mCall 2 m_row_times none (gConsD (mVar 1) (gConsD (mVar 2) gNilA)))) (gConsD (mVar 1) (gConsD (mVar 2) gNilA))))))) (mNot (mTruD (asD (mCall 2 (m__law_same 8) none (gConsD (asD (mCall 2 m_row_times none (gConsD (mTup mNil) (gConsD (mVar 1) gNilA)))) (gConsD (mTup mNil) gNilA))))))) (sRet (mPure (.bool false))) sSkip)
    (sSeq (sSet 5 (mCB gTuple (mCons (mCold (mBinO fCatL (mCold (mComp (mSeq (mSl (mVar 1) (mPure none) (mPart (mPure (.int 5))))) (pName 8) (mBool (mBin fLt (mCB gAbs (mCons (mVar 8) mNil)) (mBin fPow (mPure (.int 10)) (mPure (.int 60))))) (mVar 8) [8])) (mCold (mBinO fRepL (mCold (mLst (mCons (mPure (.int 0)) mNil))) (asD (mCall 2 m__law_take (some 0) (gConsS 0 (gConsD (mPure (.int 4)) gNilA)))))))) mNil)))
    (sSeq (sIf (mNot (mTruD (asD (mCall 2 (m__law_same 8) none (gConsD (asD (mCall 1 m_row_of none (gConsD (mVar 5) gNilA))) (gConsD (asD (mCall 1 m__law_stripped none (gConsD (mVar 5) gNilA))) gNilA)))))) (sRet (mPure (.bool false))) sSkip)
    (sSeq (sSet 6 (mPure (.int 0)))
    (sSeq (sSet 7 (mPure (.int 1)))
    (sSeq (sFor (mSeq (mUn fRev (mVar 1))) (pName 8) (sSeq (sSet 6 (mBin fAdd (mBin fMul (mVar 6) (mBin fIx (mVar 3) (mPure (.int 0)))) (mBin fMul (mVar 8) (mVar 7))))
      (sSet 7 (mBin fMul (mVar 7) (mBin fIx (mVar 3) (mPure (.int 1)))))))
    (sSeq (sIf (mNot (mTruD (asD (mCall 3 m__law_stands none (gConsD (asD (mCall 2 m_row_at none (gConsD (mVar 1) (gConsD (mVar 3) gNilA)))) (gConsD (mBin fMul (mVar 6) (mBin fIx (mVar 3) (mPure (.int 1)))) (gConsD (mVar 7) gNilA))))))) (sRet (mPure (.bool false))) sSkip)
    (sRet (mAndV (asD (mCall 2 m__law_moved none (gConsD (mVar 1) (gConsD (asD (mCall 1 m__law_integer (some 0) (gConsS 0 gNilA))) gNilA)))) (asD (mCall 2 (m__law_same 8) none (gConsD (asD (mCall 1 m_sign_changes none (gConsD (mVar 1) gNilA))) (gConsD (asD (mCall 1 m__law_changes none (gConsD (mVar 1) gNilA))) gNilA)))))))))))))))))
theorem ok__law_rows (Z : Cz K mg txE fdf) : FnOk P w K mg base (L2N.CX P w) 10 (He.ga K "_law_rows") (fdf "_law_rows") ["_law_feed_here", "_law_left", "_law_right", "_law_part"] (spOf K (cAd K) 4 (some 0) m__law_rows) :=
  def_okN (F__law_rows Z) sc__law_rows rfl (fun i h => by cases h <;> decide) fun cdv A outer s H E hr => 
  (is_cons (is_if (it_not (it_truD (IC.d (ic_callN (ok__law_same Z 8) rfl (hr.mono (by decide)) (g__law_same Z) (F__law_same Z).kp (b__law_same Z) (L2N.takes_of rfl rfl rfl rfl) (ga_d (IC.d (ic_callN (ok_row_plus Z) rfl (hr.mono (by decide)) (g_row_plus Z) (F_row_plus Z).kp (b_row_plus Z) (L2N.takes_of rfl rfl rfl rfl) (ga_d (ie_var (pv 1)) (ga_d (ie_var (pv 2)) ga_nil)) rfl)) (ga_d (IC.d (ic_callN (ok__law_sum_row Z) rfl (hr.mono (by decide)) (g__law_sum_row Z) (F__law_sum_row Z).kp (b__law_sum_row Z) (L2N.takes_of rfl rfl rfl rfl) (ga_d (ie_var (pv 1)) (ga_d (ie_var (pv 2)) ga_nil)) rfl)) ga_nil)) rfl)))) (is_one (is_ret ie_bl)) is_nil)
    (is_cons (is_set (i := 4) sc__law_rows.nd rfl (Or.inl rfl) (ie_callTy call_tuple_of cn_tuple (ia_cons (ie_cold (io_comp rfl sc__law_rows.nd (ii_seq (ie_var (pv 1))) (show BlkOk ["_law_feed_here", "_law_left", "_law_right", "_law_part", "_law_minor", "_law_loose", "_law_high", "_law_low", "_law_k"] (defScope s__law_rows) _ [("_law_k", 8)] from blkOk_by (by decide +kernel)) rfl (fun _ _ _ _ _ => (ig_name (pg_name sc__law_rows.nd rfl (Or.inl rfl)))) (fun _ _ _ _ _ => its_nil) (fun _ _ _ _ _ => (ie_neg (ie_var (pv 8)))))) ia_nil) rfl (fr_tuple Z) bt_tuple))
    (is_cons (is_if (IW.it (iw_or (it_not (it_truD (IC.d (ic_callN (ok__law_same Z 8) rfl (hr.mono (by decide)) (g__law_same Z) (F__law_same Z).kp (b__law_same Z) (L2N.takes_of rfl rfl rfl rfl) (ga_d (IC.d (ic_callN (ok_row_plus Z) rfl (hr.mono (by decide)) (g_row_plus Z) (F_row_plus Z).kp (b_row_plus Z) (L2N.takes_of rfl rfl rfl rfl) (ga_d (ie_var (pv 1)) (ga_d (ie_var (pv 4)) ga_nil)) rfl)) (ga_d (ie_tup ia_nil) ga_nil)) rfl)))) (iw_or1 (it_not (it_truD (IC.d (ic_callN (ok__law_same Z 8) rfl (hr.mono (by decide)) (g__law_same Z) (F__law_same Z).kp (b__law_same Z) (L2N.takes_of rfl rfl rfl rfl) (ga_d (IC.d (ic_callN (ok_row_plus Z) rfl (hr.mono (by decide)) (g_row_plus Z) (F_row_plus Z).kp (b_row_plus Z) (L2N.takes_of rfl rfl rfl rfl) (ga_d (ie_var (pv 1)) (ga_d (ie_tup ia_nil) ga_nil)) rfl)) (ga_d (ie_var (pv 1)) ga_nil)) rfl))))))) (is_one (is_ret ie_bl)) is_nil)
    (is_cons (is_if (it_cmp op_gt o2_gt (ie_callB cr_len cn_len (ia_cons (ie_var (pv 1)) ia_nil) rfl (fr_len Z) bt_len) ie_int (nobehind _ (by decide) (by decide))) (is_cons (is_set (i := 4) sc__law_rows.nd rfl (Or.inl rfl) (ie_catT (ie_tup (ia_cons (ie_sub ie_int (ie_ix (ie_var (pv 1)) ie_int)) ia_nil)) (ie_sl (ie_var (pv 4)) (ip_some ie_int) ip_none)))
      (is_one (is_if (it_not (it_truD (IC.d (ic_callN (ok__law_same Z 8) rfl (hr.mono (by decide)) (g__law_same Z) (F__law_same Z).kp (b__law_same Z) (L2N.takes_of rfl rfl rfl rfl) (ga_d (IC.d (ic_callN (ok_row_plus Z) rfl (hr.mono (by decide)) (g_row_plus Z) (F_row_plus Z).kp (b_row_plus Z) (L2N.takes_of rfl rfl rfl rfl) (ga_d (ie_var (pv 4)) (ga_d (ie_var (pv 1)) ga_nil)) rfl)) (ga_d (ie_tup (ia_cons ie_int ia_nil)) ga_nil)) rfl)))) (is_one (is_ret ie_bl)) is_nil))) is_nil)
    (is_cons (is_if (IW.it (iw_or (it_not (it_truD (IC.d (ic_callN (ok__law_product Z) rfl (hr.mono (by decide)) (g__law_product Z) (F__law_product Z).kp (b__law_product Z) (L2N.takes_of rfl rfl rfl rfl) (ga_d (IC.d (ic_callN (ok_row_times Z) rfl (hr.mono (by decide)) (g_row_times Z) (F_row_times Z).kp (b_row_times Z) (L2N.takes_of rfl rfl rfl rfl) (ga_d (ie_var (pv 1)) (ga_d (ie_var (pv 2)) ga_nil)) rfl)) (ga_d (ie_var (pv 1)) (ga_d (ie_var (pv 2)) ga_nil))) rfl)))) (iw_or1 (it_not (it_truD (IC.d (ic_callN (ok__law_same Z 8) rfl (hr.mono (by decide)) (g__law_same Z) (F__law_same Z).kp (b__law_same Z) (L2N.takes_of rfl rfl rfl rfl) (ga_d (IC.d (ic_callN (ok_row_times Z) rfl (hr.mono (by decide)) (g_row_times Z) (F_row_times Z).kp (b_row_times Z) (L2N.takes_of rfl rfl rfl rfl) (ga_d (ie_tup ia_nil) (ga_d (ie_var (pv 1)) ga_nil)) rfl)) (ga_d (ie_tup ia_nil) ga_nil)) rfl))))))) (is_one (is_ret ie_bl)) is_nil)
    (is_cons (is_set (i := 5) sc__law_rows.nd rfl (Or.inl rfl) (ie_callTy call_tuple_of cn_tuple (ia_cons (ie_cold (io_cat (ie_cold (io_comp rfl sc__law_rows.nd (ii_seq (ie_sl (ie_var (pv 1)) ip_none (ip_some ie_int))) (show BlkOk ["_law_feed_here", "_law_left", "_law_right", "_law_part", "_law_minor", "_law_loose", "_law_high", "_law_low", "_law_k"] (defScope s__law_rows) _ [("_law_k", 8)] from blkOk_by (by decide +kernel)) rfl (fun _ _ _ _ _ => (ig_name (pg_name sc__law_rows.nd rfl (Or.inl rfl)))) (fun _ _ _ _ _ => (its_one (it_cmp op_lt o2_lt (ie_callB call_abs cn_abs (ia_cons (ie_var (pv 8)) ia_nil) rfl (fr_abs Z) bt_abs) (ie_pow ie_int ie_int) (nobehind _ (by decide) (by decide))))) (fun _ _ _ _ _ => (ie_var (pv 8))))) (ie_cold (io_rep (ie_cold (io_lst (ia_cons ie_int ia_nil))) (IC.d (ic_callN (ok__law_take Z) rfl (hr.mono (by decide)) (g__law_take Z) (F__law_take Z).kp (b__law_take Z) (L2N.takes_of rfl rfl rfl rfl) (ga_s (pv 0) (ga_d ie_int ga_nil)) rfl)))))) ia_nil) rfl (fr_tuple Z) bt_tuple))
    (is_cons (is_if (it_not (it_truD (IC.d (ic_callN (ok__law_same Z 8) rfl (hr.mono (by decide)) (g__law_same Z) (F__law_same Z).kp (b__law_same Z) (L2N.takes_of rfl rfl rfl rfl) (ga_d (IC.d (ic_callN (ok_row_of Z) rfl (hr.mono (by decide)) (g_row_of Z) (F_row_of Z).kp (b_row_of Z) (L2N.takes_of rfl rfl rfl rfl) (ga_d (ie_var (pv 5)) ga_nil) rfl)) (ga_d (IC.d (ic_callN (ok__law_stripped Z) rfl (hr.mono (by decide)) (g__law_stripped Z) (F__law_stripped Z).kp (b__law_stripped Z) (L2N.takes_of rfl rfl rfl rfl) (ga_d (ie_var (pv 5)) ga_nil) rfl)) ga_nil)) rfl)))) (is_one (is_ret ie_bl)) is_nil)
    (is_cons (is_set (i := 6) sc__law_rows.nd rfl (Or.inl rfl) ie_int)
    (is_cons (is_set (i := 7) sc__law_rows.nd rfl (Or.inl rfl) ie_int)
    (is_cons (is_for (vs := [8]) (passes_of rfl) rfl (ii_seq (ie_rev (ie_var (pv 1)))) (ig_name (pg_name sc__law_rows.nd rfl (Or.inl rfl))) (is_cons (is_set (i := 6) sc__law_rows.nd rfl (Or.inl rfl) (ie_add (ie_mul (ie_var (pv 6)) (ie_ix (ie_var (pv 3)) ie_int)) (ie_mul (ie_var (pv 8)) (ie_var (pv 7)))))
      (is_one (is_set (i := 7) sc__law_rows.nd rfl (Or.inl rfl) (ie_mul (ie_var (pv 7)) (ie_ix (ie_var (pv 3)) ie_int))))))
    (is_cons (is_if (it_not (it_truD (IC.d (ic_callN (ok__law_stands Z) rfl (hr.mono (by decide)) (g__law_stands Z) (F__law_stands Z).kp (b__law_stands Z) (L2N.takes_of rfl rfl rfl rfl) (ga_d (IC.d (ic_callN (ok_row_at Z) rfl (hr.mono (by decide)) (g_row_at Z) (F_row_at Z).kp (b_row_at Z) (L2N.takes_of rfl rfl rfl rfl) (ga_d (ie_var (pv 1)) (ga_d (ie_var (pv 3)) ga_nil)) rfl)) (ga_d (ie_mul (ie_var (pv 6)) (ie_ix (ie_var (pv 3)) ie_int)) (ga_d (ie_var (pv 7)) ga_nil))) rfl)))) (is_one (is_ret ie_bl)) is_nil)
    (is_one (is_ret (ie_and (IC.d (ic_callN (ok__law_moved Z) rfl (hr.mono (by decide)) (g__law_moved Z) (F__law_moved Z).kp (b__law_moved Z) (L2N.takes_of rfl rfl rfl rfl) (ga_d (ie_var (pv 1)) (ga_d (IC.d (ic_callN (ok__law_integer Z) rfl (hr.mono (by decide)) (g__law_integer Z) (F__law_integer Z).kp (b__law_integer Z) (L2N.takes_of rfl rfl rfl rfl) (ga_s (pv 0) ga_nil) rfl)) ga_nil)) rfl)) (ie_one (IC.d (ic_callN (ok__law_same Z 8) rfl (hr.mono (by decide)) (g__law_same Z) (F__law_same Z).kp (b__law_same Z) (L2N.takes_of rfl rfl rfl rfl) (ga_d (IC.d (ic_callN (ok_sign_changes Z) rfl (hr.mono (by decide)) (g_sign_changes Z) (F_sign_changes Z).kp (b_sign_changes Z) (L2N.takes_of rfl rfl rfl rfl) (ga_d (ie_var (pv 1)) ga_nil) rfl)) (ga_d (IC.d (ic_callN (ok__law_changes Z) rfl (hr.mono (by decide)) (g__law_changes Z) (F__law_changes Z).kp (b__law_changes Z) (L2N.takes_of rfl rfl rfl rfl) (ga_d (ie_var (pv 1)) ga_nil) rfl)) ga_nil)) rfl)))))))))))))))))
abbrev s__law_refusals : Stmt := top 57
theorem sc__law_refusals : FnScope ["_law_feed_here", "_law_left", "_law_poly_here", "_law_odds", "_law_kind", "_law_odd"] ["_law_feed_here", "_law_left", "_law_poly_here"] (defScope s__law_refusals) := ⟨rfl, rfl, rfl, by decide +kernel, rfl, by decide +kernel, by decide +kernel⟩
def m__law_refusals : Fd := mDef 6 (some 0)
  (sSeq (sSet 3 (mCold (mLst (mCons (mTup (mCons (mPure (.int 2)) (mCons (mPure (.int 4)) mNil))) (mCons (mTup (mCons (mPure (.int 1)) (mCons (mPure (.int 0)) mNil))) (mCons (mTup (mCons (mPure (.int 1)) (mCons (mUn fNeg (mPure (.int 1))) mNil))) (mCons (mTup (mCons (mPure (.bool true)) (mCons (mPure (.int 1)) mNil))) (mCons (mTup (mCons (mPure (.int 1)) (mCons (mPure (.bool true)) mNil))) (mCons (mCold (mLst (mCons (mPure (.int 1)) (mCons (mPure (.int 2)) mNil)))) (mCons (mTup (mCons (mPure (.int 1)) mNil)) (mCons (mTup (mCons (mPure (.int 1)) (mCons (mPure (.int 2)) (mCons (mPure (.int 3)) mNil)))) (mCons (mPure .none) (mCons (mPure (.int 5)) (mCons (mPure (.str "12")) (mCons (mTup (mCons (mTup (mCons (mPure (.int 1)) (mCons (mPure (.int 2)) mNil))) (mCons (mPure (.int 1)) mNil))) mNil)))))))))))))))
    (sSeq (sSet 3 (mCold (mBinO fCatL (mVar 3) (mCold (mLst (mCons (mTup (mCons (mPure (.int 0)) (mCons (mPure (.int 2)) mNil))) (mCons (mTup (mCons (mUn fNeg (mPure (.int 2))) (mCons (mPure (.int 2)) mNil))) (mCons (mTup (mCons (mPure (.bool false)) (mCons (mPure (.int 1)) mNil))) (mCons (mTup mNil) mNil)))))))))
    (sSeq (sFor (mRange1 (mCons (mPure (.int 5)) mNil)) (pName 4) (sSeq (sSet 5 (mBin fIx (mVar 3) (asD (mCall 2 m__law_take (some 0) (gConsS 0 (gConsD (mPure (.int 16)) gNilA))))))
      (sSeq (sIf (mOr (mNot (mTruD (asD (mCall 4 m__law_refuses none (gConsD (mVar 4) (gConsD (mVar 5) (gConsD (mVar 1) (gConsD (mPure (.str "one")) gNilA)))))))) (mNot (mTruD (asD (mCall 4 m__law_refuses none (gConsD (mVar 4) (gConsD (mVar 5) (gConsD (mPure .none) (gConsD (mPure (.str "one")) gNilA))))))))) (sRet (mPure (.bool false))) sSkip)
      (sIf (mNot (mTruD (asD (mCall 4 m__law_refuses none (gConsD (mVar 4) (gConsD (mVar 1) (gConsD (mVar 5) (gConsD (mPure (.str "other")) gNilA)))))))) (sRet (mPure (.bool false))) sSkip))))
    (sSeq (sIf (mOr (mNot (mTruD (asD (mCall 4 m__law_refuses none (gConsD (mPure (.int 8)) (gConsD (mVar 2) (gConsD (mBin fIx (mVar 3) (asD (mCall 2 m__law_take (some 0) (gConsS 0 (gConsD (mPure (.int 16)) gNilA))))) (gConsD (mPure (.str "value")) gNilA)))))))) (mNot (mTruD (asD (mCall 4 m__law_refuses none (gConsD (mPure (.int 3)) (gConsD (mVar 1) (gConsD (mTup (mCons (mPure (.int 0)) (mCons (mPure (.int 1)) mNil))) (gConsD (mPure (.str "other")) gNilA))))))))) (sRet (mPure (.bool false))) sSkip)
    (sSeq (sSet 5 (mBin fIx (mCold (mLst (mCons (mPure (.bool true)) (mCons (mPure .none) (mCons (mPure (.str "3")) (mCons (mTup (mCons (mPure (.int 1)) mNil)) (mCons (mCold (mLst mNil)) (mCons (mPure (.bool false)) (mCons (mCold (mLst (mCons (mPure (.int 1)) mNil))) mNil))))))))) (asD (mCall 2 m__law_take (some 0) (gConsS 0 (gConsD (mPure (.int 7)) gNilA))))))
    (sSeq (sIf (mOr (mNot (mTruD (asD (mCall 4 m__law_refuses none (gConsD (mPure (.int 5)) (gConsD (mVar 5) (gConsD (mPure (.int 0)) (gConsD (mPure (.str "top")) gNilA)))))))) (mNot (mTruD (asD (mCall 4 m__law_refuses none (gConsD (mPure (.int 5)) (gConsD (mPure (.int 3)) (gConsD (mVar 5) (gConsD (mPure (.str "bottom")) gNilA))))))))) (sRet (mPure (.bool false))) sSkip)
    (sSeq (sIf (mOr (mNot (mTruD (asD (mCall 4 m__law_refuses none (gConsD (mPure (.int 5)) (gConsD (mBin fIx (mVar 1) (mPure (.int 0))) (gConsD (mPure (.int 0)) (gConsD (mPure (.str "bottom")) gNilA)))))))) (mNot (mTruD (asD (mCall 4 m__law_refuses none (gConsD (mPure (.int 9)) (gConsD (mVar 2) (gConsD (mVar 5) (gConsD (mPure (.str "by")) gNilA))))))))) (sRet (mPure (.bool false))) sSkip)
    (sSeq (sSet 3 (mCold (mLst (mCons (mTup (mCons (mPure (.int 0)) mNil)) (mCons (mTup (mCons (mPure (.int 1)) (mCons (mPure (.int 0)) mNil))) (mCons (mCold (mLst (mCons (mPure (.int 1)) mNil))) (mCons (mTup (mCons (mPure (.bool true)) mNil)) (mCons (mTup (mCons (mPure (.int 1)) (mCons (mPure (.bool true)) mNil))) (mCons (mPure .none) (mCons (mPure (.int 3)) (mCons (mPure (.str "1")) (mCons (mTup (mCons (mTup (mCons (mPure (.int 1)) mNil)) mNil)) (mCons (mTup (mCons (mPure (.str "1")) mNil)) (mCons (mTup (mCons (mPure (.int 1)) (mCons (mPure .none) (mCons (mPure (.int 2)) mNil)))) mNil))))))))))))))
    (sSeq (sSet 5 (mBin fIx (mVar 3) (asD (mCall 2 m__law_take (some 0) (gConsS 0 (gConsD (mPure (.int 11)) gNilA))))))
    (sSeq (sIf (mOr (mNot (mTruD (asD (mCall 4 m__law_refuses none (gConsD (mPure (.int 6)) (gConsD (mVar 2) (gConsD (mVar 5) (gConsD (mPure (.str "other")) gNilA)))))))) (mNot (mTruD (asD (mCall 4 m__law_refuses none (gConsD (mPure (.int 7)) (gConsD (mVar 2) (gConsD (mVar 5) (gConsD (mPure (.str "other")) gNilA))))))))) (sRet (mPure (.bool false))) sSkip)
    (sRet (asD (mCall 4 m__law_refuses none (gConsD (mPure (.int 10)) (gConsD (mPure (.int 0)) (gConsD (mBin fIx (mVar 3) (mBin fAdd (mPure (.int 2)) (asD (mCall 2 m__law_take (some 0) (gConsS 0 (gConsD (mPure (.int 9)) gNilA)))))) (gConsD (mPure (.str "numbers")) gNilA)))))))))))))))))
theorem ok__law_refusals (Z : Cz K mg txE fdf) : FnOk P w K mg base (L2N.CX P w) 10 (He.ga K "_law_refusals") (fdf "_law_refusals") ["_law_feed_here", "_law_left", "_law_poly_here"] (spOf K (cAd K) 3 (some 0) m__law_refusals) :=
  def_okN (F__law_refusals Z) sc__law_refusals rfl (fun i h => by cases h <;> decide) fun cdv A outer s H E hr => 
  (is_cons (is_set (i := 3) sc__law_refusals.nd rfl (Or.inl rfl) (ie_cold (io_lst (ia_cons (ie_tup (ia_cons ie_int (ia_cons ie_int ia_nil))) (ia_cons (ie_tup (ia_cons ie_int (ia_cons ie_int ia_nil))) (ia_cons (ie_tup (ia_cons ie_int (ia_cons (ie_neg ie_int) ia_nil))) (ia_cons (ie_tup (ia_cons ie_bl (ia_cons ie_int ia_nil))) (ia_cons (ie_tup (ia_cons ie_int (ia_cons ie_bl ia_nil))) (ia_cons (ie_cold (io_lst (ia_cons ie_int (ia_cons ie_int ia_nil)))) (ia_cons (ie_tup (ia_cons ie_int ia_nil)) (ia_cons (ie_tup (ia_cons ie_int (ia_cons ie_int (ia_cons ie_int ia_nil)))) (ia_cons ie_non (ia_cons ie_int (ia_cons ie_str (ia_cons (ie_tup (ia_cons (ie_tup (ia_cons ie_int (ia_cons ie_int ia_nil))) (ia_cons ie_int ia_nil))) ia_nil)))))))))))))))
    (is_cons (is_set (i := 3) sc__law_refusals.nd rfl (Or.inl rfl) (ie_cold (io_cat (ie_var (pv 3)) (ie_cold (io_lst (ia_cons (ie_tup (ia_cons ie_int (ia_cons ie_int ia_nil))) (ia_cons (ie_tup (ia_cons (ie_neg ie_int) (ia_cons ie_int ia_nil))) (ia_cons (ie_tup (ia_cons ie_bl (ia_cons ie_int ia_nil))) (ia_cons (ie_tup ia_nil) ia_nil)))))))))
    (is_cons (is_for (vs := [4]) (passes_of rfl) rfl (ii_range1 rfl (fr_range Z) (ia_cons ie_int ia_nil)) (ig_name (pg_name sc__law_refusals.nd rfl (Or.inl rfl))) (is_cons (is_set (i := 5) sc__law_refusals.nd rfl (Or.inl rfl) (ie_ix (ie_var (pv 3)) (IC.d (ic_callN (ok__law_take Z) rfl (hr.mono (by decide)) (g__law_take Z) (F__law_take Z).kp (b__law_take Z) (L2N.takes_of rfl rfl rfl rfl) (ga_s (pv 0) (ga_d ie_int ga_nil)) rfl))))
      (is_cons (is_if (IW.it (iw_or (it_not (it_truD (IC.d (ic_callN (ok__law_refuses Z) rfl (hr.mono (by decide)) (g__law_refuses Z) (F__law_refuses Z).kp (b__law_refuses Z) (L2N.takes_of rfl rfl rfl rfl) (ga_d (ie_var (pv 4)) (ga_d (ie_var (pv 5)) (ga_d (ie_var (pv 1)) (ga_d ie_str ga_nil)))) rfl)))) (iw_or1 (it_not (it_truD (IC.d (ic_callN (ok__law_refuses Z) rfl (hr.mono (by decide)) (g__law_refuses Z) (F__law_refuses Z).kp (b__law_refuses Z) (L2N.takes_of rfl rfl rfl rfl) (ga_d (ie_var (pv 4)) (ga_d (ie_var (pv 5)) (ga_d ie_non (ga_d ie_str ga_nil)))) rfl))))))) (is_one (is_ret ie_bl)) is_nil)
      (is_one (is_if (it_not (it_truD (IC.d (ic_callN (ok__law_refuses Z) rfl (hr.mono (by decide)) (g__law_refuses Z) (F__law_refuses Z).kp (b__law_refuses Z) (L2N.takes_of rfl rfl rfl rfl) (ga_d (ie_var (pv 4)) (ga_d (ie_var (pv 1)) (ga_d (ie_var (pv 5)) (ga_d ie_str ga_nil)))) rfl)))) (is_one (is_ret ie_bl)) is_nil)))))
    (is_cons (is_if (IW.it (iw_or (it_not (it_truD (IC.d (ic_callN (ok__law_refuses Z) rfl (hr.mono (by decide)) (g__law_refuses Z) (F__law_refuses Z).kp (b__law_refuses Z) (L2N.takes_of rfl rfl rfl rfl) (ga_d ie_int (ga_d (ie_var (pv 2)) (ga_d (ie_ix (ie_var (pv 3)) (IC.d (ic_callN (ok__law_take Z) rfl (hr.mono (by decide)) (g__law_take Z) (F__law_take Z).kp (b__law_take Z) (L2N.takes_of rfl rfl rfl rfl) (ga_s (pv 0) (ga_d ie_int ga_nil)) rfl))) (ga_d ie_str ga_nil)))) rfl)))) (iw_or1 (it_not (it_truD (IC.d (ic_callN (ok__law_refuses Z) rfl (hr.mono (by decide)) (g__law_refuses Z) (F__law_refuses Z).kp (b__law_refuses Z) (L2N.takes_of rfl rfl rfl rfl) (ga_d ie_int (ga_d (ie_var (pv 1)) (ga_d (ie_tup (ia_cons ie_int (ia_cons ie_int ia_nil))) (ga_d ie_str ga_nil)))) rfl))))))) (is_one (is_ret ie_bl)) is_nil)
    (is_cons (is_set (i := 5) sc__law_refusals.nd rfl (Or.inl rfl) (ie_ix (ie_cold (io_lst (ia_cons ie_bl (ia_cons ie_non (ia_cons ie_str (ia_cons (ie_tup (ia_cons ie_int ia_nil)) (ia_cons (ie_cold (io_lst ia_nil)) (ia_cons ie_bl (ia_cons (ie_cold (io_lst (ia_cons ie_int ia_nil))) ia_nil))))))))) (IC.d (ic_callN (ok__law_take Z) rfl (hr.mono (by decide)) (g__law_take Z) (F__law_take Z).kp (b__law_take Z) (L2N.takes_of rfl rfl rfl rfl) (ga_s (pv 0) (ga_d ie_int ga_nil)) rfl))))
    (is_cons (is_if (IW.it (iw_or (it_not (it_truD (IC.d (ic_callN (ok__law_refuses Z) rfl (hr.mono (by decide)) (g__law_refuses Z) (F__law_refuses Z).kp (b__law_refuses Z) (L2N.takes_of rfl rfl rfl rfl) (ga_d ie_int (ga_d (ie_var (pv 5)) (ga_d ie_int (ga_d ie_str ga_nil)))) rfl)))) (iw_or1 (it_not (it_truD (IC.d (ic_callN (ok__law_refuses Z) rfl (hr.mono (by decide)) (g__law_refuses Z) (F__law_refuses Z).kp (b__law_refuses Z) (L2N.takes_of rfl rfl rfl rfl) (ga_d ie_int (ga_d ie_int (ga_d (ie_var (pv 5)) (ga_d ie_str ga_nil)))) rfl))))))) (is_one (is_ret ie_bl)) is_nil)
    (is_cons (is_if (IW.it (iw_or (it_not (it_truD (IC.d (ic_callN (ok__law_refuses Z) rfl (hr.mono (by decide)) (g__law_refuses Z) (F__law_refuses Z).kp (b__law_refuses Z) (L2N.takes_of rfl rfl rfl rfl) (ga_d ie_int (ga_d (ie_ix (ie_var (pv 1)) ie_int) (ga_d ie_int (ga_d ie_str ga_nil)))) rfl)))) (iw_or1 (it_not (it_truD (IC.d (ic_callN (ok__law_refuses Z) rfl (hr.mono (by decide)) (g__law_refuses Z) (F__law_refuses Z).kp (b__law_refuses Z) (L2N.takes_of rfl rfl rfl rfl) (ga_d ie_int (ga_d (ie_var (pv 2)) (ga_d (ie_var (pv 5)) (ga_d ie_str ga_nil)))) rfl))))))) (is_one (is_ret ie_bl)) is_nil)
    (is_cons (is_set (i := 3) sc__law_refusals.nd rfl (Or.inl rfl) (ie_cold (io_lst (ia_cons (ie_tup (ia_cons ie_int ia_nil)) (ia_cons (ie_tup (ia_cons ie_int (ia_cons ie_int ia_nil))) (ia_cons (ie_cold (io_lst (ia_cons ie_int ia_nil))) (ia_cons (ie_tup (ia_cons ie_bl ia_nil)) (ia_cons (ie_tup (ia_cons ie_int (ia_cons ie_bl ia_nil))) (ia_cons ie_non (ia_cons ie_int (ia_cons ie_str (ia_cons (ie_tup (ia_cons (ie_tup (ia_cons ie_int ia_nil)) ia_nil)) (ia_cons (ie_tup (ia_cons ie_str ia_nil)) (ia_cons (ie_tup (ia_cons ie_int (ia_cons ie_non (ia_cons ie_int ia_nil)))) ia_nil))))))))))))))
    (is_cons (is_set (i := 5) sc__law_refusals.nd rfl (Or.inl rfl) (ie_ix (ie_var (pv 3)) (IC.d (ic_callN (ok__law_take Z) rfl (hr.mono (by decide)) (g__law_take Z) (F__law_take Z).kp (b__law_take Z) (L2N.takes_of rfl rfl rfl rfl) (ga_s (pv 0) (ga_d ie_int ga_nil)) rfl))))
    (is_cons (is_if (IW.it (iw_or (it_not (it_truD (IC.d (ic_callN (ok__law_refuses Z) rfl (hr.mono (by decide)) (g__law_refuses Z) (F__law_refuses Z).kp (b__law_refuses Z) (L2N.takes_of rfl rfl rfl rfl) (ga_d ie_int (ga_d (ie_var (pv 2)) (ga_d (ie_var (pv 5)) (ga_d ie_str ga_nil)))) rfl)))) (iw_or1 (it_not (it_truD (IC.d (ic_callN (ok__law_refuses Z) rfl (hr.mono (by decide)) (g__law_refuses Z) (F__law_refuses Z).kp (b__law_refuses Z) (L2N.takes_of rfl rfl rfl rfl) (ga_d ie_int (ga_d (ie_var (pv 2)) (ga_d (ie_var (pv 5)) (ga_d ie_str ga_nil)))) rfl))))))) (is_one (is_ret ie_bl)) is_nil)
    (is_one (is_ret (IC.d (ic_callN (ok__law_refuses Z) rfl (hr.mono (by decide)) (g__law_refuses Z) (F__law_refuses Z).kp (b__law_refuses Z) (L2N.takes_of rfl rfl rfl rfl) (ga_d ie_int (ga_d ie_int (ga_d (ie_ix (ie_var (pv 3)) (ie_add ie_int (IC.d (ic_callN (ok__law_take Z) rfl (hr.mono (by decide)) (g__law_take Z) (F__law_take Z).kp (b__law_take Z) (L2N.takes_of rfl rfl rfl rfl) (ga_s (pv 0) (ga_d ie_int ga_nil)) rfl)))) (ga_d ie_str ga_nil)))) rfl))))))))))))))
abbrev s_law : Stmt := top 59
theorem sc_law : FnScope ["_law_script", "_law_feed_here", "_law_left", "_law_near", "_law_great", "_law_poly_here", "_law_pair"] ["_law_script"] (defScope s_law) := ⟨rfl, rfl, rfl, by decide +kernel, rfl, by decide +kernel, by decide +kernel⟩
def m_law : Fd := mDef 7 none
  (sSeq (sSetO 1 (asO (mCall 1 m__law_feed none (gConsD (mVar 0) gNilA))))
    (sSeq (sSet 2 (asD (mCall 1 m__law_quotient (some 0) (gConsS 1 gNilA))))
    (sSeq (sSet 3 (asD (mCall 1 m__law_quotient (some 0) (gConsS 1 gNilA))))
    (sSeq (sSet 4 (mBin fEq (asD (mCall 2 m__law_take (some 0) (gConsS 1 (gConsD (mPure (.int 8)) gNilA)))) (mPure (.int 5))))
    (sSeq (sSet 5 (asD (mCall 2 m__law_poly (some 0) (gConsS 1 (gConsD (mVar 4) gNilA)))))
    (sSeq (sSet 6 (asD (mCall 2 m__law_poly (some 0) (gConsS 1 (gConsD (mPure (.bool false)) gNilA)))))
    (sSeq (sIf (mOr (mNot (mTruD (asD (mCall 3 m__law_quotients (some 0) (gConsS 1 (gConsD (mVar 2) (gConsD (mVar 3) gNilA))))))) (mNot (mTruD (asD (mCall 3 m__law_quotients (some 0) (gConsS 1 (gConsD (mVar 3) (gConsD (mVar 2) gNilA)))))))) (sRet (mPure (.bool false))) sSkip)
    (sSeq (sIf (mOr (mNot (mTruD (asD (mCall 4 m__law_rows (some 0) (gConsS 1 (gConsD (mVar 5) (gConsD (mVar 6) (gConsD (mVar 2) gNilA)))))))) (mNot (mTruD (asD (mCall 4 m__law_rows (some 0) (gConsS 1 (gConsD (mVar 6) (gConsD (mVar 5) (gConsD (mVar 3) gNilA))))))))) (sRet (mPure (.bool false))) sSkip)
    (sSeq (sIf (mOr (mNot (mTruD (asD (mCall 3 m__law_refusals (some 0) (gConsS 1 (gConsD (mVar 2) (gConsD (mVar 5) gNilA))))))) (mNot (mTruD (asD (mCall 4 m__law_by_name none (gConsD (mVar 2) (gConsD (mVar 3) (gConsD (mVar 5) (gConsD (mVar 6) gNilA))))))))) (sRet (mPure (.bool false))) sSkip)
    (sRet (asD (mCall 4 m__law_rows (some 0) (gConsS 1 (gConsD (mVar 5) (gConsD (mVar 6) (gConsD (mVar 3) gNilA))))))))))))))))
theorem ok_law (Z : Cz K mg txE fdf) : FnOk P w K mg base (L2N.CX P w) 11 (He.ga K "law") (fdf "law") ["_law_script"] (spOf K (cAd K) 1 none m_law) :=
  def_okN (F_law Z) sc_law rfl (fun i h => by cases h) fun cdv A outer s H E hr => 
  (is_cons (is_setO (i := 1) sc_law.nd rfl (Or.inl rfl) (IC.o (ic_callN (ok__law_feed Z) rfl (hr.mono (by decide)) (g__law_feed Z) (F__law_feed Z).kp (b__law_feed Z) (L2N.takes_of rfl rfl rfl rfl) (ga_d (ie_var (pv 0)) ga_nil) rfl)))
    (is_cons (is_set (i := 2) sc_law.nd rfl (Or.inl rfl) (IC.d (ic_callN (ok__law_quotient Z) rfl (hr.mono (by decide)) (g__law_quotient Z) (F__law_quotient Z).kp (b__law_quotient Z) (L2N.takes_of rfl rfl rfl rfl) (ga_s (pv 1) ga_nil) rfl)))
    (is_cons (is_set (i := 3) sc_law.nd rfl (Or.inl rfl) (IC.d (ic_callN (ok__law_quotient Z) rfl (hr.mono (by decide)) (g__law_quotient Z) (F__law_quotient Z).kp (b__law_quotient Z) (L2N.takes_of rfl rfl rfl rfl) (ga_s (pv 1) ga_nil) rfl)))
    (is_cons (is_set (i := 4) sc_law.nd rfl (Or.inl rfl) (ie_cmp (op_eqU hr.units) o2_eq (IC.d (ic_callN (ok__law_take Z) rfl (hr.mono (by decide)) (g__law_take Z) (F__law_take Z).kp (b__law_take Z) (L2N.takes_of rfl rfl rfl rfl) (ga_s (pv 1) (ga_d ie_int ga_nil)) rfl)) ie_int (nobehind _ (by decide) (by decide))))
    (is_cons (is_set (i := 5) sc_law.nd rfl (Or.inl rfl) (IC.d (ic_callN (ok__law_poly Z) rfl (hr.mono (by decide)) (g__law_poly Z) (F__law_poly Z).kp (b__law_poly Z) (L2N.takes_of rfl rfl rfl rfl) (ga_s (pv 1) (ga_d (ie_var (pv 4)) ga_nil)) rfl)))
    (is_cons (is_set (i := 6) sc_law.nd rfl (Or.inl rfl) (IC.d (ic_callN (ok__law_poly Z) rfl (hr.mono (by decide)) (g__law_poly Z) (F__law_poly Z).kp (b__law_poly Z) (L2N.takes_of rfl rfl rfl rfl) (ga_s (pv 1) (ga_d ie_bl ga_nil)) rfl)))
    (is_cons (is_if (IW.it (iw_or (it_not (it_truD (IC.d (ic_callN (ok__law_quotients Z) rfl (hr.mono (by decide)) (g__law_quotients Z) (F__law_quotients Z).kp (b__law_quotients Z) (L2N.takes_of rfl rfl rfl rfl) (ga_s (pv 1) (ga_d (ie_var (pv 2)) (ga_d (ie_var (pv 3)) ga_nil))) rfl)))) (iw_or1 (it_not (it_truD (IC.d (ic_callN (ok__law_quotients Z) rfl (hr.mono (by decide)) (g__law_quotients Z) (F__law_quotients Z).kp (b__law_quotients Z) (L2N.takes_of rfl rfl rfl rfl) (ga_s (pv 1) (ga_d (ie_var (pv 3)) (ga_d (ie_var (pv 2)) ga_nil))) rfl))))))) (is_one (is_ret ie_bl)) is_nil)
    (is_cons (is_if (IW.it (iw_or (it_not (it_truD (IC.d (ic_callN (ok__law_rows Z) rfl (hr.mono (by decide)) (g__law_rows Z) (F__law_rows Z).kp (b__law_rows Z) (L2N.takes_of rfl rfl rfl rfl) (ga_s (pv 1) (ga_d (ie_var (pv 5)) (ga_d (ie_var (pv 6)) (ga_d (ie_var (pv 2)) ga_nil)))) rfl)))) (iw_or1 (it_not (it_truD (IC.d (ic_callN (ok__law_rows Z) rfl (hr.mono (by decide)) (g__law_rows Z) (F__law_rows Z).kp (b__law_rows Z) (L2N.takes_of rfl rfl rfl rfl) (ga_s (pv 1) (ga_d (ie_var (pv 6)) (ga_d (ie_var (pv 5)) (ga_d (ie_var (pv 3)) ga_nil)))) rfl))))))) (is_one (is_ret ie_bl)) is_nil)
    (is_cons (is_if (IW.it (iw_or (it_not (it_truD (IC.d (ic_callN (ok__law_refusals Z) rfl (hr.mono (by decide)) (g__law_refusals Z) (F__law_refusals Z).kp (b__law_refusals Z) (L2N.takes_of rfl rfl rfl rfl) (ga_s (pv 1) (ga_d (ie_var (pv 2)) (ga_d (ie_var (pv 5)) ga_nil))) rfl)))) (iw_or1 (it_not (it_truD (IC.d (ic_callN (ok__law_by_name Z) rfl (hr.mono (by decide)) (g__law_by_name Z) (F__law_by_name Z).kp (b__law_by_name Z) (L2N.takes_of rfl rfl rfl rfl) (ga_d (ie_var (pv 2)) (ga_d (ie_var (pv 3)) (ga_d (ie_var (pv 5)) (ga_d (ie_var (pv 6)) ga_nil)))) rfl))))))) (is_one (is_ret ie_bl)) is_nil)
    (is_one (is_ret (IC.d (ic_callN (ok__law_rows Z) rfl (hr.mono (by decide)) (g__law_rows Z) (F__law_rows Z).kp (b__law_rows Z) (L2N.takes_of rfl rfl rfl rfl) (ga_s (pv 1) (ga_d (ie_var (pv 5)) (ga_d (ie_var (pv 6)) (ga_d (ie_var (pv 3)) ga_nil)))) rfl)))))))))))))
end pw_threadsround_k01_whole_quotients_and_rowG

set_option Elab.async false
set_option linter.all false
set_option maxRecDepth 100000
set_option maxHeartbeats 400000
namespace Pu
open PySem PySem.Spec L2
/-! rows as polynomials -/
def ev : List Int → Int → Int
  | [], _ => 0
  | a :: r, x => a + x * ev r x
def Row (ns : List Int) : Prop := ns.getLast? ≠ some 0
theorem row_c {A : List Int} {z : Int} (h : z ≠ 0) : Row (A ++ [z]) := by
  unfold Row
  rw [List.getLast?_concat]
  intro e
  cases e
  exact h rfl
theorem row_n : Row [] := by unfold Row; simp
theorem row_last {A : List Int} {z : Int} (h : Row (A ++ [z])) : z ≠ 0 := by
  intro e
  subst e
  unfold Row at h
  rw [List.getLast?_concat] at h
  exact h rfl
theorem row_tail {a : Int} {r : List Int} (h : Row (a :: r)) : Row r := by
  cases r with
  | nil => exact row_n
  | cons b s =>
    unfold Row at *
    rw [List.getLast?_cons_cons] at h
    exact h
theorem small_dvd {a x : Int} (h : x ∣ a) (hx : a.natAbs < x) : a = 0 := by
  refine Decidable.byContradiction fun h0 => ?_
  have := Int.natAbs_dvd_natAbs.mpr h
  have := Nat.le_of_dvd (by omega) this
  omega
/-- what is nought at all great numbers has noughts alone -/
theorem ev_zero : ∀ (b : List Int) (N : Int), 1 ≤ N → (∀ x, N ≤ x → ev b x = 0) → ∀ y ∈ b, y = 0
  | [], _, _, _, y, h => by cases h
  | b :: s, N, hN, h, y, hy => by
    have h0 : b = 0 := by
      have e := h (N + b.natAbs) (by omega)
      unfold ev at e
      refine small_dvd (x := N + b.natAbs) ⟨-ev s (N + b.natAbs), ?_⟩ (by omega)
      rw [Int.mul_neg]
      omega
    rcases List.mem_cons.mp hy with e | e
    · rw [e]; exact h0
    · refine ev_zero s N hN (fun x hx => ?_) y e
      have e := h x hx
      unfold ev at e
      rw [h0, Int.zero_add] at e
      rcases Int.mul_eq_zero.mp e with z | z
      · omega
      · exact z
theorem row_zero {b : List Int} (h : Row b) (h0 : ∀ y ∈ b, y = 0) : b = [] := by
  rcases List.eq_nil_or_concat b with e | ⟨A, z, e⟩
  · exact e
  · rw [List.concat_eq_append] at e
    subst e
    exact absurd (h0 z (List.mem_append_right _ (List.mem_singleton_self z))) (row_last h)
/-- one polynomial has one row -/
theorem ev_uniq : ∀ (a b : List Int) (N : Int), 1 ≤ N → Row a → Row b → (∀ x, N ≤ x → ev a x = ev b x) → a = b
  | [], b, N, hN, ha, hb, h => (row_zero hb (ev_zero b N hN fun x hx => (h x hx).symm)).symm
  | a :: r, [], N, hN, ha, hb, h => row_zero ha (ev_zero (a :: r) N hN fun x hx => h x hx)
  | a :: r, b :: s, N, hN, ha, hb, h => by
    have h0 : a = b := by
      have e := h (N + (a - b).natAbs) (by omega)
      unfold ev at e
      have := small_dvd (a := a - b) (x := N + (a - b).natAbs) ⟨ev s (N + (a - b).natAbs) - ev r (N + (a - b).natAbs), by rw [Int.mul_sub]; omega⟩ (by omega)
      omega
    subst h0
    have := ev_uniq r s N hN (row_tail ha) (row_tail hb) fun x hx => by
      have e := h x hx
      unfold ev at e
      have e2 : x * ev r x = x * ev s x := by omega
      exact Int.eq_of_mul_eq_mul_left (by omega) e2
    rw [this]
theorem ev_app : ∀ (a b : List Int) (x : Int), ev (a ++ b) x = ev a x + x ^ a.length * ev b x
  | [], b, x => by simp [ev]
  | c :: r, b, x => by
    show c + x * ev (r ++ b) x = c + x * ev r x + x ^ (r.length + 1) * ev b x
    rw [ev_app r b x, Int.mul_add, Int.pow_succ, Int.mul_comm (x ^ r.length) x, Int.mul_assoc]
    omega
theorem ev_noughts : ∀ (b : List Int) (x : Int), (∀ y ∈ b, y = 0) → ev b x = 0
  | [], _, _ => rfl
  | c :: r, x, h => by
    unfold ev
    rw [h c (List.mem_cons_self ..), ev_noughts r x fun y hy => h y (List.mem_cons_of_mem _ hy), Int.mul_zero]
    rfl
/-- without the noughts at its end -/
theorem ev_take {ns : List Int} {m : Nat} (h : ∀ y ∈ ns.drop m, y = 0) (x : Int) : ev (ns.take m) x = ev ns x := by
  conv => rhs; rw [← List.take_append_drop m ns]
  rw [ev_app, ev_noughts _ x h, Int.mul_zero, Int.add_zero]
/-- one number made greater -/
theorem ev_set : ∀ (ns : List Int) (k : Nat) (y x : Int), (hk : k < ns.length) → ev (ns.set k (ns[k] + y)) x = ev ns x + x ^ k * y
  | c :: r, 0, y, x, _ => by
    show c + y + x * ev r x = c + x * ev r x + x ^ 0 * y
    rw [Int.pow_zero, Int.one_mul]
    omega
  | c :: r, k + 1, y, x, h => by
    show c + x * ev (r.set k (r[k]'(by simpa using h) + y)) x = c + x * ev r x + x ^ (k + 1) * y
    rw [ev_set r k y x (by simpa using h), Int.mul_add, Int.pow_succ, Int.mul_comm (x ^ k) x, Int.mul_assoc]
    omega
theorem ev_rep (n : Nat) (x : Int) : ev (List.replicate n 0) x = 0 := ev_noughts _ x fun y h => (List.mem_replicate.mp h).2
/-- the sum of all, made positive -/
def sab : List Int → Int
  | [] => 0
  | a :: r => (a.natAbs : Int) + sab r
theorem sab_nn : ∀ ns : List Int, 0 ≤ sab ns
  | [] => Int.le_refl 0
  | a :: r => by unfold sab; have := sab_nn r; omega
theorem sab_set : ∀ (ns : List Int) (k : Nat) (y : Int), (hk : k < ns.length) → sab (ns.set k (ns[k] + y)) ≤ sab ns + y.natAbs
  | c :: r, 0, y, _ => by
    show ((c + y).natAbs : Int) + sab r ≤ (c.natAbs : Int) + sab r + y.natAbs
    omega
  | c :: r, k + 1, y, h => by
    show (c.natAbs : Int) + sab (r.set k (r[k]'(by simpa using h) + y)) ≤ (c.natAbs : Int) + sab r + y.natAbs
    have := sab_set r k y (by simpa using h)
    omega
theorem sab_mem : ∀ (ns : List Int) (y : Int), y ∈ ns → (y.natAbs : Int) ≤ sab ns
  | a :: r, y, h => by
    unfold sab
    have := sab_nn r
    rcases List.mem_cons.mp h with e | e
    · rw [e]; omega
    · have := sab_mem r y e; omega
theorem sab_take : ∀ (ns : List Int) (m : Nat), sab (ns.take m) ≤ sab ns
  | [], m => by rw [List.take_nil]; exact Int.le_refl _
  | a :: r, 0 => sab_nn (a :: r)
  | a :: r, m + 1 => by
    show (a.natAbs : Int) + sab (r.take m) ≤ (a.natAbs : Int) + sab r
    have := sab_take r m
    omega
theorem sab_rep : ∀ n : Nat, sab (List.replicate n 0) = 0
  | 0 => rfl
  | n + 1 => by rw [List.replicate_succ]; unfold sab; rw [sab_rep n]; rfl
end Pu

set_option Elab.async false
set_option linter.all false
set_option maxRecDepth 100000
set_option maxHeartbeats 400000
namespace pw_threadsround_k01_whole_quotients_and_rowG
open PySem PySem.Spec L2 Pu
/-- what the feed holds -/
structure Fe where
  scr : List Int
  spot : Int
  left : Int
  seed : Int
def Fe.ds (F : Fe) : List D := [.list (F.scr.map PyData.int), .int F.spot, .int F.left, .int F.seed]
def Fe.oo (F : Fe) : OO := .lst F.ds
structure Fe.ok (F : Fe) : Prop where
  l : 0 ≤ F.left
  s : 0 ≤ F.seed ∧ F.seed < 2147483647
  p : 0 ≤ F.spot
def cell (F : Fe) : Int := (F.scr[F.spot.toNat]?).getD 0
def wideN (c : Int) : Int := ((if c < 0 then -c else c) + 271828182845904) % 10 ^ 60
def nextS (F : Fe) : Int := (F.seed * 30269 + cell F * 4507 + F.spot * 1201 + 59) % 2147483647
def numN (s : Int) : Int := (s * 45991 + s / 619) % 2147483399
theorem ds0 (F : Fe) : hIx F.ds (.int 0) = some (.list (F.scr.map PyData.int)) := rfl
theorem ds1 (F : Fe) : hIx F.ds (.int 1) = some (.int F.spot) := rfl
theorem ds2 (F : Fe) : hIx F.ds (.int 2) = some (.int F.left) := rfl
theorem ds3 (F : Fe) : hIx F.ds (.int 3) = some (.int F.seed) := rfl
theorem st1 {F : Fe} {x : Int} {σ : Pu.Loc} : putStep 0 (.int x) (.int 1) σ F.ds = .nx (σ.set 0 (some (.o (.lst (Fe.ds { F with spot := x }))))) := rfl
theorem st2 {F : Fe} {x : Int} {σ : Pu.Loc} : putStep 0 (.int x) (.int 2) σ F.ds = .nx (σ.set 0 (some (.o (.lst (Fe.ds { F with left := x }))))) := rfl
theorem st3 {F : Fe} {x : Int} {σ : Pu.Loc} : putStep 0 (.int x) (.int 3) σ F.ds = .nx (σ.set 0 (some (.o (.lst (Fe.ds { F with seed := x }))))) := rfl
theorem c1 (a : Int) : fMul (.int a) (.int 30269) = some (.int (a * 30269)) := mul_f (.inr (by decide))
theorem c2 (a : Int) : fMul (.int a) (.int 4507) = some (.int (a * 4507)) := mul_f (.inr (by decide))
theorem c3 (a : Int) : fMul (.int a) (.int 1201) = some (.int (a * 1201)) := mul_f (.inr (by decide))
theorem c4 (a : Int) : fMul (.int a) (.int 45991) = some (.int (a * 45991)) := mul_f (.inr (by decide))
theorem c5 (a : Int) : fMod (.int a) (.int 2147483647) = some (.int (a % 2147483647)) := mod_f (by decide)
theorem c6 (a : Int) : fMod (.int a) (.int 2147483399) = some (.int (a % 2147483399)) := mod_f (by decide)
theorem c7 (a : Int) : fDiv (.int a) (.int 619) = some (.int (a / 619)) := div_f (by decide) (by decide)
theorem c8 (a : Int) : fDiv (.int a) (.int 17) = some (.int (a / 17)) := div_f (by decide) (by decide)
theorem c9 : fPow (.int 10) (.int 18) = some (.int (10 ^ 18)) := pow_f (by decide)
theorem c10 : fPow (.int 10) (.int 60) = some (.int (10 ^ 60)) := pow_f (by decide)
theorem c11 (a : Int) : fMod (.int a) (.int (10 ^ 60)) = some (.int (a % 10 ^ 60)) := mod_f (by decide)
theorem cellE (F : Fe) (h0 : 0 ≤ F.spot) (h : F.spot < F.scr.length) : fIx (.list (F.scr.map PyData.int)) (.int F.spot) = some (.int (cell F)) := by
  have e : F.spot = ((F.spot.toNat : Nat) : Int) := by omega
  have hl : F.spot.toNat < F.scr.length := by omega
  have := ixl_f (xs := F.scr.map PyData.int) (i := F.spot.toNat) (d := .int (cell F)) (by unfold cell; rw [List.getElem?_map, List.getElem?_eq_getElem hl]; rfl)
  rw [← e] at this
  exact this
/-- what a take gives: below m -/
theorem e_take (F : Fe) (h : F.ok) (m : Int) (hm : 0 < m) (hm2 : m < 1073741824) : ∃ r F', m__law_take [.o F.oo, .d (.int m)] = .ret (.d (.int r)) (some (Fe.oo F')) ∧ 0 ≤ r ∧ r < m ∧ F'.ok := by
  have d1 : ∀ a : Int, fDiv (.int a) (.int m) = some (.int (a / m)) := fun a => div_f hm hm2
  have d2 : ∀ a : Int, fMod (.int a) (.int m) = some (.int (a % m)) := fun a => mod_f hm
  unfold m__law_take Fe.oo
  by_cases hl : 0 < F.left
  · refine ⟨F.left % m, { F with left := F.left / m }, defB_rt (σ := [some (.o (.lst (Fe.ds { F with left := F.left / m }))), some (.d (.int m)), none, none, some (.d (.int F.left))]) ?_ rfl, Int.emod_nonneg _ (by omega), Int.emod_lt_of_pos _ hm, ⟨Int.ediv_nonneg h.l (by omega), h.s, h.p⟩⟩
    have hl2 : decide (0 < F.left) = true := decide_eq_true hl
    simp only [pad, List.map_cons, List.map_nil, List.length_cons, List.length_nil, sSeq, SR.andThen, sIf, sSet, sAsg, pName, ofS, sPut, mBool, mBin, mCB, mCons, mOwn1, mPure, mVar, mNil, slotL, ER.bind, ER.toS, ofO, sRet, List.getElem?_cons_zero, List.getElem?_cons_succ, List.set_cons_zero, List.set_cons_succ, List.cons_append, List.nil_append, List.replicate, ds2, gt_f, hl2, if_true, d1, d2, st2, int_f, Nat.reduceAdd, Nat.reduceSub]
  · have hl0 : F.left = 0 := by have := h.l; omega
    have hl2 : decide (0 < F.left) = false := decide_eq_false hl
    let F1 : Fe := { F with spot := F.spot + 1 }
    have key : sIf (mBool (mBin fLt (mVar 2) (mCB gLen (mCons (mOwn1 0 hIx (mPure (.int 0))) mNil)))) (sSet 3 (mBin fIx (mOwn1 0 hIx (mPure (.int 0))) (mVar 2))) sSkip
        [some (.o (.lst F1.ds)), some (.d (.int m)), some (.d (.int F.spot)), some (.d (.int 0)), none] = .nx [some (.o (.lst F1.ds)), some (.d (.int m)), some (.d (.int F.spot)), some (.d (.int (cell F))), none] := by
      have e0 : hIx F1.ds (.int 0) = some (.list (F.scr.map PyData.int)) := rfl
      by_cases hs : F.spot < (F.scr.length : Int)
      · have h3 : decide (F.spot < (F.scr.length : Int)) = true := decide_eq_true (by omega)
        simp only [sSeq, SR.andThen, sIf, sSet, sAsg, pName, ofS, sPut, mBool, mBin, mCB, mCons, mOwn1, mPure, mVar, mNil, slotL, ER.bind, ER.toS, ofO, sRet, sSkip, List.getElem?_cons_zero, List.getElem?_cons_succ, List.set_cons_zero, List.set_cons_succ, ds0, ds1, ds2, ds3, gt_f, lt_f, ge_f, lenl_f, int_f, abs_f, add_f, List.length_map, if_true, Bool.false_eq_true, if_false, e0, h3, cellE F h.p hs]
      · have h3 : decide (F.spot < (F.scr.length : Int)) = false := decide_eq_false (by omega)
        have hc : cell F = 0 := by unfold cell; rw [List.getElem?_eq_none (by have := h.p; omega)]; rfl
        simp only [sSeq, SR.andThen, sIf, sSet, sAsg, pName, ofS, sPut, mBool, mBin, mCB, mCons, mOwn1, mPure, mVar, mNil, slotL, ER.bind, ER.toS, ofO, sRet, sSkip, List.getElem?_cons_zero, List.getElem?_cons_succ, List.set_cons_zero, List.set_cons_succ, ds0, ds1, ds2, ds3, gt_f, lt_f, ge_f, lenl_f, int_f, abs_f, add_f, List.length_map, if_true, Bool.false_eq_true, if_false, e0, h3, hc]
    have e3 : hIx F1.ds (.int 3) = some (.int F.seed) := rfl
    have p2 : ∀ (x : Int) (σ : Pu.Loc), putStep 0 (.int x) (.int 2) σ F1.ds = .nx (σ.set 0 (some (.o (.lst (Fe.ds { F1 with left := x }))))) := fun _ _ => rfl
    have p3 : ∀ (x : Int) (σ : Pu.Loc), putStep 0 (.int x) (.int 3) σ F1.ds = .nx (σ.set 0 (some (.o (.lst (Fe.ds { F1 with seed := x }))))) := fun _ _ => rfl
    have p1 : ∀ (σ : Pu.Loc), putStep 0 (.int (F.spot + 1)) (.int 1) σ F.ds = .nx (σ.set 0 (some (.o (.lst F1.ds)))) := fun σ => st1
    have start : ∀ t u, sSeq (sIf (mBool (mBin fGt (mOwn1 0 hIx (mPure (.int 2))) (mPure (.int 0)))) t sSkip) (sSeq (sSet 2 (mOwn1 0 hIx (mPure (.int 1)))) (sSeq (sPut 0 (mPure (.int 1)) (mBin fAdd (mVar 2) (mPure (.int 1)))) (sSeq (sSet 3 (mPure (.int 0)))
        (sSeq (sIf (mBool (mBin fLt (mVar 2) (mCB gLen (mCons (mOwn1 0 hIx (mPure (.int 0))) mNil)))) (sSet 3 (mBin fIx (mOwn1 0 hIx (mPure (.int 0))) (mVar 2))) sSkip) u)))) (pad 5 [.o (.lst F.ds), .d (.int m)]) = u [some (.o (.lst F1.ds)), some (.d (.int m)), some (.d (.int F.spot)), some (.d (.int (cell F))), none] := fun t u => by
      rw [seq_nx (σ1 := [some (.o (.lst F.ds)), some (.d (.int m)), none, none, none]) (by
        simp only [sSeq, SR.andThen, sIf, sSet, sAsg, pName, ofS, sPut, mBool, mBin, mCB, mCons, mOwn1, mPure, mVar, mNil, slotL, ER.bind, ER.toS, ofO, sRet, sSkip, List.getElem?_cons_zero, List.getElem?_cons_succ, List.set_cons_zero, List.set_cons_succ, ds0, ds1, ds2, ds3, gt_f, lt_f, ge_f, lenl_f, int_f, abs_f, add_f, List.length_map, if_true, Bool.false_eq_true, if_false, hl2, pad, List.map_cons, List.map_nil, List.length_cons, List.length_nil, List.replicate, List.cons_append, List.nil_append])]
      rw [seq_nx (σ1 := [some (.o (.lst F.ds)), some (.d (.int m)), some (.d (.int F.spot)), none, none]) (by simp only [sSeq, SR.andThen, sIf, sSet, sAsg, pName, ofS, sPut, mBool, mBin, mCB, mCons, mOwn1, mPure, mVar, mNil, slotL, ER.bind, ER.toS, ofO, sRet, sSkip, List.getElem?_cons_zero, List.getElem?_cons_succ, List.set_cons_zero, List.set_cons_succ, ds0, ds1, ds2, ds3, gt_f, lt_f, ge_f, lenl_f, int_f, abs_f, add_f, List.length_map, if_true, Bool.false_eq_true, if_false])]
      rw [seq_nx (σ1 := [some (.o (.lst F1.ds)), some (.d (.int m)), some (.d (.int F.spot)), none, none]) (by simp only [sSeq, SR.andThen, sIf, sSet, sAsg, pName, ofS, sPut, mBool, mBin, mCB, mCons, mOwn1, mPure, mVar, mNil, slotL, ER.bind, ER.toS, ofO, sRet, sSkip, List.getElem?_cons_zero, List.getElem?_cons_succ, List.set_cons_zero, List.set_cons_succ, ds0, ds1, ds2, ds3, gt_f, lt_f, ge_f, lenl_f, int_f, abs_f, add_f, List.length_map, if_true, Bool.false_eq_true, if_false, p1])]
      rw [seq_nx (σ1 := [some (.o (.lst F1.ds)), some (.d (.int m)), some (.d (.int F.spot)), some (.d (.int 0)), none]) (by simp only [sSeq, SR.andThen, sIf, sSet, sAsg, pName, ofS, sPut, mBool, mBin, mCB, mCons, mOwn1, mPure, mVar, mNil, slotL, ER.bind, ER.toS, ofO, sRet, sSkip, List.getElem?_cons_zero, List.getElem?_cons_succ, List.set_cons_zero, List.set_cons_succ, ds0, ds1, ds2, ds3, gt_f, lt_f, ge_f, lenl_f, int_f, abs_f, add_f, List.length_map, if_true, Bool.false_eq_true, if_false])]
      rw [seq_nx key]
    by_cases hw : (10 : Int) ^ 18 ≤ (if cell F < 0 then -cell F else cell F)
    · have hw2 : decide ((10 : Int) ^ 18 ≤ (if cell F < 0 then -cell F else cell F)) = true := decide_eq_true hw
      refine ⟨wideN (cell F) % m, { F1 with left := wideN (cell F) / m }, defB_rt (σ := [some (.o (.lst (Fe.ds { F1 with left := wideN (cell F) / m }))), some (.d (.int m)), some (.d (.int F.spot)), some (.d (.int (cell F))), some (.d (.int (wideN (cell F))))]) ((start _ _).trans (seq_rt ?_)) rfl,
        Int.emod_nonneg _ (by omega), Int.emod_lt_of_pos _ hm, ⟨Int.ediv_nonneg (Int.emod_nonneg _ (by decide)) (by omega), h.s, Int.add_nonneg h.p (by decide)⟩⟩
      simp only [sSeq, SR.andThen, sIf, sSet, sAsg, pName, ofS, sPut, mBool, mBin, mCB, mCons, mOwn1, mPure, mVar, mNil, slotL, ER.bind, ER.toS, ofO, sRet, sSkip, List.getElem?_cons_zero, List.getElem?_cons_succ, List.set_cons_zero, List.set_cons_succ, ds0, ds1, ds2, ds3, gt_f, lt_f, ge_f, lenl_f, int_f, abs_f, add_f, List.length_map, if_true, Bool.false_eq_true, if_false, c9, c10, c11, hw2, d1, d2, p2, wideN]
    · have hw2 : decide ((10 : Int) ^ 18 ≤ (if cell F < 0 then -cell F else cell F)) = false := decide_eq_false hw
      obtain ⟨n, hn⟩ : ∃ n : Int, (F.seed * 30269 + cell F * 4507 + F.spot * 1201 + 59) % 2147483647 = n := ⟨_, rfl⟩
      obtain ⟨k, hk⟩ : ∃ k : Int, (n * 45991 + n / 619) % 2147483399 = k := ⟨_, rfl⟩
      have n3 : hIx (Fe.ds { F1 with seed := n }) (.int 3) = some (.int n) := rfl
      have b1 : 0 ≤ n := by rw [← hn]; exact Int.emod_nonneg _ (by decide)
      have b2 : n < 2147483647 := by rw [← hn]; exact Int.emod_lt_of_pos _ (by decide)
      refine ⟨k / 17 % m, { F1 with seed := n }, defB_rt (σ := [some (.o (.lst (Fe.ds { F1 with seed := n }))), some (.d (.int m)), some (.d (.int F.spot)), some (.d (.int (cell F))), some (.d (.int k))]) ((start _ _).trans ?_) rfl,
        Int.emod_nonneg _ (by omega), Int.emod_lt_of_pos _ hm, ⟨h.l, ⟨b1, b2⟩, Int.add_nonneg h.p (by decide)⟩⟩
      rw [seq_nx (σ1 := [some (.o (.lst F1.ds)), some (.d (.int m)), some (.d (.int F.spot)), some (.d (.int (cell F))), none]) (by simp only [sSeq, SR.andThen, sIf, sSet, sAsg, pName, ofS, sPut, mBool, mBin, mCB, mCons, mOwn1, mPure, mVar, mNil, slotL, ER.bind, ER.toS, ofO, sRet, sSkip, List.getElem?_cons_zero, List.getElem?_cons_succ, List.set_cons_zero, List.set_cons_succ, ds0, ds1, ds2, ds3, gt_f, lt_f, ge_f, lenl_f, int_f, abs_f, add_f, List.length_map, if_true, Bool.false_eq_true, if_false, c9, hw2])]
      rw [seq_nx (σ1 := [some (.o (.lst (Fe.ds { F1 with seed := n }))), some (.d (.int m)), some (.d (.int F.spot)), some (.d (.int (cell F))), none]) (by simp only [sSeq, SR.andThen, sIf, sSet, sAsg, pName, ofS, sPut, mBool, mBin, mCB, mCons, mOwn1, mPure, mVar, mNil, slotL, ER.bind, ER.toS, ofO, sRet, sSkip, List.getElem?_cons_zero, List.getElem?_cons_succ, List.set_cons_zero, List.set_cons_succ, ds0, ds1, ds2, ds3, gt_f, lt_f, ge_f, lenl_f, int_f, abs_f, add_f, List.length_map, if_true, Bool.false_eq_true, if_false, e3, c1, c2, c3, c5, p3, hn])]
      rw [seq_nx (σ1 := [some (.o (.lst (Fe.ds { F1 with seed := n }))), some (.d (.int m)), some (.d (.int F.spot)), some (.d (.int (cell F))), some (.d (.int k))]) (by simp only [sSeq, SR.andThen, sIf, sSet, sAsg, pName, ofS, sPut, mBool, mBin, mCB, mCons, mOwn1, mPure, mVar, mNil, slotL, ER.bind, ER.toS, ofO, sRet, sSkip, List.getElem?_cons_zero, List.getElem?_cons_succ, List.set_cons_zero, List.set_cons_succ, ds0, ds1, ds2, ds3, gt_f, lt_f, ge_f, lenl_f, int_f, abs_f, add_f, List.length_map, if_true, Bool.false_eq_true, if_false, n3, c4, c6, c7, hk])]
      simp only [sSeq, SR.andThen, sIf, sSet, sAsg, pName, ofS, sPut, mBool, mBin, mCB, mCons, mOwn1, mPure, mVar, mNil, slotL, ER.bind, ER.toS, ofO, sRet, sSkip, List.getElem?_cons_zero, List.getElem?_cons_succ, List.set_cons_zero, List.set_cons_succ, ds0, ds1, ds2, ds3, gt_f, lt_f, ge_f, lenl_f, int_f, abs_f, add_f, List.length_map, if_true, Bool.false_eq_true, if_false, c8, d2]
end pw_threadsround_k01_whole_quotients_and_rowG

set_option Elab.async false
set_option linter.all false
set_option maxRecDepth 100000
set_option maxHeartbeats 400000
namespace Pu
open PySem PySem.Spec L2
/-! how many bits a number has -/
def Sz (n : Nat) (x : Int) : Prop := x.natAbs < 2 ^ n
theorem Sz.mono {a b : Nat} {x : Int} (h : Sz a x) (hab : a ≤ b) : Sz b x := Nat.lt_of_lt_of_le h (Nat.pow_le_pow_right (by decide) hab)
theorem Sz.mul {a b : Nat} {x y : Int} (h : Sz a x) (k : Sz b y) : Sz (a + b) (x * y) := by
  unfold Sz at *
  rw [Int.natAbs_mul, Nat.pow_add]
  exact Nat.mul_lt_mul'' h k
theorem Sz.add {a : Nat} {x y : Int} (h : Sz a x) (k : Sz a y) : Sz (a + 1) (x + y) := by
  unfold Sz at *
  have := Int.natAbs_add_le x y
  rw [Nat.pow_succ]
  omega
theorem Sz.neg {a : Nat} {x : Int} (h : Sz a x) : Sz a (-x) := by
  unfold Sz at *
  rw [Int.natAbs_neg]
  exact h
theorem Sz.sub {a : Nat} {x y : Int} (h : Sz a x) (k : Sz a y) : Sz (a + 1) (x - y) := by
  rw [Int.sub_eq_add_neg]
  exact h.add k.neg
theorem Sz.zero {a : Nat} : Sz a 0 := Nat.two_pow_pos a
theorem Sz.of {a : Nat} {x : Int} (h : -(2 ^ a : Int) < x) (k : x < 2 ^ a) : Sz a x := by
  unfold Sz
  have e : ((2 ^ a : Nat) : Int) = (2 : Int) ^ a := by norm_cast
  omega
theorem Sz.log {a : Nat} {x : Int} (h : Sz a x) : x.natAbs.log2 ≤ a := by
  unfold Sz at h
  by_cases h0 : x.natAbs = 0
  · rw [h0]
    exact Nat.zero_le _
  · have := (Nat.log2_lt h0).mpr h
    omega
theorem mulS {a b : Nat} {x y : Int} (h : Sz a x) (k : Sz b y) (hb : a + b < 1000000) : fMul (.int x) (.int y) = some (.int (x * y)) := by
  unfold fMul
  refine if_pos (.inr ?_)
  unfold CMulW
  have := h.log
  have := k.log
  omega
theorem divS {a : Nat} {x y : Int} (h0 : 0 < y) (k : Sz a y) (hb : a < 9000) : fDiv (.int x) (.int y) = some (.int (x / y)) := by
  unfold fDiv
  have := k.log
  exact if_pos ⟨h0, .inr (by omega)⟩
theorem divZS {a : Nat} {x y : Int} (h0 : y ≠ 0) (k : Sz a y) (hb : a < 9000) : fDivZ (.int x) (.int y) = some (.int (x.fdiv y)) := by
  unfold fDivZ
  have := k.log
  exact if_pos ⟨h0, by omega⟩
end Pu

set_option Elab.async false
set_option linter.all false
set_option maxRecDepth 100000
set_option maxHeartbeats 400000
namespace pw_threadsround_k01_whole_quotients_and_rowG
open PySem PySem.Spec L2 Pu
theorem P_ex {r : CRes} {Φ : LV → Option OO → Prop} (h : ∀ (R : LV → Option OO → Prop) (X : Ex → Option OO → Prop), (∀ v o, Φ v o → R v o) → r.P R X) : ∃ v o, r = .ret v o ∧ Φ v o :=
  P_ret (h Φ (fun _ _ => False) fun _ _ h => h)
/-! quotients -/
def qt (p q : Int) : D := .tuple [.int p, .int q]
structure GQ (p q : Int) : Prop where
  pos : 0 < q
  cop : Int.gcd p q = 1
theorem GQ.dvd {p q p' q' : Int} (h : GQ p q) (e : p * q' = p' * q) : q.natAbs ∣ q'.natAbs := by
  have c : Nat.Coprime q.natAbs p.natAbs := by
    have := h.cop
    unfold Int.gcd at this
    rw [Nat.gcd_comm] at this
    exact this
  have : q.natAbs ∣ p.natAbs * q'.natAbs := by
    rw [← Int.natAbs_mul, e, Int.natAbs_mul]
    exact Nat.dvd_mul_left _ _
  exact c.dvd_of_dvd_mul_left this
theorem GQ.uniq {p q p' q' : Int} (h : GQ p q) (h' : GQ p' q') (e : p * q' = p' * q) : p = p' ∧ q = q' := by
  have d := Nat.dvd_antisymm (h.dvd e) (h'.dvd e.symm)
  have e2 : q = q' := by have := h.pos; have := h'.pos; omega
  subst e2
  have := h.pos
  exact ⟨Int.eq_of_mul_eq_mul_right (by omega) e, rfl⟩
/-- in lowest terms -/
def gI (t b : Int) : Int := ((Int.gcd t b : Nat) : Int)
def redP (t b : Int) : Int := if b < 0 then -(t / gI t b) else t / gI t b
def redQ (t b : Int) : Int := if b < 0 then -(b / gI t b) else b / gI t b
theorem gI_pos {t b : Int} (hb : b ≠ 0) : 0 < gI t b := by
  unfold gI
  have := Int.gcd_pos_of_ne_zero_right t hb
  omega
theorem gI_t {t b : Int} : gI t b * (t / gI t b) = t := Int.mul_ediv_cancel' (Int.gcd_dvd_left t b)
theorem gI_b {t b : Int} : gI t b * (b / gI t b) = b := Int.mul_ediv_cancel' (Int.gcd_dvd_right t b)
theorem red_ok {t b : Int} (hb : b ≠ 0) : GQ (redP t b) (redQ t b) := by
  have g := gI_pos (t := t) hb
  have c : Int.gcd (t / gI t b) (b / gI t b) = 1 := Int.gcd_ediv_gcd_ediv_gcd (by unfold gI at g; omega)
  have e := gI_b (t := t) (b := b)
  unfold redP redQ
  by_cases h : b < 0
  · rw [if_pos h, if_pos h]
    refine ⟨?_, by rw [Int.neg_gcd, Int.gcd_neg]; exact c⟩
    refine Decidable.byContradiction fun z => ?_
    have : 0 ≤ gI t b * (b / gI t b) := Int.mul_nonneg (by omega) (by omega)
    omega
  · rw [if_neg h, if_neg h]
    refine ⟨?_, c⟩
    refine Decidable.byContradiction fun z => ?_
    have : gI t b * (b / gI t b) ≤ 0 := Int.mul_nonpos_of_nonneg_of_nonpos (by omega) (by omega)
    omega
theorem red_eq {t b : Int} : redP t b * b = t * redQ t b := by
  have e1 := gI_t (t := t) (b := b)
  have e2 := gI_b (t := t) (b := b)
  have key : t / gI t b * b = t * (b / gI t b) := by
    generalize t / gI t b = x at *
    generalize b / gI t b = y at *
    generalize gI t b = g at *
    subst e1
    subst e2
    rw [Int.mul_left_comm, Int.mul_assoc]
  unfold redP redQ
  by_cases h : b < 0
  · rw [if_pos h, if_pos h, Int.neg_mul, Int.mul_neg, key]
  · rw [if_neg h, if_neg h, key]
/-- the one quotient in lowest terms -/
theorem red_uniq {t b p q : Int} (hb : b ≠ 0) (h : GQ p q) (e : p * b = t * q) : p = redP t b ∧ q = redQ t b := by
  refine h.uniq (red_ok hb) ?_
  have e2 := red_eq (t := t) (b := b)
  refine Int.eq_of_mul_eq_mul_right hb ?_
  have : p * redQ t b * b = t * q * redQ t b := by rw [Int.mul_assoc, Int.mul_comm (redQ t b), ← Int.mul_assoc, e]
  rw [this, Int.mul_assoc (redP t b), Int.mul_comm q b, ← Int.mul_assoc (redP t b), e2, Int.mul_assoc, Int.mul_assoc, Int.mul_comm q]
theorem Sz.div {a : Nat} {x y : Int} (h : Sz a x) : Sz a (x / y) := by
  unfold Sz at *
  exact Nat.lt_of_le_of_lt (Int.natAbs_ediv_le_natAbs x y) h
theorem redP_sz {a : Nat} {t b : Int} (h : Sz a t) : Sz a (redP t b) := by
  unfold redP
  split
  · exact (Sz.div h).neg
  · exact Sz.div h
theorem redQ_sz {a : Nat} {t b : Int} (h : Sz a b) : Sz a (redQ t b) := by
  unfold redQ
  split
  · exact (Sz.div h).neg
  · exact Sz.div h
theorem gI_sz {a : Nat} {t b : Int} (hb : b ≠ 0) (h : Sz a b) : Sz a (gI t b) := by
  unfold Sz at *
  have : gI t b ∣ b := Int.gcd_dvd_right t b
  have := Int.natAbs_dvd_natAbs.mpr this
  have := Nat.le_of_dvd (by omega) this
  omega
theorem gcd_f (t b : Int) : gGcd [.int t, .int b] = some (.int (gI t b)) := rfl
theorem divZ_g {t b : Int} {a : Nat} (hb : b ≠ 0) (h : Sz a b) (ha : a < 9000) (x : Int) : fDivZ (.int x) (.int (gI t b)) = some (.int (x / gI t b)) := by
  have g := gI_pos (t := t) hb
  rw [divZS (by omega) (gI_sz hb h) ha, Int.fdiv_eq_ediv_of_nonneg _ (by omega)]
theorem divZ_n {t b : Int} {a : Nat} (hb : b ≠ 0) (h : Sz a b) (ha : a < 9000) (x : Int) (hx : gI t b ∣ x) : fDivZ (.int x) (.int (-gI t b)) = some (.int (-(x / gI t b))) := by
  have g := gI_pos (t := t) hb
  rw [divZS (by omega) (gI_sz hb h).neg ha]
  have e : x = -gI t b * -(x / gI t b) := by rw [Int.neg_mul_neg]; exact (Int.mul_ediv_cancel' hx).symm
  have : x.fdiv (-gI t b) = -(x / gI t b) := by
    conv => lhs; rw [e]
    exact Int.mul_fdiv_cancel_left _ (by omega)
  rw [this]
theorem e_lowest {t b : Int} {a : Nat} (hb : b ≠ 0) (h : Sz a b) (ha : a < 9000) : m_lowest [.d (.int t), .d (.int b)] = .ret (.d (qt (redP t b) (redQ t b))) none := by
  unfold m_lowest
  refine P_eq (def_P ?_)
  refine P_seq fun K hK => ?_
  simp only [sSeq, SR.andThen, sIf, sSet_ap, sSetO, sAsg, pName_ap, pTup, pCons, pNil, Option.bind_some, Option.map_some, ofS, sPut, sExpr, sRet, sRetO, sRetV, sRetN, sSkip, sBreak, sPar, mBool, mBin, mUn, mCB, mCBL, mCons, mNil_ap, mPure, mVar, mOwn, mOwn1, mOwnR, mNot, mAnd, mOr, mAndV, mOrV, mIf, mOfB, mTruD, truD, mTup, mLst, mCold, mMut, mMut0, mMove, mCall, mKw, asD, asO, gConsD, gConsS, gNilA_ap, callRes, lvsOf, toLV, refsOf, slotL, slotO, mSeq, mBinO, mPart, mSl, ER.bind, ER.toS, ofO, dropS, List.foldr_cons, List.foldr_nil, List.getElem?_cons_zero, List.getElem?_cons_succ, List.set_cons_zero, List.set_cons_succ, List.length_cons, List.length_nil, List.map_cons, List.map_nil, Nat.reduceAdd, Nat.reduceSub, if_true, if_false, Bool.false_eq_true, Bool.not_true, Bool.not_false, eq_self, decide_true, decide_false, Nat.reduceLeDiff, Nat.reduceEqDiff, reduceCtorEq, add_f, sub_f, neg_f, int_f, intb_f, abs_f, lenl_f, lent_f, lt_f, le_f, gt_f, ge_f, eq_f, ne_f, permL1, permL2, isTup_t, tup0, tup1, PNx, PRt, PRs, PBk, PCt, pad, List.cons_append, List.nil_append, List.replicate, gcd_f]
  refine hK _ ?_
  clear hK K
  by_cases hn : b < 0
  · have hd : decide (b < 0) = true := decide_eq_true hn
    have e1 := divZ_n hb h ha t (Int.gcd_dvd_left t b)
    have e2 := divZ_n hb h ha b (Int.gcd_dvd_right t b)
    refine P_seq fun K hK => ?_
    simp only [sSeq, SR.andThen, sIf, sSet_ap, sSetO, sAsg, pName_ap, pTup, pCons, pNil, Option.bind_some, Option.map_some, ofS, sPut, sExpr, sRet, sRetO, sRetV, sRetN, sSkip, sBreak, sPar, mBool, mBin, mUn, mCB, mCBL, mCons, mNil_ap, mPure, mVar, mOwn, mOwn1, mOwnR, mNot, mAnd, mOr, mAndV, mOrV, mIf, mOfB, mTruD, truD, mTup, mLst, mCold, mMut, mMut0, mMove, mCall, mKw, asD, asO, gConsD, gConsS, gNilA_ap, callRes, lvsOf, toLV, refsOf, slotL, slotO, mSeq, mBinO, mPart, mSl, ER.bind, ER.toS, ofO, dropS, List.foldr_cons, List.foldr_nil, List.getElem?_cons_zero, List.getElem?_cons_succ, List.set_cons_zero, List.set_cons_succ, List.length_cons, List.length_nil, List.map_cons, List.map_nil, Nat.reduceAdd, Nat.reduceSub, if_true, if_false, Bool.false_eq_true, Bool.not_true, Bool.not_false, eq_self, decide_true, decide_false, Nat.reduceLeDiff, Nat.reduceEqDiff, reduceCtorEq, add_f, sub_f, neg_f, int_f, intb_f, abs_f, lenl_f, lent_f, lt_f, le_f, gt_f, ge_f, eq_f, ne_f, permL1, permL2, isTup_t, tup0, tup1, PNx, PRt, PRs, PBk, PCt, hd]
    refine hK _ ?_
    clear hK K
    have e3 : qt (redP t b) (redQ t b) = .tuple [.int (-(t / gI t b)), .int (-(b / gI t b))] := by unfold qt redP redQ; rw [if_pos hn, if_pos hn]
    rw [e3]
    (simp only [sSeq, SR.andThen, sIf, sSet_ap, sSetO, sAsg, pName_ap, pTup, pCons, pNil, Option.bind_some, Option.map_some, ofS, sPut, sExpr, sRet, sRetO, sRetV, sRetN, sSkip, sBreak, sPar, mBool, mBin, mUn, mCB, mCBL, mCons, mNil_ap, mPure, mVar, mOwn, mOwn1, mOwnR, mNot, mAnd, mOr, mAndV, mOrV, mIf, mOfB, mTruD, truD, mTup, mLst, mCold, mMut, mMut0, mMove, mCall, mKw, asD, asO, gConsD, gConsS, gNilA_ap, callRes, lvsOf, toLV, refsOf, slotL, slotO, mSeq, mBinO, mPart, mSl, ER.bind, ER.toS, ofO, dropS, List.foldr_cons, List.foldr_nil, List.getElem?_cons_zero, List.getElem?_cons_succ, List.set_cons_zero, List.set_cons_succ, List.length_cons, List.length_nil, List.map_cons, List.map_nil, Nat.reduceAdd, Nat.reduceSub, if_true, if_false, Bool.false_eq_true, Bool.not_true, Bool.not_false, eq_self, decide_true, decide_false, Nat.reduceLeDiff, Nat.reduceEqDiff, reduceCtorEq, add_f, sub_f, neg_f, int_f, intb_f, abs_f, lenl_f, lent_f, lt_f, le_f, gt_f, ge_f, eq_f, ne_f, permL1, permL2, isTup_t, tup0, tup1, PNx, PRt, PRs, PBk, PCt, e1, e2]; first | done | exact ⟨rfl, rfl⟩ | exact ⟨trivial, rfl⟩ | trivial)
  · have hd : decide (b < 0) = false := decide_eq_false hn
    have e1 := divZ_g (t := t) hb h ha t
    have e2 := divZ_g (t := t) hb h ha b
    refine P_seq fun K hK => ?_
    simp only [sSeq, SR.andThen, sIf, sSet_ap, sSetO, sAsg, pName_ap, pTup, pCons, pNil, Option.bind_some, Option.map_some, ofS, sPut, sExpr, sRet, sRetO, sRetV, sRetN, sSkip, sBreak, sPar, mBool, mBin, mUn, mCB, mCBL, mCons, mNil_ap, mPure, mVar, mOwn, mOwn1, mOwnR, mNot, mAnd, mOr, mAndV, mOrV, mIf, mOfB, mTruD, truD, mTup, mLst, mCold, mMut, mMut0, mMove, mCall, mKw, asD, asO, gConsD, gConsS, gNilA_ap, callRes, lvsOf, toLV, refsOf, slotL, slotO, mSeq, mBinO, mPart, mSl, ER.bind, ER.toS, ofO, dropS, List.foldr_cons, List.foldr_nil, List.getElem?_cons_zero, List.getElem?_cons_succ, List.set_cons_zero, List.set_cons_succ, List.length_cons, List.length_nil, List.map_cons, List.map_nil, Nat.reduceAdd, Nat.reduceSub, if_true, if_false, Bool.false_eq_true, Bool.not_true, Bool.not_false, eq_self, decide_true, decide_false, Nat.reduceLeDiff, Nat.reduceEqDiff, reduceCtorEq, add_f, sub_f, neg_f, int_f, intb_f, abs_f, lenl_f, lent_f, lt_f, le_f, gt_f, ge_f, eq_f, ne_f, permL1, permL2, isTup_t, tup0, tup1, PNx, PRt, PRs, PBk, PCt, hd]
    refine hK _ ?_
    clear hK K
    have e3 : qt (redP t b) (redQ t b) = .tuple [.int (t / gI t b), .int (b / gI t b)] := by unfold qt redP redQ; rw [if_neg hn, if_neg hn]
    rw [e3]
    (simp only [sSeq, SR.andThen, sIf, sSet_ap, sSetO, sAsg, pName_ap, pTup, pCons, pNil, Option.bind_some, Option.map_some, ofS, sPut, sExpr, sRet, sRetO, sRetV, sRetN, sSkip, sBreak, sPar, mBool, mBin, mUn, mCB, mCBL, mCons, mNil_ap, mPure, mVar, mOwn, mOwn1, mOwnR, mNot, mAnd, mOr, mAndV, mOrV, mIf, mOfB, mTruD, truD, mTup, mLst, mCold, mMut, mMut0, mMove, mCall, mKw, asD, asO, gConsD, gConsS, gNilA_ap, callRes, lvsOf, toLV, refsOf, slotL, slotO, mSeq, mBinO, mPart, mSl, ER.bind, ER.toS, ofO, dropS, List.foldr_cons, List.foldr_nil, List.getElem?_cons_zero, List.getElem?_cons_succ, List.set_cons_zero, List.set_cons_succ, List.length_cons, List.length_nil, List.map_cons, List.map_nil, Nat.reduceAdd, Nat.reduceSub, if_true, if_false, Bool.false_eq_true, Bool.not_true, Bool.not_false, eq_self, decide_true, decide_false, Nat.reduceLeDiff, Nat.reduceEqDiff, reduceCtorEq, add_f, sub_f, neg_f, int_f, intb_f, abs_f, lenl_f, lent_f, lt_f, le_f, gt_f, ge_f, eq_f, ne_f, permL1, permL2, isTup_t, tup0, tup1, PNx, PRt, PRs, PBk, PCt, e1, e2]; first | done | exact ⟨rfl, rfl⟩ | exact ⟨trivial, rfl⟩ | trivial)
/-! Euclid -/
theorem euc_nn : ∀ (n : Nat) (a b : Int), 0 ≤ a → 0 ≤ b → 0 ≤ euc n a b
  | 0, a, b, h, _ => h
  | n + 1, a, b, h, k => by
    unfold euc
    split
    · exact h
    · exact euc_nn n _ _ k (Int.emod_nonneg _ (by assumption))
def cbody : S := sSeq (sIf (mBool (mBin fEq (mVar 1) (mPure (.int 0)))) sBreak sSkip)
      (sPar 0 1 (mCons (mVar 1) (mCons (mBin fMod (mCB gInt (mCons (mVar 0) mNil)) (mVar 1)) mNil)))
theorem common_loop : ∀ (ds : List D) (a b : Int) (u : Option LV), 0 ≤ b → ∃ b' u', forD (pName 2) cbody ds [some (.d (.int a)), some (.d (.int b)), u] = .nx [some (.d (.int (euc ds.length a b))), b', u']
  | [], a, b, u, _ => ⟨_, _, rfl⟩
  | d :: ds, a, b, u, hb => by
    rw [forD_c, pName_ap]
    show ∃ b' u', (cbody [some (.d (.int a)), some (.d (.int b)), some (.d d)]).turn (forD (pName 2) cbody ds) = _
    unfold cbody
    by_cases h : b = 0
    · have hd : decide (b = 0) = true := decide_eq_true h
      have e : euc (d :: ds).length a b = a := by show (if b = 0 then a else _) = a; rw [if_pos h]
      rw [e]
      refine ⟨some (.d (.int b)), some (.d d), ?_⟩
      simp only [sSeq, SR.andThen, sIf, sSet_ap, sSetO, sAsg, pName_ap, pTup, pCons, pNil, Option.bind_some, Option.map_some, ofS, sPut, sExpr, sRet, sRetO, sRetV, sRetN, sSkip, sBreak, sPar, mBool, mBin, mUn, mCB, mCBL, mCons, mNil_ap, mPure, mVar, mOwn, mOwn1, mOwnR, mNot, mAnd, mOr, mAndV, mOrV, mIf, mOfB, mTruD, truD, mTup, mLst, mCold, mMut, mMut0, mMove, mCall, mKw, asD, asO, gConsD, gConsS, gNilA_ap, callRes, lvsOf, toLV, refsOf, slotL, slotO, mSeq, mBinO, mPart, mSl, ER.bind, ER.toS, ofO, dropS, List.foldr_cons, List.foldr_nil, List.getElem?_cons_zero, List.getElem?_cons_succ, List.set_cons_zero, List.set_cons_succ, List.length_cons, List.length_nil, List.map_cons, List.map_nil, Nat.reduceAdd, Nat.reduceSub, if_true, if_false, Bool.false_eq_true, Bool.not_true, Bool.not_false, eq_self, decide_true, decide_false, Nat.reduceLeDiff, Nat.reduceEqDiff, reduceCtorEq, add_f, sub_f, neg_f, int_f, intb_f, abs_f, lenl_f, lent_f, lt_f, le_f, gt_f, ge_f, eq_f, ne_f, permL1, permL2, isTup_t, tup0, tup1, PNx, PRt, PRs, PBk, PCt, hd]
      rfl
    · have hd : decide (b = 0) = false := decide_eq_false h
      have e : euc (d :: ds).length a b = euc ds.length b (a % b) := by show (if b = 0 then a else _) = _; rw [if_neg h]
      rw [e]
      have hm := mod_f (i := a) (j := b) (by omega)
      obtain ⟨b', u', h2⟩ := common_loop ds b (a % b) (some (.d d)) (Int.emod_nonneg _ h)
      refine ⟨b', u', ?_⟩
      simp only [sSeq, SR.andThen, sIf, sSet_ap, sSetO, sAsg, pName_ap, pTup, pCons, pNil, Option.bind_some, Option.map_some, ofS, sPut, sExpr, sRet, sRetO, sRetV, sRetN, sSkip, sBreak, sPar, mBool, mBin, mUn, mCB, mCBL, mCons, mNil_ap, mPure, mVar, mOwn, mOwn1, mOwnR, mNot, mAnd, mOr, mAndV, mOrV, mIf, mOfB, mTruD, truD, mTup, mLst, mCold, mMut, mMut0, mMove, mCall, mKw, asD, asO, gConsD, gConsS, gNilA_ap, callRes, lvsOf, toLV, refsOf, slotL, slotO, mSeq, mBinO, mPart, mSl, ER.bind, ER.toS, ofO, dropS, List.foldr_cons, List.foldr_nil, List.getElem?_cons_zero, List.getElem?_cons_succ, List.set_cons_zero, List.set_cons_succ, List.length_cons, List.length_nil, List.map_cons, List.map_nil, Nat.reduceAdd, Nat.reduceSub, if_true, if_false, Bool.false_eq_true, Bool.not_true, Bool.not_false, eq_self, decide_true, decide_false, Nat.reduceLeDiff, Nat.reduceEqDiff, reduceCtorEq, add_f, sub_f, neg_f, int_f, intb_f, abs_f, lenl_f, lent_f, lt_f, le_f, gt_f, ge_f, eq_f, ne_f, permL1, permL2, isTup_t, tup0, tup1, PNx, PRt, PRs, PBk, PCt, hd, hm, turn_nx]
      exact h2
theorem abs_na (x : Int) : (if x < 0 then -x else x) = ((x.natAbs : Nat) : Int) := by
  split <;> omega
theorem e__law_common {t b : Int} (h : Sz 6000 b) : m__law_common [.d (.int t), .d (.int b)] = .ret (.d (.int (gI t b))) none := by
  unfold m__law_common
  refine P_eq (def_P ?_)
  refine P_seq fun K hK => ?_
  simp only [sSeq, SR.andThen, sIf, sSet_ap, sSetO, sAsg, pName_ap, pTup, pCons, pNil, Option.bind_some, Option.map_some, ofS, sPut, sExpr, sRet, sRetO, sRetV, sRetN, sSkip, sBreak, sPar, mBool, mBin, mUn, mCB, mCBL, mCons, mNil_ap, mPure, mVar, mOwn, mOwn1, mOwnR, mNot, mAnd, mOr, mAndV, mOrV, mIf, mOfB, mTruD, truD, mTup, mLst, mCold, mMut, mMut0, mMove, mCall, mKw, asD, asO, gConsD, gConsS, gNilA_ap, callRes, lvsOf, toLV, refsOf, slotL, slotO, mSeq, mBinO, mPart, mSl, ER.bind, ER.toS, ofO, dropS, List.foldr_cons, List.foldr_nil, List.getElem?_cons_zero, List.getElem?_cons_succ, List.set_cons_zero, List.set_cons_succ, List.length_cons, List.length_nil, List.map_cons, List.map_nil, Nat.reduceAdd, Nat.reduceSub, if_true, if_false, Bool.false_eq_true, Bool.not_true, Bool.not_false, eq_self, decide_true, decide_false, Nat.reduceLeDiff, Nat.reduceEqDiff, reduceCtorEq, add_f, sub_f, neg_f, int_f, intb_f, abs_f, lenl_f, lent_f, lt_f, le_f, gt_f, ge_f, eq_f, ne_f, permL1, permL2, isTup_t, tup0, tup1, PNx, PRt, PRs, PBk, PCt, pad, List.cons_append, List.nil_append, List.replicate, abs_na]
  refine hK _ ?_
  clear hK K
  refine P_seq fun K hK => ?_
  simp only [sSeq, SR.andThen, sIf, sSet_ap, sSetO, sAsg, pName_ap, pTup, pCons, pNil, Option.bind_some, Option.map_some, ofS, sPut, sExpr, sRet, sRetO, sRetV, sRetN, sSkip, sBreak, sPar, mBool, mBin, mUn, mCB, mCBL, mCons, mNil_ap, mPure, mVar, mOwn, mOwn1, mOwnR, mNot, mAnd, mOr, mAndV, mOrV, mIf, mOfB, mTruD, truD, mTup, mLst, mCold, mMut, mMut0, mMove, mCall, mKw, asD, asO, gConsD, gConsS, gNilA_ap, callRes, lvsOf, toLV, refsOf, slotL, slotO, mSeq, mBinO, mPart, mSl, ER.bind, ER.toS, ofO, dropS, List.foldr_cons, List.foldr_nil, List.getElem?_cons_zero, List.getElem?_cons_succ, List.set_cons_zero, List.set_cons_succ, List.length_cons, List.length_nil, List.map_cons, List.map_nil, Nat.reduceAdd, Nat.reduceSub, if_true, if_false, Bool.false_eq_true, Bool.not_true, Bool.not_false, eq_self, decide_true, decide_false, Nat.reduceLeDiff, Nat.reduceEqDiff, reduceCtorEq, add_f, sub_f, neg_f, int_f, intb_f, abs_f, lenl_f, lent_f, lt_f, le_f, gt_f, ge_f, eq_f, ne_f, permL1, permL2, isTup_t, tup0, tup1, PNx, PRt, PRs, PBk, PCt, abs_na]
  refine hK _ ?_
  clear hK K
  have hr := range1_ok (n := 12000) (ms := mCons (mPure (.int 12000)) mNil) (σ := [some (.d (.int (t.natAbs : Nat))), some (.d (.int (b.natAbs : Nat))), none]) (σ1 := [some (.d (.int (t.natAbs : Nat))), some (.d (.int (b.natAbs : Nat))), none]) (by (simp only [sSeq, SR.andThen, sIf, sSet_ap, sSetO, sAsg, pName_ap, pTup, pCons, pNil, Option.bind_some, Option.map_some, ofS, sPut, sExpr, sRet, sRetO, sRetV, sRetN, sSkip, sBreak, sPar, mBool, mBin, mUn, mCB, mCBL, mCons, mNil_ap, mPure, mVar, mOwn, mOwn1, mOwnR, mNot, mAnd, mOr, mAndV, mOrV, mIf, mOfB, mTruD, truD, mTup, mLst, mCold, mMut, mMut0, mMove, mCall, mKw, asD, asO, gConsD, gConsS, gNilA_ap, callRes, lvsOf, toLV, refsOf, slotL, slotO, mSeq, mBinO, mPart, mSl, ER.bind, ER.toS, ofO, dropS, List.foldr_cons, List.foldr_nil, List.getElem?_cons_zero, List.getElem?_cons_succ, List.set_cons_zero, List.set_cons_succ, List.length_cons, List.length_nil, List.map_cons, List.map_nil, Nat.reduceAdd, Nat.reduceSub, if_true, if_false, Bool.false_eq_true, Bool.not_true, Bool.not_false, eq_self, decide_true, decide_false, Nat.reduceLeDiff, Nat.reduceEqDiff, reduceCtorEq, add_f, sub_f, neg_f, int_f, intb_f, abs_f, lenl_f, lent_f, lt_f, le_f, gt_f, ge_f, eq_f, ne_f, permL1, permL2, isTup_t, tup0, tup1, PNx, PRt, PRs, PBk, PCt]); first | done | rfl) (by decide) (by decide)
  obtain ⟨b', u', hl⟩ := common_loop (rangeD 0 (12000 : Int).toNat) (t.natAbs : Nat) (b.natAbs : Nat) none (by omega)
  have e : euc (rangeD 0 (12000 : Int).toNat).length (t.natAbs : Nat) (b.natAbs : Nat) = gI t b := by
    have hb := euc_gcd 12000 (t.natAbs : Nat) (b.natAbs : Nat) (by omega) (by
      unfold Sz at h
      have : ((2 ^ 6000 : Nat) : Int) = (2 : Int) ^ (12000 / 2) := by norm_cast
      rw [← this]
      exact Int.ofNat_lt.mpr h)
    rw [rangeD_len]
    rw [Int.natAbs_natCast, Int.natAbs_natCast] at hb
    have h0 : 0 ≤ euc 12000 (t.natAbs : Nat) (b.natAbs : Nat) := euc_nn 12000 _ _ (by omega) (by omega)
    show euc 12000 _ _ = ((Nat.gcd t.natAbs b.natAbs : Nat) : Int)
    omega
  rw [e] at hl
  refine P_seq fun K hK => ?_
  rw [for_ok hr]
  show (forD (pName 2) cbody _ _).P _
  rw [hl, PNx]
  refine hK _ ?_
  (simp only [sSeq, SR.andThen, sIf, sSet_ap, sSetO, sAsg, pName_ap, pTup, pCons, pNil, Option.bind_some, Option.map_some, ofS, sPut, sExpr, sRet, sRetO, sRetV, sRetN, sSkip, sBreak, sPar, mBool, mBin, mUn, mCB, mCBL, mCons, mNil_ap, mPure, mVar, mOwn, mOwn1, mOwnR, mNot, mAnd, mOr, mAndV, mOrV, mIf, mOfB, mTruD, truD, mTup, mLst, mCold, mMut, mMut0, mMove, mCall, mKw, asD, asO, gConsD, gConsS, gNilA_ap, callRes, lvsOf, toLV, refsOf, slotL, slotO, mSeq, mBinO, mPart, mSl, ER.bind, ER.toS, ofO, dropS, List.foldr_cons, List.foldr_nil, List.getElem?_cons_zero, List.getElem?_cons_succ, List.set_cons_zero, List.set_cons_succ, List.length_cons, List.length_nil, List.map_cons, List.map_nil, Nat.reduceAdd, Nat.reduceSub, if_true, if_false, Bool.false_eq_true, Bool.not_true, Bool.not_false, eq_self, decide_true, decide_false, Nat.reduceLeDiff, Nat.reduceEqDiff, reduceCtorEq, add_f, sub_f, neg_f, int_f, intb_f, abs_f, lenl_f, lent_f, lt_f, le_f, gt_f, ge_f, eq_f, ne_f, permL1, permL2, isTup_t, tup0, tup1, PNx, PRt, PRs, PBk, PCt]; first | done | exact ⟨rfl, rfl⟩ | exact ⟨trivial, rfl⟩ | trivial)
end pw_threadsround_k01_whole_quotients_and_rowG

set_option Elab.async false
set_option linter.all false
set_option maxRecDepth 100000
set_option maxHeartbeats 400000
namespace pw_threadsround_k01_whole_quotients_and_rowG
open PySem PySem.Spec L2 Pu
def isZ : D → Bool | .int _ => true | _ => false
def zOf : D → Int | .int i => i | _ => 0
theorem isZ_e {d : D} (h : isZ d = true) : d = .int (zOf d) := by cases d <;> first | rfl | cases h
theorem e_is_integer (x : D) : m_is_integer [.d x] = .ret (.d (.bool (isZ x))) none := by cases x <;> rfl
theorem e__law_is_integer (x : D) : m__law_is_integer [.d x] = .ret (.d (.bool (isZ x))) none := by cases x <;> rfl
def flatZ : D → Bool | .tuple xs => xs.all isZ | _ => false
theorem bools (xs : List D) (f : D → Bool) : boolsOf (xs.map fun d => .bool (f d)) = some (xs.map f) := by
  induction xs with
  | nil => rfl
  | cons d r ih => rw [List.map_cons, List.map_cons, boolsOf, ih]; rfl
theorem e_is_integer_tuple (x : D) (hx : ∀ xs, x = .tuple xs → xs.length ≤ 1000) : m_is_integer_tuple [.d x] = .ret (.d (.bool (flatZ x))) none := by
  cases x with
  | tuple xs =>
    unfold m_is_integer_tuple
    refine def_rt (σ := [some (.d (.tuple xs)), none]) ?_
    have hc : mComp (mSeq (mVar 0)) (pName 1) (mPure true) (asD (mCall 1 m_is_integer none (gConsD (mVar 1) gNilA))) [1] [some (.d (.tuple xs)), none] = .ok (.lst (xs.map fun d => .bool (isZ d))) [some (.d (.tuple xs)), none] := by
      unfold mComp
      simp only [sSeq, SR.andThen, sIf, sSet_ap, sSetO, sAsg, pName_ap, pTup, pCons, pNil, Option.bind_some, Option.map_some, ofS, sPut, sExpr, sRet, sRetO, sRetV, sRetN, sSkip, sBreak, sPar, mBool, mBin, mUn, mCB, mCBL, mCons, mNil_ap, mPure, mVar, mOwn, mOwn1, mOwnR, mNot, mAnd, mOr, mAndV, mOrV, mIf, mOfB, mTruD, truD, mTup, mLst, mCold, mMut, mMut0, mMove, mCall, mKw, asD, asO, gConsD, gConsS, gNilA_ap, callRes, lvsOf, toLV, refsOf, slotL, slotO, mSeq, mBinO, mPart, mSl, ER.bind, ER.toS, ofO, dropS, List.foldr_cons, List.foldr_nil, List.getElem?_cons_zero, List.getElem?_cons_succ, List.set_cons_zero, List.set_cons_succ, List.length_cons, List.length_nil, List.map_cons, List.map_nil, Nat.reduceAdd, Nat.reduceSub, if_true, if_false, Bool.false_eq_true, Bool.not_true, Bool.not_false, eq_self, decide_true, decide_false, Nat.reduceLeDiff, Nat.reduceEqDiff, reduceCtorEq, add_f, sub_f, neg_f, int_f, intb_f, abs_f, lenl_f, lent_f, lt_f, le_f, gt_f, ge_f, eq_f, ne_f, permL1, permL2, isTup_t, tup0, tup1, PNx, PRt, PRs, PBk, PCt]
      rw [if_pos (by have := hx _ rfl; omega)]
      exact comp_map _ xs [] fun d _ => ⟨[some (.d (.tuple xs)), some (.d d)], _, _, rfl, rfl, (by (simp only [sSeq, SR.andThen, sIf, sSet_ap, sSetO, sAsg, pName_ap, pTup, pCons, pNil, Option.bind_some, Option.map_some, ofS, sPut, sExpr, sRet, sRetO, sRetV, sRetN, sSkip, sBreak, sPar, mBool, mBin, mUn, mCB, mCBL, mCons, mNil_ap, mPure, mVar, mOwn, mOwn1, mOwnR, mNot, mAnd, mOr, mAndV, mOrV, mIf, mOfB, mTruD, truD, mTup, mLst, mCold, mMut, mMut0, mMove, mCall, mKw, asD, asO, gConsD, gConsS, gNilA_ap, callRes, lvsOf, toLV, refsOf, slotL, slotO, mSeq, mBinO, mPart, mSl, ER.bind, ER.toS, ofO, dropS, List.foldr_cons, List.foldr_nil, List.getElem?_cons_zero, List.getElem?_cons_succ, List.set_cons_zero, List.set_cons_succ, List.length_cons, List.length_nil, List.map_cons, List.map_nil, Nat.reduceAdd, Nat.reduceSub, if_true, if_false, Bool.false_eq_true, Bool.not_true, Bool.not_false, eq_self, decide_true, decide_false, Nat.reduceLeDiff, Nat.reduceEqDiff, reduceCtorEq, add_f, sub_f, neg_f, int_f, intb_f, abs_f, lenl_f, lent_f, lt_f, le_f, gt_f, ge_f, eq_f, ne_f, permL1, permL2, isTup_t, tup0, tup1, PNx, PRt, PRs, PBk, PCt, e_is_integer]); first | done | rfl), rfl⟩
    have ht : isTup (.tuple xs) = true := rfl
    have hb : ((lst1 [.list (xs.map fun d => .bool (isZ d))]).bind hAll) = some (.bool (xs.all isZ)) := by
      show hAll _ = _
      unfold hAll
      rw [bools, Option.map_some, List.all_map]
      rfl
    simp only [sSeq, SR.andThen, sIf, sSet_ap, sSetO, sAsg, pName_ap, pTup, pCons, pNil, Option.bind_some, Option.map_some, ofS, sPut, sExpr, sRet, sRetO, sRetV, sRetN, sSkip, sBreak, sPar, mBool, mBin, mUn, mCB, mCBL, mCons, mNil_ap, mPure, mVar, mOwn, mOwn1, mOwnR, mNot, mAnd, mOr, mAndV, mOrV, mIf, mOfB, mTruD, truD, mTup, mLst, mCold, mMut, mMut0, mMove, mCall, mKw, asD, asO, gConsD, gConsS, gNilA_ap, callRes, lvsOf, toLV, refsOf, slotL, slotO, mSeq, mBinO, mPart, mSl, ER.bind, ER.toS, ofO, dropS, List.foldr_cons, List.foldr_nil, List.getElem?_cons_zero, List.getElem?_cons_succ, List.set_cons_zero, List.set_cons_succ, List.length_cons, List.length_nil, List.map_cons, List.map_nil, Nat.reduceAdd, Nat.reduceSub, if_true, if_false, Bool.false_eq_true, Bool.not_true, Bool.not_false, eq_self, decide_true, decide_false, Nat.reduceLeDiff, Nat.reduceEqDiff, reduceCtorEq, add_f, sub_f, neg_f, int_f, intb_f, abs_f, lenl_f, lent_f, lt_f, le_f, gt_f, ge_f, eq_f, ne_f, permL1, permL2, isTup_t, tup0, tup1, PNx, PRt, PRs, PBk, PCt, pad, List.cons_append, List.nil_append, List.replicate, ht, hc, hb]
    rfl
  | _ => rfl
/-! the same -/
def isI (a : Int) : D → Bool | .int i => decide (i = a) | _ => false
def isP (a b : Int) : D → Bool | .tuple [x, y] => isI a x && isI b y | _ => false
theorem isI_e {a : Int} {x : D} (h : isI a x = true) : x = .int a := by
  unfold isI at h
  split at h
  · rw [of_decide_eq_true h]
  · cases h
theorem isP_e {a b : Int} {x : D} (h : isP a b x = true) : x = .tuple [.int a, .int b] := by
  unfold isP at h
  split at h
  · have h := Bool.and_eq_true_iff.mp h
    rw [isI_e h.1, isI_e h.2]
  · cases h
theorem isP_r {a b : Int} : isP a b (.tuple [.int a, .int b]) = true := by unfold isP isI; simp
theorem same_int (z : Nat) (x : D) (a : Int) : m__law_same (z + 1) [.d x, .d (.int a)] = .ret (.d (.bool (isI a x))) none := by cases x <;> rfl
theorem same_bool (z : Nat) (a b : Bool) : m__law_same (z + 1) [.d (.bool a), .d (.bool b)] = .ret (.d (.bool (a == b))) none := by cases a <;> cases b <;> rfl
theorem same_str (z : Nat) (a : Str) : m__law_same (z + 1) [.d (.str a), .d (.str a)] = .ret (.d (.bool true)) none := by
  show CRes.ret (.d (.bool (decide (a = a)))) none = _
  rw [decide_eq_true rfl]
theorem same_tupM (mr : Fd) (x1 x2 y1 y2 : D) (b1 b2 : Bool) (h1 : mr [.d x1, .d y1] = .ret (.d (.bool b1)) none) (h2 : mr [.d x2, .d y2] = .ret (.d (.bool b2)) none) :
    bd__law_same mr [.d (.tuple [x1, x2]), .d (.tuple [y1, y2])] = .ret (.d (.bool (b1 && b2))) none := by
  unfold bd__law_same
  refine P_eq (def_P ?_)
  refine P_seq' ?_
  refine P_if (k := true) (by (simp only [sSeq, SR.andThen, sIf, sSet_ap, sSetO, sAsg, pName_ap, pTup, pCons, pNil, Option.bind_some, Option.map_some, ofS, sPut, sExpr, sRet, sRetO, sRetV, sRetN, sSkip, sBreak, sPar, mBool, mBin, mUn, mCB, mCBL, mCons, mNil_ap, mPure, mVar, mOwn, mOwn1, mOwnR, mNot, mAnd, mOr, mAndV, mOrV, mIf, mOfB, mTruD, truD, mTup, mLst, mCold, mMut, mMut0, mMove, mCall, mKw, asD, asO, gConsD, gConsS, gNilA_ap, callRes, lvsOf, toLV, refsOf, slotL, slotO, mSeq, mBinO, mPart, mSl, ER.bind, ER.toS, ofO, dropS, List.foldr_cons, List.foldr_nil, List.getElem?_cons_zero, List.getElem?_cons_succ, List.set_cons_zero, List.set_cons_succ, List.length_cons, List.length_nil, List.map_cons, List.map_nil, Nat.reduceAdd, Nat.reduceSub, if_true, if_false, Bool.false_eq_true, Bool.not_true, Bool.not_false, eq_self, decide_true, decide_false, Nat.reduceLeDiff, Nat.reduceEqDiff, reduceCtorEq, add_f, sub_f, neg_f, int_f, intb_f, abs_f, lenl_f, lent_f, lt_f, le_f, gt_f, ge_f, eq_f, ne_f, permL1, permL2, isTup_t, tup0, tup1, PNx, PRt, PRs, PBk, PCt, pad, List.cons_append, List.nil_append, List.replicate, isTup_t]); first | done | rfl) (fun _ => ?_) (fun h => by cases h)
  refine P_seq fun K hK => ?_
  simp only [sSeq, SR.andThen, sIf, sSet_ap, sSetO, sAsg, pName_ap, pTup, pCons, pNil, Option.bind_some, Option.map_some, ofS, sPut, sExpr, sRet, sRetO, sRetV, sRetN, sSkip, sBreak, sPar, mBool, mBin, mUn, mCB, mCBL, mCons, mNil_ap, mPure, mVar, mOwn, mOwn1, mOwnR, mNot, mAnd, mOr, mAndV, mOrV, mIf, mOfB, mTruD, truD, mTup, mLst, mCold, mMut, mMut0, mMove, mCall, mKw, asD, asO, gConsD, gConsS, gNilA_ap, callRes, lvsOf, toLV, refsOf, slotL, slotO, mSeq, mBinO, mPart, mSl, ER.bind, ER.toS, ofO, dropS, List.foldr_cons, List.foldr_nil, List.getElem?_cons_zero, List.getElem?_cons_succ, List.set_cons_zero, List.set_cons_succ, List.length_cons, List.length_nil, List.map_cons, List.map_nil, Nat.reduceAdd, Nat.reduceSub, if_true, if_false, Bool.false_eq_true, Bool.not_true, Bool.not_false, eq_self, decide_true, decide_false, Nat.reduceLeDiff, Nat.reduceEqDiff, reduceCtorEq, add_f, sub_f, neg_f, int_f, intb_f, abs_f, lenl_f, lent_f, lt_f, le_f, gt_f, ge_f, eq_f, ne_f, permL1, permL2, isTup_t, tup0, tup1, PNx, PRt, PRs, PBk, PCt, pad, List.cons_append, List.nil_append, List.replicate, isTup_t]
  refine hK _ ?_
  clear hK K
  refine P_seq' ?_
  have hr : mRange1 (mCons (mCB gLen (mCons (mVar 1) mNil)) mNil) [some (.d (.tuple [x1, x2])), some (.d (.tuple [y1, y2])), none] = .ok [.int 0, .int 1] [some (.d (.tuple [x1, x2])), some (.d (.tuple [y1, y2])), none] := range1_ok (n := 2) (by (simp only [sSeq, SR.andThen, sIf, sSet_ap, sSetO, sAsg, pName_ap, pTup, pCons, pNil, Option.bind_some, Option.map_some, ofS, sPut, sExpr, sRet, sRetO, sRetV, sRetN, sSkip, sBreak, sPar, mBool, mBin, mUn, mCB, mCBL, mCons, mNil_ap, mPure, mVar, mOwn, mOwn1, mOwnR, mNot, mAnd, mOr, mAndV, mOrV, mIf, mOfB, mTruD, truD, mTup, mLst, mCold, mMut, mMut0, mMove, mCall, mKw, asD, asO, gConsD, gConsS, gNilA_ap, callRes, lvsOf, toLV, refsOf, slotL, slotO, mSeq, mBinO, mPart, mSl, ER.bind, ER.toS, ofO, dropS, List.foldr_cons, List.foldr_nil, List.getElem?_cons_zero, List.getElem?_cons_succ, List.set_cons_zero, List.set_cons_succ, List.length_cons, List.length_nil, List.map_cons, List.map_nil, Nat.reduceAdd, Nat.reduceSub, if_true, if_false, Bool.false_eq_true, Bool.not_true, Bool.not_false, eq_self, decide_true, decide_false, Nat.reduceLeDiff, Nat.reduceEqDiff, reduceCtorEq, add_f, sub_f, neg_f, int_f, intb_f, abs_f, lenl_f, lent_f, lt_f, le_f, gt_f, ge_f, eq_f, ne_f, permL1, permL2, isTup_t, tup0, tup1, PNx, PRt, PRs, PBk, PCt]); first | done | rfl) (by decide) (by decide)
  unfold sFor
  rw [hr]
  cases b1 <;> cases b2 <;> (simp only [sSeq, SR.andThen, sIf, sSet_ap, sSetO, sAsg, pName_ap, pTup, pCons, pNil, Option.bind_some, Option.map_some, ofS, sPut, sExpr, sRet, sRetO, sRetV, sRetN, sSkip, sBreak, sPar, mBool, mBin, mUn, mCB, mCBL, mCons, mNil_ap, mPure, mVar, mOwn, mOwn1, mOwnR, mNot, mAnd, mOr, mAndV, mOrV, mIf, mOfB, mTruD, truD, mTup, mLst, mCold, mMut, mMut0, mMove, mCall, mKw, asD, asO, gConsD, gConsS, gNilA_ap, callRes, lvsOf, toLV, refsOf, slotL, slotO, mSeq, mBinO, mPart, mSl, ER.bind, ER.toS, ofO, dropS, List.foldr_cons, List.foldr_nil, List.getElem?_cons_zero, List.getElem?_cons_succ, List.set_cons_zero, List.set_cons_succ, List.length_cons, List.length_nil, List.map_cons, List.map_nil, Nat.reduceAdd, Nat.reduceSub, if_true, if_false, Bool.false_eq_true, Bool.not_true, Bool.not_false, eq_self, decide_true, decide_false, Nat.reduceLeDiff, Nat.reduceEqDiff, reduceCtorEq, add_f, sub_f, neg_f, int_f, intb_f, abs_f, lenl_f, lent_f, lt_f, le_f, gt_f, ge_f, eq_f, ne_f, permL1, permL2, isTup_t, tup0, tup1, PNx, PRt, PRs, PBk, PCt, forD_n, forD_c, turn_nx, turn_bk, turn_rt, h1, h2]; exact ⟨rfl, rfl⟩)
theorem same_tup (z : Nat) (x1 x2 y1 y2 : D) (b1 b2 : Bool) (h1 : m__law_same (z + 1) [.d x1, .d y1] = .ret (.d (.bool b1)) none) (h2 : m__law_same (z + 1) [.d x2, .d y2] = .ret (.d (.bool b2)) none) :
    m__law_same (z + 1 + 1) [.d (.tuple [x1, x2]), .d (.tuple [y1, y2])] = .ret (.d (.bool (b1 && b2))) none := same_tupM (m__law_same (z + 1)) x1 x2 y1 y2 b1 b2 h1 h2
theorem same_pair (z : Nat) (x : D) (a b : Int) : m__law_same (z + 1 + 1) [.d x, .d (.tuple [.int a, .int b])] = .ret (.d (.bool (isP a b x))) none := by
  match x with
  | .tuple [x1, x2] => exact same_tup z x1 x2 _ _ _ _ (same_int z x1 a) (same_int z x2 b)
  | .tuple [] => rfl
  | .tuple [x1] => rfl
  | .tuple (x1 :: x2 :: x3 :: r) =>
    have hl : decide (((x1 :: x2 :: x3 :: r).length : Int) = (([PyData.int a, .int b] : List D).length : Int)) = false := decide_eq_false (by simp only [List.length_cons, List.length_nil]; omega)
    show bd__law_same (m__law_same (z + 1)) _ = _
    unfold bd__law_same
    generalize hx : x1 :: x2 :: x3 :: r = xs at hl
    refine P_eq (def_P ?_)
    refine P_seq' ?_
    refine P_if (k := true) (by (simp only [sSeq, SR.andThen, sIf, sSet_ap, sSetO, sAsg, pName_ap, pTup, pCons, pNil, Option.bind_some, Option.map_some, ofS, sPut, sExpr, sRet, sRetO, sRetV, sRetN, sSkip, sBreak, sPar, mBool, mBin, mUn, mCB, mCBL, mCons, mNil_ap, mPure, mVar, mOwn, mOwn1, mOwnR, mNot, mAnd, mOr, mAndV, mOrV, mIf, mOfB, mTruD, truD, mTup, mLst, mCold, mMut, mMut0, mMove, mCall, mKw, asD, asO, gConsD, gConsS, gNilA_ap, callRes, lvsOf, toLV, refsOf, slotL, slotO, mSeq, mBinO, mPart, mSl, ER.bind, ER.toS, ofO, dropS, List.foldr_cons, List.foldr_nil, List.getElem?_cons_zero, List.getElem?_cons_succ, List.set_cons_zero, List.set_cons_succ, List.length_cons, List.length_nil, List.map_cons, List.map_nil, Nat.reduceAdd, Nat.reduceSub, if_true, if_false, Bool.false_eq_true, Bool.not_true, Bool.not_false, eq_self, decide_true, decide_false, Nat.reduceLeDiff, Nat.reduceEqDiff, reduceCtorEq, add_f, sub_f, neg_f, int_f, intb_f, abs_f, lenl_f, lent_f, lt_f, le_f, gt_f, ge_f, eq_f, ne_f, permL1, permL2, isTup_t, tup0, tup1, PNx, PRt, PRs, PBk, PCt, pad, List.cons_append, List.nil_append, List.replicate, isTup_t]); first | done | rfl) (fun _ => ?_) (fun h => by cases h)
    have hc : ∀ σ, σ = pad 3 [.d (.tuple xs), .d (.tuple [.int a, .int b])] → mOr (mNot (mTruD (mUn (fun d => some (.bool (isTup d))) (mVar 0)))) (mBool (mBin fNe (mCB gLen (mCons (mVar 0) mNil)) (mCB gLen (mCons (mVar 1) mNil)))) σ = .ok true σ := by
      rintro σ rfl
      show (ER.ok (!decide ((xs.length : Int) = (([PyData.int a, .int b] : List D).length : Int))) _ : ER Bool) = _
      rw [hl]; rfl
    refine P_seq' (P_if (hc _ (by simp only [pad, List.cons_append, List.nil_append, List.replicate, List.map_cons, List.map_nil, List.length_cons, List.length_nil, Nat.reduceAdd, Nat.reduceSub])) (fun _ => ?_) fun h => by cases h)
    simp only [sSeq, SR.andThen, sIf, sSet_ap, sSetO, sAsg, pName_ap, pTup, pCons, pNil, Option.bind_some, Option.map_some, ofS, sPut, sExpr, sRet, sRetO, sRetV, sRetN, sSkip, sBreak, sPar, mBool, mBin, mUn, mCB, mCBL, mCons, mNil_ap, mPure, mVar, mOwn, mOwn1, mOwnR, mNot, mAnd, mOr, mAndV, mOrV, mIf, mOfB, mTruD, truD, mTup, mLst, mCold, mMut, mMut0, mMove, mCall, mKw, asD, asO, gConsD, gConsS, gNilA_ap, callRes, lvsOf, toLV, refsOf, slotL, slotO, mSeq, mBinO, mPart, mSl, ER.bind, ER.toS, ofO, dropS, List.foldr_cons, List.foldr_nil, List.getElem?_cons_zero, List.getElem?_cons_succ, List.set_cons_zero, List.set_cons_succ, List.length_cons, List.length_nil, List.map_cons, List.map_nil, Nat.reduceAdd, Nat.reduceSub, if_true, if_false, Bool.false_eq_true, Bool.not_true, Bool.not_false, eq_self, decide_true, decide_false, Nat.reduceLeDiff, Nat.reduceEqDiff, reduceCtorEq, add_f, sub_f, neg_f, int_f, intb_f, abs_f, lenl_f, lent_f, lt_f, le_f, gt_f, ge_f, eq_f, ne_f, permL1, permL2, isTup_t, tup0, tup1, PNx, PRt, PRs, PBk, PCt]
    exact ⟨by rw [← hx]; rfl, rfl⟩
  | .none => rfl
  | .bool _ => rfl
  | .int _ => rfl
  | .str _ => rfl
  | .list _ => rfl
  | .dict _ => rfl
/-! kinds -/
def pairZ : D → Bool | .tuple [.int _, .int _] => true | _ => false
theorem pairZ_of {a b : D} : pairZ (.tuple [a, b]) = (isZ a && isZ b) := by cases a <;> cases b <;> rfl
theorem flat_len {xs : List D} : (flatZ (.tuple xs) && decide ((xs.length : Int) = 2)) = pairZ (.tuple xs) := by
  match xs with
  | [] => rfl
  | [a] => cases a <;> rfl
  | [a, b] => cases a <;> cases b <;> rfl
  | a :: b :: c :: r =>
    rw [decide_eq_false (by simp only [List.length_cons]; omega), Bool.and_false]; cases a <;> cases b <;> rfl
theorem e_is_integer_pair (x : D) (hx : ∀ xs, x = .tuple xs → xs.length ≤ 1000) : m_is_integer_pair [.d x] = .ret (.d (.bool (pairZ x))) none := by
  cases x with
  | tuple xs =>
    unfold m_is_integer_pair
    refine P_eq (def_P ?_)
    have e := e_is_integer_tuple (.tuple xs) hx
    rw [← flat_len]
    cases hf : flatZ (.tuple xs) with
    | true => (simp only [sSeq, SR.andThen, sIf, sSet_ap, sSetO, sAsg, pName_ap, pTup, pCons, pNil, Option.bind_some, Option.map_some, ofS, sPut, sExpr, sRet, sRetO, sRetV, sRetN, sSkip, sBreak, sPar, mBool, mBin, mUn, mCB, mCBL, mCons, mNil_ap, mPure, mVar, mOwn, mOwn1, mOwnR, mNot, mAnd, mOr, mAndV, mOrV, mIf, mOfB, mTruD, truD, mTup, mLst, mCold, mMut, mMut0, mMove, mCall, mKw, asD, asO, gConsD, gConsS, gNilA_ap, callRes, lvsOf, toLV, refsOf, slotL, slotO, mSeq, mBinO, mPart, mSl, ER.bind, ER.toS, ofO, dropS, List.foldr_cons, List.foldr_nil, List.getElem?_cons_zero, List.getElem?_cons_succ, List.set_cons_zero, List.set_cons_succ, List.length_cons, List.length_nil, List.map_cons, List.map_nil, Nat.reduceAdd, Nat.reduceSub, if_true, if_false, Bool.false_eq_true, Bool.not_true, Bool.not_false, eq_self, decide_true, decide_false, Nat.reduceLeDiff, Nat.reduceEqDiff, reduceCtorEq, add_f, sub_f, neg_f, int_f, intb_f, abs_f, lenl_f, lent_f, lt_f, le_f, gt_f, ge_f, eq_f, ne_f, permL1, permL2, isTup_t, tup0, tup1, PNx, PRt, PRs, PBk, PCt, e, hf, pad, List.cons_append, List.nil_append, List.replicate, Bool.true_and]; first | done | exact ⟨rfl, rfl⟩ | exact ⟨trivial, rfl⟩ | trivial)
    | false => (simp only [sSeq, SR.andThen, sIf, sSet_ap, sSetO, sAsg, pName_ap, pTup, pCons, pNil, Option.bind_some, Option.map_some, ofS, sPut, sExpr, sRet, sRetO, sRetV, sRetN, sSkip, sBreak, sPar, mBool, mBin, mUn, mCB, mCBL, mCons, mNil_ap, mPure, mVar, mOwn, mOwn1, mOwnR, mNot, mAnd, mOr, mAndV, mOrV, mIf, mOfB, mTruD, truD, mTup, mLst, mCold, mMut, mMut0, mMove, mCall, mKw, asD, asO, gConsD, gConsS, gNilA_ap, callRes, lvsOf, toLV, refsOf, slotL, slotO, mSeq, mBinO, mPart, mSl, ER.bind, ER.toS, ofO, dropS, List.foldr_cons, List.foldr_nil, List.getElem?_cons_zero, List.getElem?_cons_succ, List.set_cons_zero, List.set_cons_succ, List.length_cons, List.length_nil, List.map_cons, List.map_nil, Nat.reduceAdd, Nat.reduceSub, if_true, if_false, Bool.false_eq_true, Bool.not_true, Bool.not_false, eq_self, decide_true, decide_false, Nat.reduceLeDiff, Nat.reduceEqDiff, reduceCtorEq, add_f, sub_f, neg_f, int_f, intb_f, abs_f, lenl_f, lent_f, lt_f, le_f, gt_f, ge_f, eq_f, ne_f, permL1, permL2, isTup_t, tup0, tup1, PNx, PRt, PRs, PBk, PCt, e, hf, pad, List.cons_append, List.nil_append, List.replicate, Bool.false_and]; first | done | exact ⟨rfl, rfl⟩ | exact ⟨trivial, rfl⟩ | trivial)
  | _ => rfl
def quotZ : D → Bool | .tuple [.int a, .int b] => decide (1 ≤ b) && decide (Nat.gcd a.natAbs b.natAbs = 1) | _ => false
theorem pairZ_e {x : D} (h : pairZ x = true) : ∃ a b, x = .tuple [.int a, .int b] := by
  unfold pairZ at h
  split at h
  · exact ⟨_, _, rfl⟩
  · cases h
theorem quotZ_f {x : D} (h : pairZ x = false) : quotZ x = false := by
  unfold quotZ
  split
  · cases h
  · rfl
theorem e_is_quotient (x : D) (hx : ∀ xs, x = .tuple xs → xs.length ≤ 1000) : m_is_quotient [.d x] = .ret (.d (.bool (quotZ x))) none := by
  unfold m_is_quotient
  refine P_eq (def_P ?_)
  have e := e_is_integer_pair x hx
  cases hf : pairZ x with
  | true =>
    obtain ⟨a, b, rfl⟩ := pairZ_e hf
    have i0 : fIx (.tuple [.int a, .int b]) (.int 0) = some (.int a) := rfl
    have i1 : fIx (.tuple [.int a, .int b]) (.int 1) = some (.int b) := rfl
    have g : gGcd [.int a, .int b] = some (.int ((Nat.gcd a.natAbs b.natAbs : Nat) : Int)) := rfl
    have q : quotZ (.tuple [.int a, .int b]) = (decide (1 ≤ b) && decide (Nat.gcd a.natAbs b.natAbs = 1)) := rfl
    rw [q]
    have hg : decide (((Nat.gcd a.natAbs b.natAbs : Nat) : Int) = 1) = decide (Nat.gcd a.natAbs b.natAbs = 1) := by
      rw [decide_eq_decide]; omega
    cases h1 : decide (1 ≤ b) with
    | true => (simp only [sSeq, SR.andThen, sIf, sSet_ap, sSetO, sAsg, pName_ap, pTup, pCons, pNil, Option.bind_some, Option.map_some, ofS, sPut, sExpr, sRet, sRetO, sRetV, sRetN, sSkip, sBreak, sPar, mBool, mBin, mUn, mCB, mCBL, mCons, mNil_ap, mPure, mVar, mOwn, mOwn1, mOwnR, mNot, mAnd, mOr, mAndV, mOrV, mIf, mOfB, mTruD, truD, mTup, mLst, mCold, mMut, mMut0, mMove, mCall, mKw, asD, asO, gConsD, gConsS, gNilA_ap, callRes, lvsOf, toLV, refsOf, slotL, slotO, mSeq, mBinO, mPart, mSl, ER.bind, ER.toS, ofO, dropS, List.foldr_cons, List.foldr_nil, List.getElem?_cons_zero, List.getElem?_cons_succ, List.set_cons_zero, List.set_cons_succ, List.length_cons, List.length_nil, List.map_cons, List.map_nil, Nat.reduceAdd, Nat.reduceSub, if_true, if_false, Bool.false_eq_true, Bool.not_true, Bool.not_false, eq_self, decide_true, decide_false, Nat.reduceLeDiff, Nat.reduceEqDiff, reduceCtorEq, add_f, sub_f, neg_f, int_f, intb_f, abs_f, lenl_f, lent_f, lt_f, le_f, gt_f, ge_f, eq_f, ne_f, permL1, permL2, isTup_t, tup0, tup1, PNx, PRt, PRs, PBk, PCt, e, hf, pad, List.cons_append, List.nil_append, List.replicate, i0, i1, g, h1, hg, Bool.true_and]; first | done | exact ⟨rfl, rfl⟩ | exact ⟨trivial, rfl⟩ | trivial)
    | false => (simp only [sSeq, SR.andThen, sIf, sSet_ap, sSetO, sAsg, pName_ap, pTup, pCons, pNil, Option.bind_some, Option.map_some, ofS, sPut, sExpr, sRet, sRetO, sRetV, sRetN, sSkip, sBreak, sPar, mBool, mBin, mUn, mCB, mCBL, mCons, mNil_ap, mPure, mVar, mOwn, mOwn1, mOwnR, mNot, mAnd, mOr, mAndV, mOrV, mIf, mOfB, mTruD, truD, mTup, mLst, mCold, mMut, mMut0, mMove, mCall, mKw, asD, asO, gConsD, gConsS, gNilA_ap, callRes, lvsOf, toLV, refsOf, slotL, slotO, mSeq, mBinO, mPart, mSl, ER.bind, ER.toS, ofO, dropS, List.foldr_cons, List.foldr_nil, List.getElem?_cons_zero, List.getElem?_cons_succ, List.set_cons_zero, List.set_cons_succ, List.length_cons, List.length_nil, List.map_cons, List.map_nil, Nat.reduceAdd, Nat.reduceSub, if_true, if_false, Bool.false_eq_true, Bool.not_true, Bool.not_false, eq_self, decide_true, decide_false, Nat.reduceLeDiff, Nat.reduceEqDiff, reduceCtorEq, add_f, sub_f, neg_f, int_f, intb_f, abs_f, lenl_f, lent_f, lt_f, le_f, gt_f, ge_f, eq_f, ne_f, permL1, permL2, isTup_t, tup0, tup1, PNx, PRt, PRs, PBk, PCt, e, hf, pad, List.cons_append, List.nil_append, List.replicate, i0, i1, g, h1, hg, Bool.false_and]; first | done | exact ⟨rfl, rfl⟩ | exact ⟨trivial, rfl⟩ | trivial)
  | false =>
    rw [quotZ_f hf]
    (simp only [sSeq, SR.andThen, sIf, sSet_ap, sSetO, sAsg, pName_ap, pTup, pCons, pNil, Option.bind_some, Option.map_some, ofS, sPut, sExpr, sRet, sRetO, sRetV, sRetN, sSkip, sBreak, sPar, mBool, mBin, mUn, mCB, mCBL, mCons, mNil_ap, mPure, mVar, mOwn, mOwn1, mOwnR, mNot, mAnd, mOr, mAndV, mOrV, mIf, mOfB, mTruD, truD, mTup, mLst, mCold, mMut, mMut0, mMove, mCall, mKw, asD, asO, gConsD, gConsS, gNilA_ap, callRes, lvsOf, toLV, refsOf, slotL, slotO, mSeq, mBinO, mPart, mSl, ER.bind, ER.toS, ofO, dropS, List.foldr_cons, List.foldr_nil, List.getElem?_cons_zero, List.getElem?_cons_succ, List.set_cons_zero, List.set_cons_succ, List.length_cons, List.length_nil, List.map_cons, List.map_nil, Nat.reduceAdd, Nat.reduceSub, if_true, if_false, Bool.false_eq_true, Bool.not_true, Bool.not_false, eq_self, decide_true, decide_false, Nat.reduceLeDiff, Nat.reduceEqDiff, reduceCtorEq, add_f, sub_f, neg_f, int_f, intb_f, abs_f, lenl_f, lent_f, lt_f, le_f, gt_f, ge_f, eq_f, ne_f, permL1, permL2, isTup_t, tup0, tup1, PNx, PRt, PRs, PBk, PCt, e, hf, pad, List.cons_append, List.nil_append, List.replicate]; first | done | exact ⟨rfl, rfl⟩ | exact ⟨trivial, rfl⟩ | trivial)
theorem flat_ints {xs : List D} (h : xs.all isZ = true) : xs = (xs.map zOf).map PyData.int := by
  induction xs with
  | nil => rfl
  | cons d r ih =>
    rw [List.all_cons, Bool.and_eq_true] at h
    rw [List.map_cons, List.map_cons, ← ih h.2, ← isZ_e h.1]
theorem all_ints (ns : List Int) : (ns.map PyData.int).all isZ = true := by rw [List.all_map]; exact List.all_eq_true.mpr fun _ _ => rfl
theorem canLay_ints : ∀ ns : List Int, PyData.canLayAll0 (ns.map PyData.int) = true
  | [] => rfl
  | a :: r => by rw [List.map_cons, PyData.canLayAll0, canLay_ints r]; rfl
theorem depth_ints : ∀ ns : List Int, PyData.depthAll (ns.map PyData.int) = 0
  | [] => rfl
  | a :: r => by rw [List.map_cons, PyData.depthAll, depth_ints r]; rfl
theorem shaped_ints (ns : List Int) : SeqAt.shaped (.tuple (ns.map PyData.int)) = true := by
  unfold SeqAt.shaped
  rw [PyData.canLay0, canLay_ints, PyData.depth, depth_ints]; rfl
theorem shaped_lints (ns : List Int) : SeqAt.shaped (.list (ns.map PyData.int)) = true := by
  unfold SeqAt.shaped
  rw [PyData.canLay0, canLay_ints, PyData.depth, depth_ints]; rfl
theorem eqv_ints : ∀ ns ms : List Int, PyData.eqvAll (ns.map PyData.int) (ms.map PyData.int) = decide (ns = ms)
  | [], [] => by simp [PyData.eqvAll]
  | [], b :: s => by simp [PyData.eqvAll]
  | a :: r, [] => by simp [PyData.eqvAll]
  | a :: r, b :: s => by
    rw [List.map_cons, List.map_cons, PyData.eqvAll, eqv_ints r s]
    by_cases h : a = b <;> by_cases h2 : r = s <;> simp [h, h2, PyData.eqv]
theorem eq_tints (ns ms : List Int) : fEq (.tuple (ns.map PyData.int)) (.tuple (ms.map PyData.int)) = some (.bool (decide (ns = ms))) := by
  show (if SeqAt.shaped _ = true ∧ SeqAt.shaped _ = true then _ else _) = _
  rw [if_pos ⟨shaped_ints ns, shaped_ints ms⟩, PyData.eqv, eqv_ints]
theorem eq_lints (ns ms : List Int) : fEq (.list (ns.map PyData.int)) (.list (ms.map PyData.int)) = some (.bool (decide (ns = ms))) := by
  show (if SeqAt.shaped _ = true ∧ SeqAt.shaped _ = true then _ else _) = _
  rw [if_pos ⟨shaped_lints ns, shaped_lints ms⟩, PyData.eqv, eqv_ints]
/-- of what is flat -/
theorem flat_cases (x : D) : flatZ x = false ∨ ∃ ns : List Int, x = .tuple (ns.map PyData.int) := by
  cases h : flatZ x with
  | false => exact .inl rfl
  | true =>
    cases x with
    | tuple xs => exact .inr ⟨xs.map zOf, by rw [← flat_ints h]⟩
    | _ => cases h
theorem flat_t (ns : List Int) : flatZ (.tuple (ns.map PyData.int)) = true := all_ints ns
def rowI : List Int → Bool | [] => true | a :: r => decide ((a :: r).getLast (by simp) ≠ 0)
def rowZ (x : D) : Bool := match x with | .tuple xs => xs.all isZ && rowI (xs.map zOf) | _ => false
theorem zOf_ints (ns : List Int) : (ns.map PyData.int).map zOf = ns := by
  induction ns with
  | nil => rfl
  | cons a r ih => rw [List.map_cons, List.map_cons, ih]; rfl
theorem last_ix (a : Int) (r : List Int) : fIx (.tuple ((a :: r).map PyData.int)) (.int (-1)) = some (.int ((a :: r).getLast (by simp))) := by
  show atI _ _ = _
  unfold atI ixN
  rw [if_neg (by decide), if_pos (by rw [List.length_map, List.length_cons]; omega)]
  show ((a :: r).map PyData.int)[_]? = _
  rw [List.length_map, show (-1 + (((a :: r).length : Nat) : Int)).toNat = (a :: r).length - 1 from by rw [List.length_cons]; omega, List.getElem?_map, ← List.getLast?_eq_getElem?, List.getLast?_eq_some_getLast (by simp)]
  rfl
theorem e_is_row (x : D) (hx : ∀ xs, x = .tuple xs → xs.length ≤ 1000) : m_is_row [.d x] = .ret (.d (.bool (rowZ x))) none := by
  rcases flat_cases x with h | ⟨ns, rfl⟩
  · have hr : rowZ x = false := by
      cases x with
      | tuple xs => show (xs.all isZ && _) = false; rw [show xs.all isZ = false from h]; rfl
      | _ => rfl
    unfold m_is_row
    refine P_eq (def_P ?_)
    rw [hr]
    (simp only [sSeq, SR.andThen, sIf, sSet_ap, sSetO, sAsg, pName_ap, pTup, pCons, pNil, Option.bind_some, Option.map_some, ofS, sPut, sExpr, sRet, sRetO, sRetV, sRetN, sSkip, sBreak, sPar, mBool, mBin, mUn, mCB, mCBL, mCons, mNil_ap, mPure, mVar, mOwn, mOwn1, mOwnR, mNot, mAnd, mOr, mAndV, mOrV, mIf, mOfB, mTruD, truD, mTup, mLst, mCold, mMut, mMut0, mMove, mCall, mKw, asD, asO, gConsD, gConsS, gNilA_ap, callRes, lvsOf, toLV, refsOf, slotL, slotO, mSeq, mBinO, mPart, mSl, ER.bind, ER.toS, ofO, dropS, List.foldr_cons, List.foldr_nil, List.getElem?_cons_zero, List.getElem?_cons_succ, List.set_cons_zero, List.set_cons_succ, List.length_cons, List.length_nil, List.map_cons, List.map_nil, Nat.reduceAdd, Nat.reduceSub, if_true, if_false, Bool.false_eq_true, Bool.not_true, Bool.not_false, eq_self, decide_true, decide_false, Nat.reduceLeDiff, Nat.reduceEqDiff, reduceCtorEq, add_f, sub_f, neg_f, int_f, intb_f, abs_f, lenl_f, lent_f, lt_f, le_f, gt_f, ge_f, eq_f, ne_f, permL1, permL2, isTup_t, tup0, tup1, PNx, PRt, PRs, PBk, PCt, pad, List.cons_append, List.nil_append, List.replicate, e_is_integer_tuple x hx, h]; first | done | exact ⟨rfl, rfl⟩ | exact ⟨trivial, rfl⟩ | trivial)
  · have hr : rowZ (.tuple (ns.map PyData.int)) = rowI ns := by
      show ((ns.map PyData.int).all isZ && rowI ((ns.map PyData.int).map zOf)) = _
      rw [all_ints, zOf_ints, Bool.true_and]
    rw [hr]
    unfold m_is_row
    refine P_eq (def_P ?_)
    have e0 : fEq (.tuple (ns.map PyData.int)) (.tuple []) = some (.bool (decide (ns = []))) := eq_tints ns []
    match ns, e0, hx with
    | [], e0, hx =>
      have e0 : fEq (.tuple (([] : List Int).map PyData.int)) (.tuple []) = some (.bool true) := e0
      have e4 := e_is_integer_tuple _ hx
      rw [flat_t] at e4
      show SR.P _ ⟨_, fun v σ => outP none σ fun b => v = LV.d (.bool true) ∧ b = none, _, _, _⟩
      generalize PyData.tuple (([] : List Int).map PyData.int) = x at *
      (simp only [sSeq, SR.andThen, sIf, sSet_ap, sSetO, sAsg, pName_ap, pTup, pCons, pNil, Option.bind_some, Option.map_some, ofS, sPut, sExpr, sRet, sRetO, sRetV, sRetN, sSkip, sBreak, sPar, mBool, mBin, mUn, mCB, mCBL, mCons, mNil_ap, mPure, mVar, mOwn, mOwn1, mOwnR, mNot, mAnd, mOr, mAndV, mOrV, mIf, mOfB, mTruD, truD, mTup, mLst, mCold, mMut, mMut0, mMove, mCall, mKw, asD, asO, gConsD, gConsS, gNilA_ap, callRes, lvsOf, toLV, refsOf, slotL, slotO, mSeq, mBinO, mPart, mSl, ER.bind, ER.toS, ofO, dropS, List.foldr_cons, List.foldr_nil, List.getElem?_cons_zero, List.getElem?_cons_succ, List.set_cons_zero, List.set_cons_succ, List.length_cons, List.length_nil, List.map_cons, List.map_nil, Nat.reduceAdd, Nat.reduceSub, if_true, if_false, Bool.false_eq_true, Bool.not_true, Bool.not_false, eq_self, decide_true, decide_false, Nat.reduceLeDiff, Nat.reduceEqDiff, reduceCtorEq, add_f, sub_f, neg_f, int_f, intb_f, abs_f, lenl_f, lent_f, lt_f, le_f, gt_f, ge_f, eq_f, ne_f, permL1, permL2, isTup_t, tup0, tup1, PNx, PRt, PRs, PBk, PCt, pad, List.cons_append, List.nil_append, List.replicate, e4, e0]; first | done | exact ⟨rfl, rfl⟩ | exact ⟨trivial, rfl⟩ | trivial)
    | a :: r, e0, hx =>
      have e1 : decide (a :: r = []) = false := decide_eq_false (by simp)
      rw [e1] at e0
      have e2 := last_ix a r
      have e3 : rowI (a :: r) = !decide ((a :: r).getLast (by simp) = 0) := by show decide (¬ _) = _; rw [decide_not]
      have e4 := e_is_integer_tuple _ hx
      rw [flat_t] at e4
      rw [e3]
      generalize (a :: r).getLast (by simp) = z at e2 ⊢
      generalize PyData.tuple ((a :: r).map PyData.int) = x at *
      (simp only [sSeq, SR.andThen, sIf, sSet_ap, sSetO, sAsg, pName_ap, pTup, pCons, pNil, Option.bind_some, Option.map_some, ofS, sPut, sExpr, sRet, sRetO, sRetV, sRetN, sSkip, sBreak, sPar, mBool, mBin, mUn, mCB, mCBL, mCons, mNil_ap, mPure, mVar, mOwn, mOwn1, mOwnR, mNot, mAnd, mOr, mAndV, mOrV, mIf, mOfB, mTruD, truD, mTup, mLst, mCold, mMut, mMut0, mMove, mCall, mKw, asD, asO, gConsD, gConsS, gNilA_ap, callRes, lvsOf, toLV, refsOf, slotL, slotO, mSeq, mBinO, mPart, mSl, ER.bind, ER.toS, ofO, dropS, List.foldr_cons, List.foldr_nil, List.getElem?_cons_zero, List.getElem?_cons_succ, List.set_cons_zero, List.set_cons_succ, List.length_cons, List.length_nil, List.map_cons, List.map_nil, Nat.reduceAdd, Nat.reduceSub, if_true, if_false, Bool.false_eq_true, Bool.not_true, Bool.not_false, eq_self, decide_true, decide_false, Nat.reduceLeDiff, Nat.reduceEqDiff, reduceCtorEq, add_f, sub_f, neg_f, int_f, intb_f, abs_f, lenl_f, lent_f, lt_f, le_f, gt_f, ge_f, eq_f, ne_f, permL1, permL2, isTup_t, tup0, tup1, PNx, PRt, PRs, PBk, PCt, pad, List.cons_append, List.nil_append, List.replicate, e4, e0, e2]; first | done | exact ⟨rfl, rfl⟩ | exact ⟨trivial, rfl⟩ | trivial)
theorem same_tupR (mr : Fd) (xs ys : List D) (hl : xs.length = ys.length) (hn : ys.length < 1000000000) (h : ∀ (i : Nat) (x y : D), xs[i]? = some x → ys[i]? = some y → mr [.d x, .d y] = .ret (.d (.bool true)) none) :
    bd__law_same mr [.d (.tuple xs), .d (.tuple ys)] = .ret (.d (.bool true)) none := by
  unfold bd__law_same
  refine P_eq (def_P ?_)
  refine P_seq' ?_
  refine P_if (k := true) (by (simp only [sSeq, SR.andThen, sIf, sSet_ap, sSetO, sAsg, pName_ap, pTup, pCons, pNil, Option.bind_some, Option.map_some, ofS, sPut, sExpr, sRet, sRetO, sRetV, sRetN, sSkip, sBreak, sPar, mBool, mBin, mUn, mCB, mCBL, mCons, mNil_ap, mPure, mVar, mOwn, mOwn1, mOwnR, mNot, mAnd, mOr, mAndV, mOrV, mIf, mOfB, mTruD, truD, mTup, mLst, mCold, mMut, mMut0, mMove, mCall, mKw, asD, asO, gConsD, gConsS, gNilA_ap, callRes, lvsOf, toLV, refsOf, slotL, slotO, mSeq, mBinO, mPart, mSl, ER.bind, ER.toS, ofO, dropS, List.foldr_cons, List.foldr_nil, List.getElem?_cons_zero, List.getElem?_cons_succ, List.set_cons_zero, List.set_cons_succ, List.length_cons, List.length_nil, List.map_cons, List.map_nil, Nat.reduceAdd, Nat.reduceSub, if_true, if_false, Bool.false_eq_true, Bool.not_true, Bool.not_false, eq_self, decide_true, decide_false, Nat.reduceLeDiff, Nat.reduceEqDiff, reduceCtorEq, add_f, sub_f, neg_f, int_f, intb_f, abs_f, lenl_f, lent_f, lt_f, le_f, gt_f, ge_f, eq_f, ne_f, permL1, permL2, isTup_t, tup0, tup1, PNx, PRt, PRs, PBk, PCt, pad, List.cons_append, List.nil_append, List.replicate, isTup_t]); first | done | rfl) (fun _ => ?_) (fun h => by cases h)
  have e1 : decide (((xs.length : Nat) : Int) = (ys.length : Nat)) = true := decide_eq_true (by omega)
  refine P_seq fun K hK => ?_
  simp only [sSeq, SR.andThen, sIf, sSet_ap, sSetO, sAsg, pName_ap, pTup, pCons, pNil, Option.bind_some, Option.map_some, ofS, sPut, sExpr, sRet, sRetO, sRetV, sRetN, sSkip, sBreak, sPar, mBool, mBin, mUn, mCB, mCBL, mCons, mNil_ap, mPure, mVar, mOwn, mOwn1, mOwnR, mNot, mAnd, mOr, mAndV, mOrV, mIf, mOfB, mTruD, truD, mTup, mLst, mCold, mMut, mMut0, mMove, mCall, mKw, asD, asO, gConsD, gConsS, gNilA_ap, callRes, lvsOf, toLV, refsOf, slotL, slotO, mSeq, mBinO, mPart, mSl, ER.bind, ER.toS, ofO, dropS, List.foldr_cons, List.foldr_nil, List.getElem?_cons_zero, List.getElem?_cons_succ, List.set_cons_zero, List.set_cons_succ, List.length_cons, List.length_nil, List.map_cons, List.map_nil, Nat.reduceAdd, Nat.reduceSub, if_true, if_false, Bool.false_eq_true, Bool.not_true, Bool.not_false, eq_self, decide_true, decide_false, Nat.reduceLeDiff, Nat.reduceEqDiff, reduceCtorEq, add_f, sub_f, neg_f, int_f, intb_f, abs_f, lenl_f, lent_f, lt_f, le_f, gt_f, ge_f, eq_f, ne_f, permL1, permL2, isTup_t, tup0, tup1, PNx, PRt, PRs, PBk, PCt, pad, List.cons_append, List.nil_append, List.replicate, isTup_t, e1]
  refine hK _ ?_
  clear hK K
  refine P_seq' (P_for (range1_ok (n := (ys.length : Nat)) (σ1 := [some (.d (.tuple xs)), some (.d (.tuple ys)), none]) (by (simp only [sSeq, SR.andThen, sIf, sSet_ap, sSetO, sAsg, pName_ap, pTup, pCons, pNil, Option.bind_some, Option.map_some, ofS, sPut, sExpr, sRet, sRetO, sRetV, sRetN, sSkip, sBreak, sPar, mBool, mBin, mUn, mCB, mCBL, mCons, mNil_ap, mPure, mVar, mOwn, mOwn1, mOwnR, mNot, mAnd, mOr, mAndV, mOrV, mIf, mOfB, mTruD, truD, mTup, mLst, mCold, mMut, mMut0, mMove, mCall, mKw, asD, asO, gConsD, gConsS, gNilA_ap, callRes, lvsOf, toLV, refsOf, slotL, slotO, mSeq, mBinO, mPart, mSl, ER.bind, ER.toS, ofO, dropS, List.foldr_cons, List.foldr_nil, List.getElem?_cons_zero, List.getElem?_cons_succ, List.set_cons_zero, List.set_cons_succ, List.length_cons, List.length_nil, List.map_cons, List.map_nil, Nat.reduceAdd, Nat.reduceSub, if_true, if_false, Bool.false_eq_true, Bool.not_true, Bool.not_false, eq_self, decide_true, decide_false, Nat.reduceLeDiff, Nat.reduceEqDiff, reduceCtorEq, add_f, sub_f, neg_f, int_f, intb_f, abs_f, lenl_f, lent_f, lt_f, le_f, gt_f, ge_f, eq_f, ne_f, permL1, permL2, isTup_t, tup0, tup1, PNx, PRt, PRs, PBk, PCt]); first | done | rfl) (by omega) (by omega)) (fun _ σ => ∃ u, σ = [some (.d (.tuple xs)), some (.d (.tuple ys)), u]) ⟨_, rfl⟩ (fun k d σ hd hi => ?_) (fun σ hi => ?_))
  · obtain ⟨u, rfl⟩ := hi
    obtain ⟨hk, rfl⟩ := rangeD_get hd
    rw [Int.toNat_natCast] at hk
    refine ⟨_, rfl, ?_⟩
    have g1 := List.getElem?_eq_getElem (show k < xs.length by omega)
    have g2 := List.getElem?_eq_getElem hk
    have e := h k _ _ g1 g2
    have i1 : fIx (.tuple xs) (.int (0 + (k : Nat))) = some xs[k] := by rw [Int.zero_add]; exact ixt_f g1
    have i2 : fIx (.tuple ys) (.int (0 + (k : Nat))) = some ys[k] := by rw [Int.zero_add]; exact ixt_f g2
    simp only [sSeq, SR.andThen, sIf, sSet_ap, sSetO, sAsg, pName_ap, pTup, pCons, pNil, Option.bind_some, Option.map_some, ofS, sPut, sExpr, sRet, sRetO, sRetV, sRetN, sSkip, sBreak, sPar, mBool, mBin, mUn, mCB, mCBL, mCons, mNil_ap, mPure, mVar, mOwn, mOwn1, mOwnR, mNot, mAnd, mOr, mAndV, mOrV, mIf, mOfB, mTruD, truD, mTup, mLst, mCold, mMut, mMut0, mMove, mCall, mKw, asD, asO, gConsD, gConsS, gNilA_ap, callRes, lvsOf, toLV, refsOf, slotL, slotO, mSeq, mBinO, mPart, mSl, ER.bind, ER.toS, ofO, dropS, List.foldr_cons, List.foldr_nil, List.getElem?_cons_zero, List.getElem?_cons_succ, List.set_cons_zero, List.set_cons_succ, List.length_cons, List.length_nil, List.map_cons, List.map_nil, Nat.reduceAdd, Nat.reduceSub, if_true, if_false, Bool.false_eq_true, Bool.not_true, Bool.not_false, eq_self, decide_true, decide_false, Nat.reduceLeDiff, Nat.reduceEqDiff, reduceCtorEq, add_f, sub_f, neg_f, int_f, intb_f, abs_f, lenl_f, lent_f, lt_f, le_f, gt_f, ge_f, eq_f, ne_f, permL1, permL2, isTup_t, tup0, tup1, PNx, PRt, PRs, PBk, PCt, pName_ap, i1, i2, e]
    exact ⟨_, rfl⟩
  · obtain ⟨u, rfl⟩ := hi
    (simp only [sSeq, SR.andThen, sIf, sSet_ap, sSetO, sAsg, pName_ap, pTup, pCons, pNil, Option.bind_some, Option.map_some, ofS, sPut, sExpr, sRet, sRetO, sRetV, sRetN, sSkip, sBreak, sPar, mBool, mBin, mUn, mCB, mCBL, mCons, mNil_ap, mPure, mVar, mOwn, mOwn1, mOwnR, mNot, mAnd, mOr, mAndV, mOrV, mIf, mOfB, mTruD, truD, mTup, mLst, mCold, mMut, mMut0, mMove, mCall, mKw, asD, asO, gConsD, gConsS, gNilA_ap, callRes, lvsOf, toLV, refsOf, slotL, slotO, mSeq, mBinO, mPart, mSl, ER.bind, ER.toS, ofO, dropS, List.foldr_cons, List.foldr_nil, List.getElem?_cons_zero, List.getElem?_cons_succ, List.set_cons_zero, List.set_cons_succ, List.length_cons, List.length_nil, List.map_cons, List.map_nil, Nat.reduceAdd, Nat.reduceSub, if_true, if_false, Bool.false_eq_true, Bool.not_true, Bool.not_false, eq_self, decide_true, decide_false, Nat.reduceLeDiff, Nat.reduceEqDiff, reduceCtorEq, add_f, sub_f, neg_f, int_f, intb_f, abs_f, lenl_f, lent_f, lt_f, le_f, gt_f, ge_f, eq_f, ne_f, permL1, permL2, isTup_t, tup0, tup1, PNx, PRt, PRs, PBk, PCt]; first | done | exact ⟨rfl, rfl⟩ | exact ⟨trivial, rfl⟩ | trivial)
theorem same_ints (z : Nat) (ns : List Int) (h : ns.length < 1000000000) : m__law_same (z + 1 + 1) [.d (.tuple (ns.map PyData.int)), .d (.tuple (ns.map PyData.int))] = .ret (.d (.bool true)) none := by
  refine same_tupR (m__law_same (z + 1)) _ _ rfl (by rw [List.length_map]; exact h) fun i x y hx hy => ?_
  rw [hx] at hy
  cases hy
  rw [List.getElem?_map] at hx
  cases hi : ns[i]? with
  | none => rw [hi] at hx; cases hx
  | some a =>
    rw [hi] at hx
    cases hx
    rw [same_int]
    show CRes.ret (.d (.bool (decide (a = a)))) none = _
    rw [decide_eq_true rfl]
end pw_threadsround_k01_whole_quotients_and_rowG

set_option Elab.async false
set_option linter.all false
set_option maxRecDepth 100000
set_option maxHeartbeats 400000
namespace pw_threadsround_k01_whole_quotients_and_rowG
open PySem PySem.Spec L2 Pu
def nu (w : Str) : Ex := ⟨"NotUsable", [("at", .int (-1)), ("word", .str w)]⟩
theorem raise2 {c : String} {f1 f2 : Str} {ms : M (List D)} {σ σ1 : Pu.Loc} {d1 d2 : D} (h : ms σ = .ok [d1, d2] σ1) : sRaise2 c f1 f2 ms σ = .rs ⟨c, [(f2, d2), (f1, d1)]⟩ σ1 := by unfold sRaise2; rw [h]; rfl
theorem e_need_t (w : Str) : m_need [.d (.bool true), .d (.str w)] = .ret (.d .none) none := rfl
theorem e_need_f (w : Str) : m_need [.d (.bool false), .d (.str w)] = .raise (nu w) none := rfl
abbrev Sm (x : D) : Prop := ∀ xs, x = .tuple xs → xs.length ≤ 1000
theorem sm_qt {p q : Int} : Sm (qt p q) := fun xs h => by cases h; exact Nat.le_add_left 2 998
theorem quot_t {p q : Int} (h : GQ p q) : quotZ (qt p q) = true := by
  show (decide (1 ≤ q) && decide (Nat.gcd p.natAbs q.natAbs = 1)) = true
  have := h.pos
  have := h.cop
  unfold Int.gcd at this
  rw [decide_eq_true (by omega), decide_eq_true this]
  rfl
theorem two_ok {x y : D} (hx : Sm x) (hy : Sm y) (h1 : quotZ x = true) (h2 : quotZ y = true) : m_need_two [.d x, .d y] = .ret (.d .none) none := by
  have e1 := e_is_quotient x hx
  have e2 := e_is_quotient y hy
  rw [h1] at e1
  rw [h2] at e2
  unfold m_need_two
  refine P_eq (def_P ?_)
  refine P_seq fun K hK => ?_
  simp only [sSeq, SR.andThen, sIf, sSet_ap, sSetO, sAsg, pName_ap, pTup, pCons, pNil, Option.bind_some, Option.map_some, ofS, sPut, sExpr, sRet, sRetO, sRetV, sRetN, sSkip, sBreak, sPar, mBool, mBin, mUn, mCB, mCBL, mCons, mNil_ap, mPure, mVar, mOwn, mOwn1, mOwnR, mNot, mAnd, mOr, mAndV, mOrV, mIf, mOfB, mTruD, truD, mTup, mLst, mCold, mMut, mMut0, mMove, mCall, mKw, asD, asO, gConsD, gConsS, gNilA_ap, callRes, lvsOf, toLV, refsOf, slotL, slotO, mSeq, mBinO, mPart, mSl, ER.bind, ER.toS, ofO, dropS, List.foldr_cons, List.foldr_nil, List.getElem?_cons_zero, List.getElem?_cons_succ, List.set_cons_zero, List.set_cons_succ, List.length_cons, List.length_nil, List.map_cons, List.map_nil, Nat.reduceAdd, Nat.reduceSub, if_true, if_false, Bool.false_eq_true, Bool.not_true, Bool.not_false, eq_self, decide_true, decide_false, Nat.reduceLeDiff, Nat.reduceEqDiff, reduceCtorEq, add_f, sub_f, neg_f, int_f, intb_f, abs_f, lenl_f, lent_f, lt_f, le_f, gt_f, ge_f, eq_f, ne_f, permL1, permL2, isTup_t, tup0, tup1, PNx, PRt, PRs, PBk, PCt, pad, List.cons_append, List.nil_append, List.replicate, e1, e_need_t]
  refine hK _ ?_
  clear hK K
  (simp only [sSeq, SR.andThen, sIf, sSet_ap, sSetO, sAsg, pName_ap, pTup, pCons, pNil, Option.bind_some, Option.map_some, ofS, sPut, sExpr, sRet, sRetO, sRetV, sRetN, sSkip, sBreak, sPar, mBool, mBin, mUn, mCB, mCBL, mCons, mNil_ap, mPure, mVar, mOwn, mOwn1, mOwnR, mNot, mAnd, mOr, mAndV, mOrV, mIf, mOfB, mTruD, truD, mTup, mLst, mCold, mMut, mMut0, mMove, mCall, mKw, asD, asO, gConsD, gConsS, gNilA_ap, callRes, lvsOf, toLV, refsOf, slotL, slotO, mSeq, mBinO, mPart, mSl, ER.bind, ER.toS, ofO, dropS, List.foldr_cons, List.foldr_nil, List.getElem?_cons_zero, List.getElem?_cons_succ, List.set_cons_zero, List.set_cons_succ, List.length_cons, List.length_nil, List.map_cons, List.map_nil, Nat.reduceAdd, Nat.reduceSub, if_true, if_false, Bool.false_eq_true, Bool.not_true, Bool.not_false, eq_self, decide_true, decide_false, Nat.reduceLeDiff, Nat.reduceEqDiff, reduceCtorEq, add_f, sub_f, neg_f, int_f, intb_f, abs_f, lenl_f, lent_f, lt_f, le_f, gt_f, ge_f, eq_f, ne_f, permL1, permL2, isTup_t, tup0, tup1, PNx, PRt, PRs, PBk, PCt, e2, e_need_t]; first | done | exact ⟨rfl, rfl⟩ | exact ⟨trivial, rfl⟩ | trivial)
theorem two_1 {x y : D} (hx : Sm x) (h1 : quotZ x = false) : m_need_two [.d x, .d y] = .raise (nu "one") none := by
  have e1 := e_is_quotient x hx
  rw [h1] at e1
  unfold m_need_two
  refine P_raise (def_P ?_)
  (simp only [sSeq, SR.andThen, sIf, sSet_ap, sSetO, sAsg, pName_ap, pTup, pCons, pNil, Option.bind_some, Option.map_some, ofS, sPut, sExpr, sRet, sRetO, sRetV, sRetN, sSkip, sBreak, sPar, mBool, mBin, mUn, mCB, mCBL, mCons, mNil_ap, mPure, mVar, mOwn, mOwn1, mOwnR, mNot, mAnd, mOr, mAndV, mOrV, mIf, mOfB, mTruD, truD, mTup, mLst, mCold, mMut, mMut0, mMove, mCall, mKw, asD, asO, gConsD, gConsS, gNilA_ap, callRes, lvsOf, toLV, refsOf, slotL, slotO, mSeq, mBinO, mPart, mSl, ER.bind, ER.toS, ofO, dropS, List.foldr_cons, List.foldr_nil, List.getElem?_cons_zero, List.getElem?_cons_succ, List.set_cons_zero, List.set_cons_succ, List.length_cons, List.length_nil, List.map_cons, List.map_nil, Nat.reduceAdd, Nat.reduceSub, if_true, if_false, Bool.false_eq_true, Bool.not_true, Bool.not_false, eq_self, decide_true, decide_false, Nat.reduceLeDiff, Nat.reduceEqDiff, reduceCtorEq, add_f, sub_f, neg_f, int_f, intb_f, abs_f, lenl_f, lent_f, lt_f, le_f, gt_f, ge_f, eq_f, ne_f, permL1, permL2, isTup_t, tup0, tup1, PNx, PRt, PRs, PBk, PCt, pad, List.cons_append, List.nil_append, List.replicate, e1, e_need_f]; first | done | exact ⟨rfl, rfl⟩ | exact ⟨trivial, rfl⟩ | trivial)
theorem two_2 {x y : D} (hx : Sm x) (hy : Sm y) (h1 : quotZ x = true) (h2 : quotZ y = false) : m_need_two [.d x, .d y] = .raise (nu "other") none := by
  have e1 := e_is_quotient x hx
  have e2 := e_is_quotient y hy
  rw [h1] at e1
  rw [h2] at e2
  unfold m_need_two
  refine P_raise (def_P ?_)
  refine P_seq fun K hK => ?_
  simp only [sSeq, SR.andThen, sIf, sSet_ap, sSetO, sAsg, pName_ap, pTup, pCons, pNil, Option.bind_some, Option.map_some, ofS, sPut, sExpr, sRet, sRetO, sRetV, sRetN, sSkip, sBreak, sPar, mBool, mBin, mUn, mCB, mCBL, mCons, mNil_ap, mPure, mVar, mOwn, mOwn1, mOwnR, mNot, mAnd, mOr, mAndV, mOrV, mIf, mOfB, mTruD, truD, mTup, mLst, mCold, mMut, mMut0, mMove, mCall, mKw, asD, asO, gConsD, gConsS, gNilA_ap, callRes, lvsOf, toLV, refsOf, slotL, slotO, mSeq, mBinO, mPart, mSl, ER.bind, ER.toS, ofO, dropS, List.foldr_cons, List.foldr_nil, List.getElem?_cons_zero, List.getElem?_cons_succ, List.set_cons_zero, List.set_cons_succ, List.length_cons, List.length_nil, List.map_cons, List.map_nil, Nat.reduceAdd, Nat.reduceSub, if_true, if_false, Bool.false_eq_true, Bool.not_true, Bool.not_false, eq_self, decide_true, decide_false, Nat.reduceLeDiff, Nat.reduceEqDiff, reduceCtorEq, add_f, sub_f, neg_f, int_f, intb_f, abs_f, lenl_f, lent_f, lt_f, le_f, gt_f, ge_f, eq_f, ne_f, permL1, permL2, isTup_t, tup0, tup1, PNx, PRt, PRs, PBk, PCt, pad, List.cons_append, List.nil_append, List.replicate, e1, e_need_t]
  refine hK _ ?_
  clear hK K
  (simp only [sSeq, SR.andThen, sIf, sSet_ap, sSetO, sAsg, pName_ap, pTup, pCons, pNil, Option.bind_some, Option.map_some, ofS, sPut, sExpr, sRet, sRetO, sRetV, sRetN, sSkip, sBreak, sPar, mBool, mBin, mUn, mCB, mCBL, mCons, mNil_ap, mPure, mVar, mOwn, mOwn1, mOwnR, mNot, mAnd, mOr, mAndV, mOrV, mIf, mOfB, mTruD, truD, mTup, mLst, mCold, mMut, mMut0, mMove, mCall, mKw, asD, asO, gConsD, gConsS, gNilA_ap, callRes, lvsOf, toLV, refsOf, slotL, slotO, mSeq, mBinO, mPart, mSl, ER.bind, ER.toS, ofO, dropS, List.foldr_cons, List.foldr_nil, List.getElem?_cons_zero, List.getElem?_cons_succ, List.set_cons_zero, List.set_cons_succ, List.length_cons, List.length_nil, List.map_cons, List.map_nil, Nat.reduceAdd, Nat.reduceSub, if_true, if_false, Bool.false_eq_true, Bool.not_true, Bool.not_false, eq_self, decide_true, decide_false, Nat.reduceLeDiff, Nat.reduceEqDiff, reduceCtorEq, add_f, sub_f, neg_f, int_f, intb_f, abs_f, lenl_f, lent_f, lt_f, le_f, gt_f, ge_f, eq_f, ne_f, permL1, permL2, isTup_t, tup0, tup1, PNx, PRt, PRs, PBk, PCt, e2, e_need_f]; first | done | exact ⟨rfl, rfl⟩ | exact ⟨trivial, rfl⟩ | trivial)
theorem qt0 (p q : Int) : fIx (qt p q) (.int 0) = some (.int p) := rfl
theorem qt1 (p q : Int) : fIx (qt p q) (.int 1) = some (.int q) := rfl
section
variable {p q p' q' : Int} {n : Nat}
theorem e_plus (h : GQ p q) (h' : GQ p' q') (s1 : Sz n p) (s2 : Sz n q) (s3 : Sz n p') (s4 : Sz n q') (hn : n ≤ 4000) :
    m_plus [.d (qt p q), .d (qt p' q')] = .ret (.d (qt (redP (p * q' + p' * q) (q * q')) (redQ (p * q' + p' * q) (q * q')))) none := by
  have e := two_ok sm_qt sm_qt (quot_t h) (quot_t h')
  have m1 := mulS s1 s4 (by omega)
  have m2 := mulS s3 s2 (by omega)
  have m3 := mulS s2 s4 (by omega)
  have hb : q * q' ≠ 0 := by have := Int.mul_pos h.pos h'.pos; omega
  have l := e_lowest (t := p * q' + p' * q) hb (s2.mul s4) (by omega)
  unfold m_plus
  refine P_eq (def_P ?_)
  refine P_seq fun K hK => ?_
  simp only [sSeq, SR.andThen, sIf, sSet_ap, sSetO, sAsg, pName_ap, pTup, pCons, pNil, Option.bind_some, Option.map_some, ofS, sPut, sExpr, sRet, sRetO, sRetV, sRetN, sSkip, sBreak, sPar, mBool, mBin, mUn, mCB, mCBL, mCons, mNil_ap, mPure, mVar, mOwn, mOwn1, mOwnR, mNot, mAnd, mOr, mAndV, mOrV, mIf, mOfB, mTruD, truD, mTup, mLst, mCold, mMut, mMut0, mMove, mCall, mKw, asD, asO, gConsD, gConsS, gNilA_ap, callRes, lvsOf, toLV, refsOf, slotL, slotO, mSeq, mBinO, mPart, mSl, ER.bind, ER.toS, ofO, dropS, List.foldr_cons, List.foldr_nil, List.getElem?_cons_zero, List.getElem?_cons_succ, List.set_cons_zero, List.set_cons_succ, List.length_cons, List.length_nil, List.map_cons, List.map_nil, Nat.reduceAdd, Nat.reduceSub, if_true, if_false, Bool.false_eq_true, Bool.not_true, Bool.not_false, eq_self, decide_true, decide_false, Nat.reduceLeDiff, Nat.reduceEqDiff, reduceCtorEq, add_f, sub_f, neg_f, int_f, intb_f, abs_f, lenl_f, lent_f, lt_f, le_f, gt_f, ge_f, eq_f, ne_f, permL1, permL2, isTup_t, tup0, tup1, PNx, PRt, PRs, PBk, PCt, pad, List.cons_append, List.nil_append, List.replicate, e]
  refine hK _ ?_
  clear hK K
  (simp only [sSeq, SR.andThen, sIf, sSet_ap, sSetO, sAsg, pName_ap, pTup, pCons, pNil, Option.bind_some, Option.map_some, ofS, sPut, sExpr, sRet, sRetO, sRetV, sRetN, sSkip, sBreak, sPar, mBool, mBin, mUn, mCB, mCBL, mCons, mNil_ap, mPure, mVar, mOwn, mOwn1, mOwnR, mNot, mAnd, mOr, mAndV, mOrV, mIf, mOfB, mTruD, truD, mTup, mLst, mCold, mMut, mMut0, mMove, mCall, mKw, asD, asO, gConsD, gConsS, gNilA_ap, callRes, lvsOf, toLV, refsOf, slotL, slotO, mSeq, mBinO, mPart, mSl, ER.bind, ER.toS, ofO, dropS, List.foldr_cons, List.foldr_nil, List.getElem?_cons_zero, List.getElem?_cons_succ, List.set_cons_zero, List.set_cons_succ, List.length_cons, List.length_nil, List.map_cons, List.map_nil, Nat.reduceAdd, Nat.reduceSub, if_true, if_false, Bool.false_eq_true, Bool.not_true, Bool.not_false, eq_self, decide_true, decide_false, Nat.reduceLeDiff, Nat.reduceEqDiff, reduceCtorEq, add_f, sub_f, neg_f, int_f, intb_f, abs_f, lenl_f, lent_f, lt_f, le_f, gt_f, ge_f, eq_f, ne_f, permL1, permL2, isTup_t, tup0, tup1, PNx, PRt, PRs, PBk, PCt, qt0, qt1, m1, m2, m3, l]; first | done | exact ⟨rfl, rfl⟩ | exact ⟨trivial, rfl⟩ | trivial)
theorem e_minus (h : GQ p q) (h' : GQ p' q') (s1 : Sz n p) (s2 : Sz n q) (s3 : Sz n p') (s4 : Sz n q') (hn : n ≤ 4000) :
    m_minus [.d (qt p q), .d (qt p' q')] = .ret (.d (qt (redP (p * q' - p' * q) (q * q')) (redQ (p * q' - p' * q) (q * q')))) none := by
  have e := two_ok sm_qt sm_qt (quot_t h) (quot_t h')
  have m1 := mulS s1 s4 (by omega)
  have m2 := mulS s3 s2 (by omega)
  have m3 := mulS s2 s4 (by omega)
  have hb : q * q' ≠ 0 := by have := Int.mul_pos h.pos h'.pos; omega
  have l := e_lowest (t := p * q' - p' * q) hb (s2.mul s4) (by omega)
  unfold m_minus
  refine P_eq (def_P ?_)
  refine P_seq fun K hK => ?_
  simp only [sSeq, SR.andThen, sIf, sSet_ap, sSetO, sAsg, pName_ap, pTup, pCons, pNil, Option.bind_some, Option.map_some, ofS, sPut, sExpr, sRet, sRetO, sRetV, sRetN, sSkip, sBreak, sPar, mBool, mBin, mUn, mCB, mCBL, mCons, mNil_ap, mPure, mVar, mOwn, mOwn1, mOwnR, mNot, mAnd, mOr, mAndV, mOrV, mIf, mOfB, mTruD, truD, mTup, mLst, mCold, mMut, mMut0, mMove, mCall, mKw, asD, asO, gConsD, gConsS, gNilA_ap, callRes, lvsOf, toLV, refsOf, slotL, slotO, mSeq, mBinO, mPart, mSl, ER.bind, ER.toS, ofO, dropS, List.foldr_cons, List.foldr_nil, List.getElem?_cons_zero, List.getElem?_cons_succ, List.set_cons_zero, List.set_cons_succ, List.length_cons, List.length_nil, List.map_cons, List.map_nil, Nat.reduceAdd, Nat.reduceSub, if_true, if_false, Bool.false_eq_true, Bool.not_true, Bool.not_false, eq_self, decide_true, decide_false, Nat.reduceLeDiff, Nat.reduceEqDiff, reduceCtorEq, add_f, sub_f, neg_f, int_f, intb_f, abs_f, lenl_f, lent_f, lt_f, le_f, gt_f, ge_f, eq_f, ne_f, permL1, permL2, isTup_t, tup0, tup1, PNx, PRt, PRs, PBk, PCt, pad, List.cons_append, List.nil_append, List.replicate, e]
  refine hK _ ?_
  clear hK K
  (simp only [sSeq, SR.andThen, sIf, sSet_ap, sSetO, sAsg, pName_ap, pTup, pCons, pNil, Option.bind_some, Option.map_some, ofS, sPut, sExpr, sRet, sRetO, sRetV, sRetN, sSkip, sBreak, sPar, mBool, mBin, mUn, mCB, mCBL, mCons, mNil_ap, mPure, mVar, mOwn, mOwn1, mOwnR, mNot, mAnd, mOr, mAndV, mOrV, mIf, mOfB, mTruD, truD, mTup, mLst, mCold, mMut, mMut0, mMove, mCall, mKw, asD, asO, gConsD, gConsS, gNilA_ap, callRes, lvsOf, toLV, refsOf, slotL, slotO, mSeq, mBinO, mPart, mSl, ER.bind, ER.toS, ofO, dropS, List.foldr_cons, List.foldr_nil, List.getElem?_cons_zero, List.getElem?_cons_succ, List.set_cons_zero, List.set_cons_succ, List.length_cons, List.length_nil, List.map_cons, List.map_nil, Nat.reduceAdd, Nat.reduceSub, if_true, if_false, Bool.false_eq_true, Bool.not_true, Bool.not_false, eq_self, decide_true, decide_false, Nat.reduceLeDiff, Nat.reduceEqDiff, reduceCtorEq, add_f, sub_f, neg_f, int_f, intb_f, abs_f, lenl_f, lent_f, lt_f, le_f, gt_f, ge_f, eq_f, ne_f, permL1, permL2, isTup_t, tup0, tup1, PNx, PRt, PRs, PBk, PCt, qt0, qt1, m1, m2, m3, l]; first | done | exact ⟨rfl, rfl⟩ | exact ⟨trivial, rfl⟩ | trivial)
theorem e_times (h : GQ p q) (h' : GQ p' q') (s1 : Sz n p) (s2 : Sz n q) (s3 : Sz n p') (s4 : Sz n q') (hn : n ≤ 4000) :
    m_times [.d (qt p q), .d (qt p' q')] = .ret (.d (qt (redP (p * p') (q * q')) (redQ (p * p') (q * q')))) none := by
  have e := two_ok sm_qt sm_qt (quot_t h) (quot_t h')
  have m1 := mulS s1 s3 (by omega)
  have m3 := mulS s2 s4 (by omega)
  have hb : q * q' ≠ 0 := by have := Int.mul_pos h.pos h'.pos; omega
  have l := e_lowest (t := p * p') hb (s2.mul s4) (by omega)
  unfold m_times
  refine P_eq (def_P ?_)
  refine P_seq fun K hK => ?_
  simp only [sSeq, SR.andThen, sIf, sSet_ap, sSetO, sAsg, pName_ap, pTup, pCons, pNil, Option.bind_some, Option.map_some, ofS, sPut, sExpr, sRet, sRetO, sRetV, sRetN, sSkip, sBreak, sPar, mBool, mBin, mUn, mCB, mCBL, mCons, mNil_ap, mPure, mVar, mOwn, mOwn1, mOwnR, mNot, mAnd, mOr, mAndV, mOrV, mIf, mOfB, mTruD, truD, mTup, mLst, mCold, mMut, mMut0, mMove, mCall, mKw, asD, asO, gConsD, gConsS, gNilA_ap, callRes, lvsOf, toLV, refsOf, slotL, slotO, mSeq, mBinO, mPart, mSl, ER.bind, ER.toS, ofO, dropS, List.foldr_cons, List.foldr_nil, List.getElem?_cons_zero, List.getElem?_cons_succ, List.set_cons_zero, List.set_cons_succ, List.length_cons, List.length_nil, List.map_cons, List.map_nil, Nat.reduceAdd, Nat.reduceSub, if_true, if_false, Bool.false_eq_true, Bool.not_true, Bool.not_false, eq_self, decide_true, decide_false, Nat.reduceLeDiff, Nat.reduceEqDiff, reduceCtorEq, add_f, sub_f, neg_f, int_f, intb_f, abs_f, lenl_f, lent_f, lt_f, le_f, gt_f, ge_f, eq_f, ne_f, permL1, permL2, isTup_t, tup0, tup1, PNx, PRt, PRs, PBk, PCt, pad, List.cons_append, List.nil_append, List.replicate, e]
  refine hK _ ?_
  clear hK K
  (simp only [sSeq, SR.andThen, sIf, sSet_ap, sSetO, sAsg, pName_ap, pTup, pCons, pNil, Option.bind_some, Option.map_some, ofS, sPut, sExpr, sRet, sRetO, sRetV, sRetN, sSkip, sBreak, sPar, mBool, mBin, mUn, mCB, mCBL, mCons, mNil_ap, mPure, mVar, mOwn, mOwn1, mOwnR, mNot, mAnd, mOr, mAndV, mOrV, mIf, mOfB, mTruD, truD, mTup, mLst, mCold, mMut, mMut0, mMove, mCall, mKw, asD, asO, gConsD, gConsS, gNilA_ap, callRes, lvsOf, toLV, refsOf, slotL, slotO, mSeq, mBinO, mPart, mSl, ER.bind, ER.toS, ofO, dropS, List.foldr_cons, List.foldr_nil, List.getElem?_cons_zero, List.getElem?_cons_succ, List.set_cons_zero, List.set_cons_succ, List.length_cons, List.length_nil, List.map_cons, List.map_nil, Nat.reduceAdd, Nat.reduceSub, if_true, if_false, Bool.false_eq_true, Bool.not_true, Bool.not_false, eq_self, decide_true, decide_false, Nat.reduceLeDiff, Nat.reduceEqDiff, reduceCtorEq, add_f, sub_f, neg_f, int_f, intb_f, abs_f, lenl_f, lent_f, lt_f, le_f, gt_f, ge_f, eq_f, ne_f, permL1, permL2, isTup_t, tup0, tup1, PNx, PRt, PRs, PBk, PCt, qt0, qt1, m1, m3, l]; first | done | exact ⟨rfl, rfl⟩ | exact ⟨trivial, rfl⟩ | trivial)
theorem e_over (h : GQ p q) (h' : GQ p' q') (h0 : p' ≠ 0) (s1 : Sz n p) (s2 : Sz n q) (s3 : Sz n p') (s4 : Sz n q') (hn : n ≤ 4000) :
    m_over [.d (qt p q), .d (qt p' q')] = .ret (.d (qt (redP (p * q') (q * p')) (redQ (p * q') (q * p')))) none := by
  have e := two_ok sm_qt sm_qt (quot_t h) (quot_t h')
  have m1 := mulS s1 s4 (by omega)
  have m3 := mulS s2 s3 (by omega)
  have hb : q * p' ≠ 0 := Int.mul_ne_zero (by have := h.pos; omega) h0
  have l := e_lowest (t := p * q') hb (s2.mul s3) (by omega)
  have d0 : decide (p' = 0) = false := decide_eq_false h0
  unfold m_over
  refine P_eq (def_P ?_)
  refine P_seq fun K hK => ?_
  simp only [sSeq, SR.andThen, sIf, sSet_ap, sSetO, sAsg, pName_ap, pTup, pCons, pNil, Option.bind_some, Option.map_some, ofS, sPut, sExpr, sRet, sRetO, sRetV, sRetN, sSkip, sBreak, sPar, mBool, mBin, mUn, mCB, mCBL, mCons, mNil_ap, mPure, mVar, mOwn, mOwn1, mOwnR, mNot, mAnd, mOr, mAndV, mOrV, mIf, mOfB, mTruD, truD, mTup, mLst, mCold, mMut, mMut0, mMove, mCall, mKw, asD, asO, gConsD, gConsS, gNilA_ap, callRes, lvsOf, toLV, refsOf, slotL, slotO, mSeq, mBinO, mPart, mSl, ER.bind, ER.toS, ofO, dropS, List.foldr_cons, List.foldr_nil, List.getElem?_cons_zero, List.getElem?_cons_succ, List.set_cons_zero, List.set_cons_succ, List.length_cons, List.length_nil, List.map_cons, List.map_nil, Nat.reduceAdd, Nat.reduceSub, if_true, if_false, Bool.false_eq_true, Bool.not_true, Bool.not_false, eq_self, decide_true, decide_false, Nat.reduceLeDiff, Nat.reduceEqDiff, reduceCtorEq, add_f, sub_f, neg_f, int_f, intb_f, abs_f, lenl_f, lent_f, lt_f, le_f, gt_f, ge_f, eq_f, ne_f, permL1, permL2, isTup_t, tup0, tup1, PNx, PRt, PRs, PBk, PCt, pad, List.cons_append, List.nil_append, List.replicate, e]
  refine hK _ ?_
  clear hK K
  refine P_seq fun K hK => ?_
  simp only [sSeq, SR.andThen, sIf, sSet_ap, sSetO, sAsg, pName_ap, pTup, pCons, pNil, Option.bind_some, Option.map_some, ofS, sPut, sExpr, sRet, sRetO, sRetV, sRetN, sSkip, sBreak, sPar, mBool, mBin, mUn, mCB, mCBL, mCons, mNil_ap, mPure, mVar, mOwn, mOwn1, mOwnR, mNot, mAnd, mOr, mAndV, mOrV, mIf, mOfB, mTruD, truD, mTup, mLst, mCold, mMut, mMut0, mMove, mCall, mKw, asD, asO, gConsD, gConsS, gNilA_ap, callRes, lvsOf, toLV, refsOf, slotL, slotO, mSeq, mBinO, mPart, mSl, ER.bind, ER.toS, ofO, dropS, List.foldr_cons, List.foldr_nil, List.getElem?_cons_zero, List.getElem?_cons_succ, List.set_cons_zero, List.set_cons_succ, List.length_cons, List.length_nil, List.map_cons, List.map_nil, Nat.reduceAdd, Nat.reduceSub, if_true, if_false, Bool.false_eq_true, Bool.not_true, Bool.not_false, eq_self, decide_true, decide_false, Nat.reduceLeDiff, Nat.reduceEqDiff, reduceCtorEq, add_f, sub_f, neg_f, int_f, intb_f, abs_f, lenl_f, lent_f, lt_f, le_f, gt_f, ge_f, eq_f, ne_f, permL1, permL2, isTup_t, tup0, tup1, PNx, PRt, PRs, PBk, PCt, qt0, d0, e_need_t]
  refine hK _ ?_
  clear hK K
  (simp only [sSeq, SR.andThen, sIf, sSet_ap, sSetO, sAsg, pName_ap, pTup, pCons, pNil, Option.bind_some, Option.map_some, ofS, sPut, sExpr, sRet, sRetO, sRetV, sRetN, sSkip, sBreak, sPar, mBool, mBin, mUn, mCB, mCBL, mCons, mNil_ap, mPure, mVar, mOwn, mOwn1, mOwnR, mNot, mAnd, mOr, mAndV, mOrV, mIf, mOfB, mTruD, truD, mTup, mLst, mCold, mMut, mMut0, mMove, mCall, mKw, asD, asO, gConsD, gConsS, gNilA_ap, callRes, lvsOf, toLV, refsOf, slotL, slotO, mSeq, mBinO, mPart, mSl, ER.bind, ER.toS, ofO, dropS, List.foldr_cons, List.foldr_nil, List.getElem?_cons_zero, List.getElem?_cons_succ, List.set_cons_zero, List.set_cons_succ, List.length_cons, List.length_nil, List.map_cons, List.map_nil, Nat.reduceAdd, Nat.reduceSub, if_true, if_false, Bool.false_eq_true, Bool.not_true, Bool.not_false, eq_self, decide_true, decide_false, Nat.reduceLeDiff, Nat.reduceEqDiff, reduceCtorEq, add_f, sub_f, neg_f, int_f, intb_f, abs_f, lenl_f, lent_f, lt_f, le_f, gt_f, ge_f, eq_f, ne_f, permL1, permL2, isTup_t, tup0, tup1, PNx, PRt, PRs, PBk, PCt, qt0, qt1, m1, m3, l]; first | done | exact ⟨rfl, rfl⟩ | exact ⟨trivial, rfl⟩ | trivial)
theorem e_over_0 (h : GQ p q) : m_over [.d (qt p q), .d (qt 0 1)] = .raise (nu "other") none := by
  have h' : GQ 0 1 := ⟨by decide, by decide⟩
  have e := two_ok sm_qt sm_qt (quot_t h) (quot_t h')
  unfold m_over
  refine P_raise (def_P ?_)
  refine P_seq fun K hK => ?_
  simp only [sSeq, SR.andThen, sIf, sSet_ap, sSetO, sAsg, pName_ap, pTup, pCons, pNil, Option.bind_some, Option.map_some, ofS, sPut, sExpr, sRet, sRetO, sRetV, sRetN, sSkip, sBreak, sPar, mBool, mBin, mUn, mCB, mCBL, mCons, mNil_ap, mPure, mVar, mOwn, mOwn1, mOwnR, mNot, mAnd, mOr, mAndV, mOrV, mIf, mOfB, mTruD, truD, mTup, mLst, mCold, mMut, mMut0, mMove, mCall, mKw, asD, asO, gConsD, gConsS, gNilA_ap, callRes, lvsOf, toLV, refsOf, slotL, slotO, mSeq, mBinO, mPart, mSl, ER.bind, ER.toS, ofO, dropS, List.foldr_cons, List.foldr_nil, List.getElem?_cons_zero, List.getElem?_cons_succ, List.set_cons_zero, List.set_cons_succ, List.length_cons, List.length_nil, List.map_cons, List.map_nil, Nat.reduceAdd, Nat.reduceSub, if_true, if_false, Bool.false_eq_true, Bool.not_true, Bool.not_false, eq_self, decide_true, decide_false, Nat.reduceLeDiff, Nat.reduceEqDiff, reduceCtorEq, add_f, sub_f, neg_f, int_f, intb_f, abs_f, lenl_f, lent_f, lt_f, le_f, gt_f, ge_f, eq_f, ne_f, permL1, permL2, isTup_t, tup0, tup1, PNx, PRt, PRs, PBk, PCt, pad, List.cons_append, List.nil_append, List.replicate, e]
  refine hK _ ?_
  clear hK K
  (simp only [sSeq, SR.andThen, sIf, sSet_ap, sSetO, sAsg, pName_ap, pTup, pCons, pNil, Option.bind_some, Option.map_some, ofS, sPut, sExpr, sRet, sRetO, sRetV, sRetN, sSkip, sBreak, sPar, mBool, mBin, mUn, mCB, mCBL, mCons, mNil_ap, mPure, mVar, mOwn, mOwn1, mOwnR, mNot, mAnd, mOr, mAndV, mOrV, mIf, mOfB, mTruD, truD, mTup, mLst, mCold, mMut, mMut0, mMove, mCall, mKw, asD, asO, gConsD, gConsS, gNilA_ap, callRes, lvsOf, toLV, refsOf, slotL, slotO, mSeq, mBinO, mPart, mSl, ER.bind, ER.toS, ofO, dropS, List.foldr_cons, List.foldr_nil, List.getElem?_cons_zero, List.getElem?_cons_succ, List.set_cons_zero, List.set_cons_succ, List.length_cons, List.length_nil, List.map_cons, List.map_nil, Nat.reduceAdd, Nat.reduceSub, if_true, if_false, Bool.false_eq_true, Bool.not_true, Bool.not_false, eq_self, decide_true, decide_false, Nat.reduceLeDiff, Nat.reduceEqDiff, reduceCtorEq, add_f, sub_f, neg_f, int_f, intb_f, abs_f, lenl_f, lent_f, lt_f, le_f, gt_f, ge_f, eq_f, ne_f, permL1, permL2, isTup_t, tup0, tup1, PNx, PRt, PRs, PBk, PCt, qt0, e_need_f]; first | done | exact ⟨rfl, rfl⟩ | exact ⟨trivial, rfl⟩ | trivial)
theorem e_is_less (h : GQ p q) (h' : GQ p' q') (s1 : Sz n p) (s2 : Sz n q) (s3 : Sz n p') (s4 : Sz n q') (hn : n ≤ 4000) :
    m_is_less [.d (qt p q), .d (qt p' q')] = .ret (.d (.bool (decide (p * q' < p' * q)))) none := by
  have e := two_ok sm_qt sm_qt (quot_t h) (quot_t h')
  have m1 := mulS s1 s4 (by omega)
  have m2 := mulS s3 s2 (by omega)
  unfold m_is_less
  refine P_eq (def_P ?_)
  refine P_seq fun K hK => ?_
  simp only [sSeq, SR.andThen, sIf, sSet_ap, sSetO, sAsg, pName_ap, pTup, pCons, pNil, Option.bind_some, Option.map_some, ofS, sPut, sExpr, sRet, sRetO, sRetV, sRetN, sSkip, sBreak, sPar, mBool, mBin, mUn, mCB, mCBL, mCons, mNil_ap, mPure, mVar, mOwn, mOwn1, mOwnR, mNot, mAnd, mOr, mAndV, mOrV, mIf, mOfB, mTruD, truD, mTup, mLst, mCold, mMut, mMut0, mMove, mCall, mKw, asD, asO, gConsD, gConsS, gNilA_ap, callRes, lvsOf, toLV, refsOf, slotL, slotO, mSeq, mBinO, mPart, mSl, ER.bind, ER.toS, ofO, dropS, List.foldr_cons, List.foldr_nil, List.getElem?_cons_zero, List.getElem?_cons_succ, List.set_cons_zero, List.set_cons_succ, List.length_cons, List.length_nil, List.map_cons, List.map_nil, Nat.reduceAdd, Nat.reduceSub, if_true, if_false, Bool.false_eq_true, Bool.not_true, Bool.not_false, eq_self, decide_true, decide_false, Nat.reduceLeDiff, Nat.reduceEqDiff, reduceCtorEq, add_f, sub_f, neg_f, int_f, intb_f, abs_f, lenl_f, lent_f, lt_f, le_f, gt_f, ge_f, eq_f, ne_f, permL1, permL2, isTup_t, tup0, tup1, PNx, PRt, PRs, PBk, PCt, pad, List.cons_append, List.nil_append, List.replicate, e]
  refine hK _ ?_
  clear hK K
  (simp only [sSeq, SR.andThen, sIf, sSet_ap, sSetO, sAsg, pName_ap, pTup, pCons, pNil, Option.bind_some, Option.map_some, ofS, sPut, sExpr, sRet, sRetO, sRetV, sRetN, sSkip, sBreak, sPar, mBool, mBin, mUn, mCB, mCBL, mCons, mNil_ap, mPure, mVar, mOwn, mOwn1, mOwnR, mNot, mAnd, mOr, mAndV, mOrV, mIf, mOfB, mTruD, truD, mTup, mLst, mCold, mMut, mMut0, mMove, mCall, mKw, asD, asO, gConsD, gConsS, gNilA_ap, callRes, lvsOf, toLV, refsOf, slotL, slotO, mSeq, mBinO, mPart, mSl, ER.bind, ER.toS, ofO, dropS, List.foldr_cons, List.foldr_nil, List.getElem?_cons_zero, List.getElem?_cons_succ, List.set_cons_zero, List.set_cons_succ, List.length_cons, List.length_nil, List.map_cons, List.map_nil, Nat.reduceAdd, Nat.reduceSub, if_true, if_false, Bool.false_eq_true, Bool.not_true, Bool.not_false, eq_self, decide_true, decide_false, Nat.reduceLeDiff, Nat.reduceEqDiff, reduceCtorEq, add_f, sub_f, neg_f, int_f, intb_f, abs_f, lenl_f, lent_f, lt_f, le_f, gt_f, ge_f, eq_f, ne_f, permL1, permL2, isTup_t, tup0, tup1, PNx, PRt, PRs, PBk, PCt, qt0, qt1, m1, m2]; first | done | exact ⟨rfl, rfl⟩ | exact ⟨trivial, rfl⟩ | trivial)
end
section
variable {x y : D} {e : Ex}
theorem plus_x (h : m_need_two [.d x, .d y] = .raise e none) : m_plus [.d x, .d y] = .raise e none := by
  unfold m_plus
  refine P_raise (def_P ?_)
  (simp only [sSeq, SR.andThen, sIf, sSet_ap, sSetO, sAsg, pName_ap, pTup, pCons, pNil, Option.bind_some, Option.map_some, ofS, sPut, sExpr, sRet, sRetO, sRetV, sRetN, sSkip, sBreak, sPar, mBool, mBin, mUn, mCB, mCBL, mCons, mNil_ap, mPure, mVar, mOwn, mOwn1, mOwnR, mNot, mAnd, mOr, mAndV, mOrV, mIf, mOfB, mTruD, truD, mTup, mLst, mCold, mMut, mMut0, mMove, mCall, mKw, asD, asO, gConsD, gConsS, gNilA_ap, callRes, lvsOf, toLV, refsOf, slotL, slotO, mSeq, mBinO, mPart, mSl, ER.bind, ER.toS, ofO, dropS, List.foldr_cons, List.foldr_nil, List.getElem?_cons_zero, List.getElem?_cons_succ, List.set_cons_zero, List.set_cons_succ, List.length_cons, List.length_nil, List.map_cons, List.map_nil, Nat.reduceAdd, Nat.reduceSub, if_true, if_false, Bool.false_eq_true, Bool.not_true, Bool.not_false, eq_self, decide_true, decide_false, Nat.reduceLeDiff, Nat.reduceEqDiff, reduceCtorEq, add_f, sub_f, neg_f, int_f, intb_f, abs_f, lenl_f, lent_f, lt_f, le_f, gt_f, ge_f, eq_f, ne_f, permL1, permL2, isTup_t, tup0, tup1, PNx, PRt, PRs, PBk, PCt, pad, List.cons_append, List.nil_append, List.replicate, h]; first | done | exact ⟨rfl, rfl⟩ | exact ⟨trivial, rfl⟩ | trivial)
theorem minus_x (h : m_need_two [.d x, .d y] = .raise e none) : m_minus [.d x, .d y] = .raise e none := by
  unfold m_minus
  refine P_raise (def_P ?_)
  (simp only [sSeq, SR.andThen, sIf, sSet_ap, sSetO, sAsg, pName_ap, pTup, pCons, pNil, Option.bind_some, Option.map_some, ofS, sPut, sExpr, sRet, sRetO, sRetV, sRetN, sSkip, sBreak, sPar, mBool, mBin, mUn, mCB, mCBL, mCons, mNil_ap, mPure, mVar, mOwn, mOwn1, mOwnR, mNot, mAnd, mOr, mAndV, mOrV, mIf, mOfB, mTruD, truD, mTup, mLst, mCold, mMut, mMut0, mMove, mCall, mKw, asD, asO, gConsD, gConsS, gNilA_ap, callRes, lvsOf, toLV, refsOf, slotL, slotO, mSeq, mBinO, mPart, mSl, ER.bind, ER.toS, ofO, dropS, List.foldr_cons, List.foldr_nil, List.getElem?_cons_zero, List.getElem?_cons_succ, List.set_cons_zero, List.set_cons_succ, List.length_cons, List.length_nil, List.map_cons, List.map_nil, Nat.reduceAdd, Nat.reduceSub, if_true, if_false, Bool.false_eq_true, Bool.not_true, Bool.not_false, eq_self, decide_true, decide_false, Nat.reduceLeDiff, Nat.reduceEqDiff, reduceCtorEq, add_f, sub_f, neg_f, int_f, intb_f, abs_f, lenl_f, lent_f, lt_f, le_f, gt_f, ge_f, eq_f, ne_f, permL1, permL2, isTup_t, tup0, tup1, PNx, PRt, PRs, PBk, PCt, pad, List.cons_append, List.nil_append, List.replicate, h]; first | done | exact ⟨rfl, rfl⟩ | exact ⟨trivial, rfl⟩ | trivial)
theorem times_x (h : m_need_two [.d x, .d y] = .raise e none) : m_times [.d x, .d y] = .raise e none := by
  unfold m_times
  refine P_raise (def_P ?_)
  (simp only [sSeq, SR.andThen, sIf, sSet_ap, sSetO, sAsg, pName_ap, pTup, pCons, pNil, Option.bind_some, Option.map_some, ofS, sPut, sExpr, sRet, sRetO, sRetV, sRetN, sSkip, sBreak, sPar, mBool, mBin, mUn, mCB, mCBL, mCons, mNil_ap, mPure, mVar, mOwn, mOwn1, mOwnR, mNot, mAnd, mOr, mAndV, mOrV, mIf, mOfB, mTruD, truD, mTup, mLst, mCold, mMut, mMut0, mMove, mCall, mKw, asD, asO, gConsD, gConsS, gNilA_ap, callRes, lvsOf, toLV, refsOf, slotL, slotO, mSeq, mBinO, mPart, mSl, ER.bind, ER.toS, ofO, dropS, List.foldr_cons, List.foldr_nil, List.getElem?_cons_zero, List.getElem?_cons_succ, List.set_cons_zero, List.set_cons_succ, List.length_cons, List.length_nil, List.map_cons, List.map_nil, Nat.reduceAdd, Nat.reduceSub, if_true, if_false, Bool.false_eq_true, Bool.not_true, Bool.not_false, eq_self, decide_true, decide_false, Nat.reduceLeDiff, Nat.reduceEqDiff, reduceCtorEq, add_f, sub_f, neg_f, int_f, intb_f, abs_f, lenl_f, lent_f, lt_f, le_f, gt_f, ge_f, eq_f, ne_f, permL1, permL2, isTup_t, tup0, tup1, PNx, PRt, PRs, PBk, PCt, pad, List.cons_append, List.nil_append, List.replicate, h]; first | done | exact ⟨rfl, rfl⟩ | exact ⟨trivial, rfl⟩ | trivial)
theorem over_x (h : m_need_two [.d x, .d y] = .raise e none) : m_over [.d x, .d y] = .raise e none := by
  unfold m_over
  refine P_raise (def_P ?_)
  (simp only [sSeq, SR.andThen, sIf, sSet_ap, sSetO, sAsg, pName_ap, pTup, pCons, pNil, Option.bind_some, Option.map_some, ofS, sPut, sExpr, sRet, sRetO, sRetV, sRetN, sSkip, sBreak, sPar, mBool, mBin, mUn, mCB, mCBL, mCons, mNil_ap, mPure, mVar, mOwn, mOwn1, mOwnR, mNot, mAnd, mOr, mAndV, mOrV, mIf, mOfB, mTruD, truD, mTup, mLst, mCold, mMut, mMut0, mMove, mCall, mKw, asD, asO, gConsD, gConsS, gNilA_ap, callRes, lvsOf, toLV, refsOf, slotL, slotO, mSeq, mBinO, mPart, mSl, ER.bind, ER.toS, ofO, dropS, List.foldr_cons, List.foldr_nil, List.getElem?_cons_zero, List.getElem?_cons_succ, List.set_cons_zero, List.set_cons_succ, List.length_cons, List.length_nil, List.map_cons, List.map_nil, Nat.reduceAdd, Nat.reduceSub, if_true, if_false, Bool.false_eq_true, Bool.not_true, Bool.not_false, eq_self, decide_true, decide_false, Nat.reduceLeDiff, Nat.reduceEqDiff, reduceCtorEq, add_f, sub_f, neg_f, int_f, intb_f, abs_f, lenl_f, lent_f, lt_f, le_f, gt_f, ge_f, eq_f, ne_f, permL1, permL2, isTup_t, tup0, tup1, PNx, PRt, PRs, PBk, PCt, pad, List.cons_append, List.nil_append, List.replicate, h]; first | done | exact ⟨rfl, rfl⟩ | exact ⟨trivial, rfl⟩ | trivial)
theorem is_less_x (h : m_need_two [.d x, .d y] = .raise e none) : m_is_less [.d x, .d y] = .raise e none := by
  unfold m_is_less
  refine P_raise (def_P ?_)
  (simp only [sSeq, SR.andThen, sIf, sSet_ap, sSetO, sAsg, pName_ap, pTup, pCons, pNil, Option.bind_some, Option.map_some, ofS, sPut, sExpr, sRet, sRetO, sRetV, sRetN, sSkip, sBreak, sPar, mBool, mBin, mUn, mCB, mCBL, mCons, mNil_ap, mPure, mVar, mOwn, mOwn1, mOwnR, mNot, mAnd, mOr, mAndV, mOrV, mIf, mOfB, mTruD, truD, mTup, mLst, mCold, mMut, mMut0, mMove, mCall, mKw, asD, asO, gConsD, gConsS, gNilA_ap, callRes, lvsOf, toLV, refsOf, slotL, slotO, mSeq, mBinO, mPart, mSl, ER.bind, ER.toS, ofO, dropS, List.foldr_cons, List.foldr_nil, List.getElem?_cons_zero, List.getElem?_cons_succ, List.set_cons_zero, List.set_cons_succ, List.length_cons, List.length_nil, List.map_cons, List.map_nil, Nat.reduceAdd, Nat.reduceSub, if_true, if_false, Bool.false_eq_true, Bool.not_true, Bool.not_false, eq_self, decide_true, decide_false, Nat.reduceLeDiff, Nat.reduceEqDiff, reduceCtorEq, add_f, sub_f, neg_f, int_f, intb_f, abs_f, lenl_f, lent_f, lt_f, le_f, gt_f, ge_f, eq_f, ne_f, permL1, permL2, isTup_t, tup0, tup1, PNx, PRt, PRs, PBk, PCt, pad, List.cons_append, List.nil_append, List.replicate, h]; first | done | exact ⟨rfl, rfl⟩ | exact ⟨trivial, rfl⟩ | trivial)
end
theorem e_quotient_of {t b : Int} {n : Nat} (hb : b ≠ 0) (s : Sz n b) (hn : n < 9000) : m_quotient_of [.d (.int t), .d (.int b)] = .ret (.d (qt (redP t b) (redQ t b))) none := by
  have l := e_lowest (t := t) hb s hn
  have d0 : decide (b = 0) = false := decide_eq_false hb
  have i1 : ∀ a, m_is_integer [.d (.int a)] = .ret (.d (.bool true)) none := fun a => rfl
  unfold m_quotient_of
  refine P_eq (def_P ?_)
  refine P_seq fun K hK => ?_
  simp only [sSeq, SR.andThen, sIf, sSet_ap, sSetO, sAsg, pName_ap, pTup, pCons, pNil, Option.bind_some, Option.map_some, ofS, sPut, sExpr, sRet, sRetO, sRetV, sRetN, sSkip, sBreak, sPar, mBool, mBin, mUn, mCB, mCBL, mCons, mNil_ap, mPure, mVar, mOwn, mOwn1, mOwnR, mNot, mAnd, mOr, mAndV, mOrV, mIf, mOfB, mTruD, truD, mTup, mLst, mCold, mMut, mMut0, mMove, mCall, mKw, asD, asO, gConsD, gConsS, gNilA_ap, callRes, lvsOf, toLV, refsOf, slotL, slotO, mSeq, mBinO, mPart, mSl, ER.bind, ER.toS, ofO, dropS, List.foldr_cons, List.foldr_nil, List.getElem?_cons_zero, List.getElem?_cons_succ, List.set_cons_zero, List.set_cons_succ, List.length_cons, List.length_nil, List.map_cons, List.map_nil, Nat.reduceAdd, Nat.reduceSub, if_true, if_false, Bool.false_eq_true, Bool.not_true, Bool.not_false, eq_self, decide_true, decide_false, Nat.reduceLeDiff, Nat.reduceEqDiff, reduceCtorEq, add_f, sub_f, neg_f, int_f, intb_f, abs_f, lenl_f, lent_f, lt_f, le_f, gt_f, ge_f, eq_f, ne_f, permL1, permL2, isTup_t, tup0, tup1, PNx, PRt, PRs, PBk, PCt, pad, List.cons_append, List.nil_append, List.replicate, i1, e_need_t]
  refine hK _ ?_
  clear hK K
  refine P_seq fun K hK => ?_
  simp only [sSeq, SR.andThen, sIf, sSet_ap, sSetO, sAsg, pName_ap, pTup, pCons, pNil, Option.bind_some, Option.map_some, ofS, sPut, sExpr, sRet, sRetO, sRetV, sRetN, sSkip, sBreak, sPar, mBool, mBin, mUn, mCB, mCBL, mCons, mNil_ap, mPure, mVar, mOwn, mOwn1, mOwnR, mNot, mAnd, mOr, mAndV, mOrV, mIf, mOfB, mTruD, truD, mTup, mLst, mCold, mMut, mMut0, mMove, mCall, mKw, asD, asO, gConsD, gConsS, gNilA_ap, callRes, lvsOf, toLV, refsOf, slotL, slotO, mSeq, mBinO, mPart, mSl, ER.bind, ER.toS, ofO, dropS, List.foldr_cons, List.foldr_nil, List.getElem?_cons_zero, List.getElem?_cons_succ, List.set_cons_zero, List.set_cons_succ, List.length_cons, List.length_nil, List.map_cons, List.map_nil, Nat.reduceAdd, Nat.reduceSub, if_true, if_false, Bool.false_eq_true, Bool.not_true, Bool.not_false, eq_self, decide_true, decide_false, Nat.reduceLeDiff, Nat.reduceEqDiff, reduceCtorEq, add_f, sub_f, neg_f, int_f, intb_f, abs_f, lenl_f, lent_f, lt_f, le_f, gt_f, ge_f, eq_f, ne_f, permL1, permL2, isTup_t, tup0, tup1, PNx, PRt, PRs, PBk, PCt, i1, d0, e_need_t]
  refine hK _ ?_
  clear hK K
  (simp only [sSeq, SR.andThen, sIf, sSet_ap, sSetO, sAsg, pName_ap, pTup, pCons, pNil, Option.bind_some, Option.map_some, ofS, sPut, sExpr, sRet, sRetO, sRetV, sRetN, sSkip, sBreak, sPar, mBool, mBin, mUn, mCB, mCBL, mCons, mNil_ap, mPure, mVar, mOwn, mOwn1, mOwnR, mNot, mAnd, mOr, mAndV, mOrV, mIf, mOfB, mTruD, truD, mTup, mLst, mCold, mMut, mMut0, mMove, mCall, mKw, asD, asO, gConsD, gConsS, gNilA_ap, callRes, lvsOf, toLV, refsOf, slotL, slotO, mSeq, mBinO, mPart, mSl, ER.bind, ER.toS, ofO, dropS, List.foldr_cons, List.foldr_nil, List.getElem?_cons_zero, List.getElem?_cons_succ, List.set_cons_zero, List.set_cons_succ, List.length_cons, List.length_nil, List.map_cons, List.map_nil, Nat.reduceAdd, Nat.reduceSub, if_true, if_false, Bool.false_eq_true, Bool.not_true, Bool.not_false, eq_self, decide_true, decide_false, Nat.reduceLeDiff, Nat.reduceEqDiff, reduceCtorEq, add_f, sub_f, neg_f, int_f, intb_f, abs_f, lenl_f, lent_f, lt_f, le_f, gt_f, ge_f, eq_f, ne_f, permL1, permL2, isTup_t, tup0, tup1, PNx, PRt, PRs, PBk, PCt, l]; first | done | exact ⟨rfl, rfl⟩ | exact ⟨trivial, rfl⟩ | trivial)
theorem quotient_of_1 {x y : D} (h : isZ x = false) : m_quotient_of [.d x, .d y] = .raise (nu "top") none := by
  have e := e_is_integer x
  rw [h] at e
  unfold m_quotient_of
  refine P_raise (def_P ?_)
  (simp only [sSeq, SR.andThen, sIf, sSet_ap, sSetO, sAsg, pName_ap, pTup, pCons, pNil, Option.bind_some, Option.map_some, ofS, sPut, sExpr, sRet, sRetO, sRetV, sRetN, sSkip, sBreak, sPar, mBool, mBin, mUn, mCB, mCBL, mCons, mNil_ap, mPure, mVar, mOwn, mOwn1, mOwnR, mNot, mAnd, mOr, mAndV, mOrV, mIf, mOfB, mTruD, truD, mTup, mLst, mCold, mMut, mMut0, mMove, mCall, mKw, asD, asO, gConsD, gConsS, gNilA_ap, callRes, lvsOf, toLV, refsOf, slotL, slotO, mSeq, mBinO, mPart, mSl, ER.bind, ER.toS, ofO, dropS, List.foldr_cons, List.foldr_nil, List.getElem?_cons_zero, List.getElem?_cons_succ, List.set_cons_zero, List.set_cons_succ, List.length_cons, List.length_nil, List.map_cons, List.map_nil, Nat.reduceAdd, Nat.reduceSub, if_true, if_false, Bool.false_eq_true, Bool.not_true, Bool.not_false, eq_self, decide_true, decide_false, Nat.reduceLeDiff, Nat.reduceEqDiff, reduceCtorEq, add_f, sub_f, neg_f, int_f, intb_f, abs_f, lenl_f, lent_f, lt_f, le_f, gt_f, ge_f, eq_f, ne_f, permL1, permL2, isTup_t, tup0, tup1, PNx, PRt, PRs, PBk, PCt, pad, List.cons_append, List.nil_append, List.replicate, e, e_need_f]; first | done | exact ⟨rfl, rfl⟩ | exact ⟨trivial, rfl⟩ | trivial)
theorem quotient_of_2 {a : Int} {y : D} (h : isZ y = false) : m_quotient_of [.d (.int a), .d y] = .raise (nu "bottom") none := by
  have e := e_is_integer y
  rw [h] at e
  have i1 : ∀ a, m_is_integer [.d (.int a)] = .ret (.d (.bool true)) none := fun a => rfl
  unfold m_quotient_of
  refine P_raise (def_P ?_)
  refine P_seq fun K hK => ?_
  simp only [sSeq, SR.andThen, sIf, sSet_ap, sSetO, sAsg, pName_ap, pTup, pCons, pNil, Option.bind_some, Option.map_some, ofS, sPut, sExpr, sRet, sRetO, sRetV, sRetN, sSkip, sBreak, sPar, mBool, mBin, mUn, mCB, mCBL, mCons, mNil_ap, mPure, mVar, mOwn, mOwn1, mOwnR, mNot, mAnd, mOr, mAndV, mOrV, mIf, mOfB, mTruD, truD, mTup, mLst, mCold, mMut, mMut0, mMove, mCall, mKw, asD, asO, gConsD, gConsS, gNilA_ap, callRes, lvsOf, toLV, refsOf, slotL, slotO, mSeq, mBinO, mPart, mSl, ER.bind, ER.toS, ofO, dropS, List.foldr_cons, List.foldr_nil, List.getElem?_cons_zero, List.getElem?_cons_succ, List.set_cons_zero, List.set_cons_succ, List.length_cons, List.length_nil, List.map_cons, List.map_nil, Nat.reduceAdd, Nat.reduceSub, if_true, if_false, Bool.false_eq_true, Bool.not_true, Bool.not_false, eq_self, decide_true, decide_false, Nat.reduceLeDiff, Nat.reduceEqDiff, reduceCtorEq, add_f, sub_f, neg_f, int_f, intb_f, abs_f, lenl_f, lent_f, lt_f, le_f, gt_f, ge_f, eq_f, ne_f, permL1, permL2, isTup_t, tup0, tup1, PNx, PRt, PRs, PBk, PCt, pad, List.cons_append, List.nil_append, List.replicate, i1, e_need_t]
  refine hK _ ?_
  clear hK K
  (simp only [sSeq, SR.andThen, sIf, sSet_ap, sSetO, sAsg, pName_ap, pTup, pCons, pNil, Option.bind_some, Option.map_some, ofS, sPut, sExpr, sRet, sRetO, sRetV, sRetN, sSkip, sBreak, sPar, mBool, mBin, mUn, mCB, mCBL, mCons, mNil_ap, mPure, mVar, mOwn, mOwn1, mOwnR, mNot, mAnd, mOr, mAndV, mOrV, mIf, mOfB, mTruD, truD, mTup, mLst, mCold, mMut, mMut0, mMove, mCall, mKw, asD, asO, gConsD, gConsS, gNilA_ap, callRes, lvsOf, toLV, refsOf, slotL, slotO, mSeq, mBinO, mPart, mSl, ER.bind, ER.toS, ofO, dropS, List.foldr_cons, List.foldr_nil, List.getElem?_cons_zero, List.getElem?_cons_succ, List.set_cons_zero, List.set_cons_succ, List.length_cons, List.length_nil, List.map_cons, List.map_nil, Nat.reduceAdd, Nat.reduceSub, if_true, if_false, Bool.false_eq_true, Bool.not_true, Bool.not_false, eq_self, decide_true, decide_false, Nat.reduceLeDiff, Nat.reduceEqDiff, reduceCtorEq, add_f, sub_f, neg_f, int_f, intb_f, abs_f, lenl_f, lent_f, lt_f, le_f, gt_f, ge_f, eq_f, ne_f, permL1, permL2, isTup_t, tup0, tup1, PNx, PRt, PRs, PBk, PCt, e, e_need_f]; first | done | exact ⟨rfl, rfl⟩ | exact ⟨trivial, rfl⟩ | trivial)
theorem quotient_of_0 {a : Int} : m_quotient_of [.d (.int a), .d (.int 0)] = .raise (nu "bottom") none := by
  have i1 : ∀ a, m_is_integer [.d (.int a)] = .ret (.d (.bool true)) none := fun a => rfl
  unfold m_quotient_of
  refine P_raise (def_P ?_)
  refine P_seq fun K hK => ?_
  simp only [sSeq, SR.andThen, sIf, sSet_ap, sSetO, sAsg, pName_ap, pTup, pCons, pNil, Option.bind_some, Option.map_some, ofS, sPut, sExpr, sRet, sRetO, sRetV, sRetN, sSkip, sBreak, sPar, mBool, mBin, mUn, mCB, mCBL, mCons, mNil_ap, mPure, mVar, mOwn, mOwn1, mOwnR, mNot, mAnd, mOr, mAndV, mOrV, mIf, mOfB, mTruD, truD, mTup, mLst, mCold, mMut, mMut0, mMove, mCall, mKw, asD, asO, gConsD, gConsS, gNilA_ap, callRes, lvsOf, toLV, refsOf, slotL, slotO, mSeq, mBinO, mPart, mSl, ER.bind, ER.toS, ofO, dropS, List.foldr_cons, List.foldr_nil, List.getElem?_cons_zero, List.getElem?_cons_succ, List.set_cons_zero, List.set_cons_succ, List.length_cons, List.length_nil, List.map_cons, List.map_nil, Nat.reduceAdd, Nat.reduceSub, if_true, if_false, Bool.false_eq_true, Bool.not_true, Bool.not_false, eq_self, decide_true, decide_false, Nat.reduceLeDiff, Nat.reduceEqDiff, reduceCtorEq, add_f, sub_f, neg_f, int_f, intb_f, abs_f, lenl_f, lent_f, lt_f, le_f, gt_f, ge_f, eq_f, ne_f, permL1, permL2, isTup_t, tup0, tup1, PNx, PRt, PRs, PBk, PCt, pad, List.cons_append, List.nil_append, List.replicate, i1, e_need_t]
  refine hK _ ?_
  clear hK K
  (simp only [sSeq, SR.andThen, sIf, sSet_ap, sSetO, sAsg, pName_ap, pTup, pCons, pNil, Option.bind_some, Option.map_some, ofS, sPut, sExpr, sRet, sRetO, sRetV, sRetN, sSkip, sBreak, sPar, mBool, mBin, mUn, mCB, mCBL, mCons, mNil_ap, mPure, mVar, mOwn, mOwn1, mOwnR, mNot, mAnd, mOr, mAndV, mOrV, mIf, mOfB, mTruD, truD, mTup, mLst, mCold, mMut, mMut0, mMove, mCall, mKw, asD, asO, gConsD, gConsS, gNilA_ap, callRes, lvsOf, toLV, refsOf, slotL, slotO, mSeq, mBinO, mPart, mSl, ER.bind, ER.toS, ofO, dropS, List.foldr_cons, List.foldr_nil, List.getElem?_cons_zero, List.getElem?_cons_succ, List.set_cons_zero, List.set_cons_succ, List.length_cons, List.length_nil, List.map_cons, List.map_nil, Nat.reduceAdd, Nat.reduceSub, if_true, if_false, Bool.false_eq_true, Bool.not_true, Bool.not_false, eq_self, decide_true, decide_false, Nat.reduceLeDiff, Nat.reduceEqDiff, reduceCtorEq, add_f, sub_f, neg_f, int_f, intb_f, abs_f, lenl_f, lent_f, lt_f, le_f, gt_f, ge_f, eq_f, ne_f, permL1, permL2, isTup_t, tup0, tup1, PNx, PRt, PRs, PBk, PCt, i1, e_need_f]; first | done | exact ⟨rfl, rfl⟩ | exact ⟨trivial, rfl⟩ | trivial)
/-! the law's own -/
theorem gI_neg {t b : Int} : gI (-t) (-b) = gI t b := by unfold gI; rw [Int.neg_gcd, Int.gcd_neg]
theorem e__law_lowest {t b : Int} (hb : b ≠ 0) (h : Sz 6000 b) : m__law_lowest [.d (.int t), .d (.int b)] = .ret (.d (qt (redP t b) (redQ t b))) none := by
  have g := gI_pos (t := t) hb
  have gs := gI_sz (t := t) hb h
  have d1 : ∀ x, fDiv (.int x) (.int (gI t b)) = some (.int (x / gI t b)) := fun x => divS g gs (by decide)
  unfold m__law_lowest
  refine P_eq (def_P ?_)
  by_cases hn : b < 0
  · have hd : decide (b < 0) = true := decide_eq_true hn
    have c := e__law_common (t := -t) (b := -b) h.neg
    rw [gI_neg] at c
    have e3 : qt (redP t b) (redQ t b) = .tuple [.int (-t / gI t b), .int (-b / gI t b)] := by
      unfold qt redP redQ
      rw [if_pos hn, if_pos hn, Int.neg_ediv_of_dvd (show gI t b ∣ t from Int.gcd_dvd_left t b), Int.neg_ediv_of_dvd (show gI t b ∣ b from Int.gcd_dvd_right t b)]
    rw [e3]
    refine P_seq fun K hK => ?_
    simp only [sSeq, SR.andThen, sIf, sSet_ap, sSetO, sAsg, pName_ap, pTup, pCons, pNil, Option.bind_some, Option.map_some, ofS, sPut, sExpr, sRet, sRetO, sRetV, sRetN, sSkip, sBreak, sPar, mBool, mBin, mUn, mCB, mCBL, mCons, mNil_ap, mPure, mVar, mOwn, mOwn1, mOwnR, mNot, mAnd, mOr, mAndV, mOrV, mIf, mOfB, mTruD, truD, mTup, mLst, mCold, mMut, mMut0, mMove, mCall, mKw, asD, asO, gConsD, gConsS, gNilA_ap, callRes, lvsOf, toLV, refsOf, slotL, slotO, mSeq, mBinO, mPart, mSl, ER.bind, ER.toS, ofO, dropS, List.foldr_cons, List.foldr_nil, List.getElem?_cons_zero, List.getElem?_cons_succ, List.set_cons_zero, List.set_cons_succ, List.length_cons, List.length_nil, List.map_cons, List.map_nil, Nat.reduceAdd, Nat.reduceSub, if_true, if_false, Bool.false_eq_true, Bool.not_true, Bool.not_false, eq_self, decide_true, decide_false, Nat.reduceLeDiff, Nat.reduceEqDiff, reduceCtorEq, add_f, sub_f, neg_f, int_f, intb_f, abs_f, lenl_f, lent_f, lt_f, le_f, gt_f, ge_f, eq_f, ne_f, permL1, permL2, isTup_t, tup0, tup1, PNx, PRt, PRs, PBk, PCt, pad, List.cons_append, List.nil_append, List.replicate, hd]
    refine hK _ ?_
    clear hK K
    refine P_seq fun K hK => ?_
    simp only [sSeq, SR.andThen, sIf, sSet_ap, sSetO, sAsg, pName_ap, pTup, pCons, pNil, Option.bind_some, Option.map_some, ofS, sPut, sExpr, sRet, sRetO, sRetV, sRetN, sSkip, sBreak, sPar, mBool, mBin, mUn, mCB, mCBL, mCons, mNil_ap, mPure, mVar, mOwn, mOwn1, mOwnR, mNot, mAnd, mOr, mAndV, mOrV, mIf, mOfB, mTruD, truD, mTup, mLst, mCold, mMut, mMut0, mMove, mCall, mKw, asD, asO, gConsD, gConsS, gNilA_ap, callRes, lvsOf, toLV, refsOf, slotL, slotO, mSeq, mBinO, mPart, mSl, ER.bind, ER.toS, ofO, dropS, List.foldr_cons, List.foldr_nil, List.getElem?_cons_zero, List.getElem?_cons_succ, List.set_cons_zero, List.set_cons_succ, List.length_cons, List.length_nil, List.map_cons, List.map_nil, Nat.reduceAdd, Nat.reduceSub, if_true, if_false, Bool.false_eq_true, Bool.not_true, Bool.not_false, eq_self, decide_true, decide_false, Nat.reduceLeDiff, Nat.reduceEqDiff, reduceCtorEq, add_f, sub_f, neg_f, int_f, intb_f, abs_f, lenl_f, lent_f, lt_f, le_f, gt_f, ge_f, eq_f, ne_f, permL1, permL2, isTup_t, tup0, tup1, PNx, PRt, PRs, PBk, PCt, c]
    refine hK _ ?_
    clear hK K
    (simp only [sSeq, SR.andThen, sIf, sSet_ap, sSetO, sAsg, pName_ap, pTup, pCons, pNil, Option.bind_some, Option.map_some, ofS, sPut, sExpr, sRet, sRetO, sRetV, sRetN, sSkip, sBreak, sPar, mBool, mBin, mUn, mCB, mCBL, mCons, mNil_ap, mPure, mVar, mOwn, mOwn1, mOwnR, mNot, mAnd, mOr, mAndV, mOrV, mIf, mOfB, mTruD, truD, mTup, mLst, mCold, mMut, mMut0, mMove, mCall, mKw, asD, asO, gConsD, gConsS, gNilA_ap, callRes, lvsOf, toLV, refsOf, slotL, slotO, mSeq, mBinO, mPart, mSl, ER.bind, ER.toS, ofO, dropS, List.foldr_cons, List.foldr_nil, List.getElem?_cons_zero, List.getElem?_cons_succ, List.set_cons_zero, List.set_cons_succ, List.length_cons, List.length_nil, List.map_cons, List.map_nil, Nat.reduceAdd, Nat.reduceSub, if_true, if_false, Bool.false_eq_true, Bool.not_true, Bool.not_false, eq_self, decide_true, decide_false, Nat.reduceLeDiff, Nat.reduceEqDiff, reduceCtorEq, add_f, sub_f, neg_f, int_f, intb_f, abs_f, lenl_f, lent_f, lt_f, le_f, gt_f, ge_f, eq_f, ne_f, permL1, permL2, isTup_t, tup0, tup1, PNx, PRt, PRs, PBk, PCt, d1]; first | done | exact ⟨rfl, rfl⟩ | exact ⟨trivial, rfl⟩ | trivial)
  · have hd : decide (b < 0) = false := decide_eq_false hn
    have c := e__law_common (t := t) (b := b) h
    have e3 : qt (redP t b) (redQ t b) = .tuple [.int (t / gI t b), .int (b / gI t b)] := by unfold qt redP redQ; rw [if_neg hn, if_neg hn]
    rw [e3]
    refine P_seq fun K hK => ?_
    simp only [sSeq, SR.andThen, sIf, sSet_ap, sSetO, sAsg, pName_ap, pTup, pCons, pNil, Option.bind_some, Option.map_some, ofS, sPut, sExpr, sRet, sRetO, sRetV, sRetN, sSkip, sBreak, sPar, mBool, mBin, mUn, mCB, mCBL, mCons, mNil_ap, mPure, mVar, mOwn, mOwn1, mOwnR, mNot, mAnd, mOr, mAndV, mOrV, mIf, mOfB, mTruD, truD, mTup, mLst, mCold, mMut, mMut0, mMove, mCall, mKw, asD, asO, gConsD, gConsS, gNilA_ap, callRes, lvsOf, toLV, refsOf, slotL, slotO, mSeq, mBinO, mPart, mSl, ER.bind, ER.toS, ofO, dropS, List.foldr_cons, List.foldr_nil, List.getElem?_cons_zero, List.getElem?_cons_succ, List.set_cons_zero, List.set_cons_succ, List.length_cons, List.length_nil, List.map_cons, List.map_nil, Nat.reduceAdd, Nat.reduceSub, if_true, if_false, Bool.false_eq_true, Bool.not_true, Bool.not_false, eq_self, decide_true, decide_false, Nat.reduceLeDiff, Nat.reduceEqDiff, reduceCtorEq, add_f, sub_f, neg_f, int_f, intb_f, abs_f, lenl_f, lent_f, lt_f, le_f, gt_f, ge_f, eq_f, ne_f, permL1, permL2, isTup_t, tup0, tup1, PNx, PRt, PRs, PBk, PCt, pad, List.cons_append, List.nil_append, List.replicate, hd]
    refine hK _ ?_
    clear hK K
    refine P_seq fun K hK => ?_
    simp only [sSeq, SR.andThen, sIf, sSet_ap, sSetO, sAsg, pName_ap, pTup, pCons, pNil, Option.bind_some, Option.map_some, ofS, sPut, sExpr, sRet, sRetO, sRetV, sRetN, sSkip, sBreak, sPar, mBool, mBin, mUn, mCB, mCBL, mCons, mNil_ap, mPure, mVar, mOwn, mOwn1, mOwnR, mNot, mAnd, mOr, mAndV, mOrV, mIf, mOfB, mTruD, truD, mTup, mLst, mCold, mMut, mMut0, mMove, mCall, mKw, asD, asO, gConsD, gConsS, gNilA_ap, callRes, lvsOf, toLV, refsOf, slotL, slotO, mSeq, mBinO, mPart, mSl, ER.bind, ER.toS, ofO, dropS, List.foldr_cons, List.foldr_nil, List.getElem?_cons_zero, List.getElem?_cons_succ, List.set_cons_zero, List.set_cons_succ, List.length_cons, List.length_nil, List.map_cons, List.map_nil, Nat.reduceAdd, Nat.reduceSub, if_true, if_false, Bool.false_eq_true, Bool.not_true, Bool.not_false, eq_self, decide_true, decide_false, Nat.reduceLeDiff, Nat.reduceEqDiff, reduceCtorEq, add_f, sub_f, neg_f, int_f, intb_f, abs_f, lenl_f, lent_f, lt_f, le_f, gt_f, ge_f, eq_f, ne_f, permL1, permL2, isTup_t, tup0, tup1, PNx, PRt, PRs, PBk, PCt, c]
    refine hK _ ?_
    clear hK K
    (simp only [sSeq, SR.andThen, sIf, sSet_ap, sSetO, sAsg, pName_ap, pTup, pCons, pNil, Option.bind_some, Option.map_some, ofS, sPut, sExpr, sRet, sRetO, sRetV, sRetN, sSkip, sBreak, sPar, mBool, mBin, mUn, mCB, mCBL, mCons, mNil_ap, mPure, mVar, mOwn, mOwn1, mOwnR, mNot, mAnd, mOr, mAndV, mOrV, mIf, mOfB, mTruD, truD, mTup, mLst, mCold, mMut, mMut0, mMove, mCall, mKw, asD, asO, gConsD, gConsS, gNilA_ap, callRes, lvsOf, toLV, refsOf, slotL, slotO, mSeq, mBinO, mPart, mSl, ER.bind, ER.toS, ofO, dropS, List.foldr_cons, List.foldr_nil, List.getElem?_cons_zero, List.getElem?_cons_succ, List.set_cons_zero, List.set_cons_succ, List.length_cons, List.length_nil, List.map_cons, List.map_nil, Nat.reduceAdd, Nat.reduceSub, if_true, if_false, Bool.false_eq_true, Bool.not_true, Bool.not_false, eq_self, decide_true, decide_false, Nat.reduceLeDiff, Nat.reduceEqDiff, reduceCtorEq, add_f, sub_f, neg_f, int_f, intb_f, abs_f, lenl_f, lent_f, lt_f, le_f, gt_f, ge_f, eq_f, ne_f, permL1, permL2, isTup_t, tup0, tup1, PNx, PRt, PRs, PBk, PCt, d1]; first | done | exact ⟨rfl, rfl⟩ | exact ⟨trivial, rfl⟩ | trivial)
theorem e__law_stands {p q hi lo : Int} {n : Nat} (g : GQ p q) (s1 : Sz n p) (s2 : Sz n q) (s3 : Sz n hi) (s4 : Sz n lo) (hn : n ≤ 6000) (e : p * lo = hi * q) : m__law_stands [.d (qt p q), .d (.int hi), .d (.int lo)] = .ret (.d (.bool true)) none := by
  have c := e__law_common (t := p) (b := q) (s2.mono hn)
  have c1 : gI p q = 1 := by unfold gI; rw [g.cop]; rfl
  rw [c1] at c
  have m1 := mulS s1 s4 (by omega)
  have m2 := mulS s3 s2 (by omega)
  have i1 : ∀ a, m__law_is_integer [.d (.int a)] = .ret (.d (.bool true)) none := fun a => rfl
  have t1 : isTup (qt p q) = true := rfl
  have l1 : gLen [qt p q] = some (.int 2) := rfl
  have d0 : decide (0 < q) = true := decide_eq_true g.pos
  unfold m__law_stands
  refine P_eq (def_P ?_)
  refine P_seq fun K hK => ?_
  simp only [sSeq, SR.andThen, sIf, sSet_ap, sSetO, sAsg, pName_ap, pTup, pCons, pNil, Option.bind_some, Option.map_some, ofS, sPut, sExpr, sRet, sRetO, sRetV, sRetN, sSkip, sBreak, sPar, mBool, mBin, mUn, mCB, mCBL, mCons, mNil_ap, mPure, mVar, mOwn, mOwn1, mOwnR, mNot, mAnd, mOr, mAndV, mOrV, mIf, mOfB, mTruD, truD, mTup, mLst, mCold, mMut, mMut0, mMove, mCall, mKw, asD, asO, gConsD, gConsS, gNilA_ap, callRes, lvsOf, toLV, refsOf, slotL, slotO, mSeq, mBinO, mPart, mSl, ER.bind, ER.toS, ofO, dropS, List.foldr_cons, List.foldr_nil, List.getElem?_cons_zero, List.getElem?_cons_succ, List.set_cons_zero, List.set_cons_succ, List.length_cons, List.length_nil, List.map_cons, List.map_nil, Nat.reduceAdd, Nat.reduceSub, if_true, if_false, Bool.false_eq_true, Bool.not_true, Bool.not_false, eq_self, decide_true, decide_false, Nat.reduceLeDiff, Nat.reduceEqDiff, reduceCtorEq, add_f, sub_f, neg_f, int_f, intb_f, abs_f, lenl_f, lent_f, lt_f, le_f, gt_f, ge_f, eq_f, ne_f, permL1, permL2, isTup_t, tup0, tup1, PNx, PRt, PRs, PBk, PCt, pad, List.cons_append, List.nil_append, List.replicate, t1, l1, i1, qt0, qt1]
  refine hK _ ?_
  clear hK K
  (simp only [sSeq, SR.andThen, sIf, sSet_ap, sSetO, sAsg, pName_ap, pTup, pCons, pNil, Option.bind_some, Option.map_some, ofS, sPut, sExpr, sRet, sRetO, sRetV, sRetN, sSkip, sBreak, sPar, mBool, mBin, mUn, mCB, mCBL, mCons, mNil_ap, mPure, mVar, mOwn, mOwn1, mOwnR, mNot, mAnd, mOr, mAndV, mOrV, mIf, mOfB, mTruD, truD, mTup, mLst, mCold, mMut, mMut0, mMove, mCall, mKw, asD, asO, gConsD, gConsS, gNilA_ap, callRes, lvsOf, toLV, refsOf, slotL, slotO, mSeq, mBinO, mPart, mSl, ER.bind, ER.toS, ofO, dropS, List.foldr_cons, List.foldr_nil, List.getElem?_cons_zero, List.getElem?_cons_succ, List.set_cons_zero, List.set_cons_succ, List.length_cons, List.length_nil, List.map_cons, List.map_nil, Nat.reduceAdd, Nat.reduceSub, if_true, if_false, Bool.false_eq_true, Bool.not_true, Bool.not_false, eq_self, decide_true, decide_false, Nat.reduceLeDiff, Nat.reduceEqDiff, reduceCtorEq, add_f, sub_f, neg_f, int_f, intb_f, abs_f, lenl_f, lent_f, lt_f, le_f, gt_f, ge_f, eq_f, ne_f, permL1, permL2, isTup_t, tup0, tup1, PNx, PRt, PRs, PBk, PCt, qt0, qt1, d0, c, m1, m2, e]; first | done | exact ⟨rfl, rfl⟩ | exact ⟨trivial, rfl⟩ | trivial)
end pw_threadsround_k01_whole_quotients_and_rowG

set_option Elab.async false
set_option linter.all false
set_option maxRecDepth 100000
set_option maxHeartbeats 400000
namespace pw_threadsround_k01_whole_quotients_and_rowG
open PySem PySem.Spec L2 Pu
def TakeOk (T : Fd) : Prop := ∀ F : Fe, F.ok → ∀ m : Int, 0 < m → m < 1073741824 → ∃ r F', T [.o F.oo, .d (.int m)] = .ret (.d (.int r)) (some (Fe.oo F')) ∧ 0 ≤ r ∧ r < m ∧ F'.ok
theorem mulI {i j : Int} {a b : Nat} (h : Sz a i) (k : Sz b j) (hb : a + b < 1000000) : fMul (.int i) (.int j) = some (.int (i * j)) := mulS h k hb
theorem pw12 : fPow (.int 10) (.int 12) = some (.int (10 ^ 12)) := pow_f (by decide)
theorem pw9 : fPow (.int 10) (.int 9) = some (.int (10 ^ 9)) := pow_f (by decide)
theorem pw20 : fPow (.int 10) (.int 20) = some (.int (10 ^ 20)) := pow_f (by decide)
theorem e__law_integer (F : Fe) (h : F.ok) : ∃ x F', m__law_integer [.o F.oo] = .ret (.d (.int x)) (some (Fe.oo F')) ∧ Sz 98 x ∧ F'.ok := by
  have key := P_ex (r := m__law_integer [.o F.oo]) (Φ := fun v o => ∃ (x : Int) (F' : Fe), v = .d (.int x) ∧ o = some (Fe.oo F') ∧ Sz 98 x ∧ F'.ok) fun R X hR => by
    have hT : TakeOk m__law_take := e_take
    unfold m__law_integer
    generalize m__law_take = T at *
    refine def_P ?_
    obtain ⟨k, F0, e0, k0, k1, h0⟩ := hT F h 6 (by decide) (by decide)
    refine P_seq fun K hK => ?_
    simp only [sSeq, SR.andThen, sIf, sSet_ap, sSetO, sAsg, pName_ap, pTup, pCons, pNil, Option.bind_some, Option.map_some, ofS, sPut, sExpr, sRet, sRetO, sRetV, sRetN, sSkip, sBreak, sPar, mBool, mBin, mUn, mCB, mCBL, mCons, mNil_ap, mPure, mVar, mOwn, mOwn1, mOwnR, mNot, mAnd, mOr, mAndV, mOrV, mIf, mOfB, mTruD, truD, mTup, mLst, mCold, mMut, mMut0, mMove, mCall, mKw, asD, asO, gConsD, gConsS, gNilA_ap, callRes, lvsOf, toLV, refsOf, slotL, slotO, mSeq, mBinO, mPart, mSl, ER.bind, ER.toS, ofO, dropS, List.foldr_cons, List.foldr_nil, List.getElem?_cons_zero, List.getElem?_cons_succ, List.set_cons_zero, List.set_cons_succ, List.length_cons, List.length_nil, List.map_cons, List.map_nil, Nat.reduceAdd, Nat.reduceSub, if_true, if_false, Bool.false_eq_true, Bool.not_true, Bool.not_false, eq_self, decide_true, decide_false, Nat.reduceLeDiff, Nat.reduceEqDiff, reduceCtorEq, add_f, sub_f, neg_f, int_f, intb_f, abs_f, lenl_f, lent_f, lt_f, le_f, gt_f, ge_f, eq_f, ne_f, permL1, permL2, isTup_t, tup0, tup1, PNx, PRt, PRs, PBk, PCt, pad, List.cons_append, List.nil_append, List.replicate, e0]
    refine hK _ ?_
    clear hK K
    by_cases c1 : k < 2
    · have d1 : decide (k < 2) = true := decide_eq_true c1
      obtain ⟨r, F1, e1, r0, r1, h1⟩ := hT F0 h0 19 (by decide) (by decide)
      refine P_seq' ?_
      simp only [sSeq, SR.andThen, sIf, sSet_ap, sSetO, sAsg, pName_ap, pTup, pCons, pNil, Option.bind_some, Option.map_some, ofS, sPut, sExpr, sRet, sRetO, sRetV, sRetN, sSkip, sBreak, sPar, mBool, mBin, mUn, mCB, mCBL, mCons, mNil_ap, mPure, mVar, mOwn, mOwn1, mOwnR, mNot, mAnd, mOr, mAndV, mOrV, mIf, mOfB, mTruD, truD, mTup, mLst, mCold, mMut, mMut0, mMove, mCall, mKw, asD, asO, gConsD, gConsS, gNilA_ap, callRes, lvsOf, toLV, refsOf, slotL, slotO, mSeq, mBinO, mPart, mSl, ER.bind, ER.toS, ofO, dropS, List.foldr_cons, List.foldr_nil, List.getElem?_cons_zero, List.getElem?_cons_succ, List.set_cons_zero, List.set_cons_succ, List.length_cons, List.length_nil, List.map_cons, List.map_nil, Nat.reduceAdd, Nat.reduceSub, if_true, if_false, Bool.false_eq_true, Bool.not_true, Bool.not_false, eq_self, decide_true, decide_false, Nat.reduceLeDiff, Nat.reduceEqDiff, reduceCtorEq, add_f, sub_f, neg_f, int_f, intb_f, abs_f, lenl_f, lent_f, lt_f, le_f, gt_f, ge_f, eq_f, ne_f, permL1, permL2, isTup_t, tup0, tup1, PNx, PRt, PRs, PBk, PCt, d1, e1]
      exact outP_s (x := F1.oo) rfl (hR _ _ ⟨_, F1, rfl, rfl, Sz.of (by omega) (by omega), h1⟩)
    have d1 : decide (k < 2) = false := decide_eq_false c1
    refine P_seq fun K hK => ?_
    simp only [sSeq, SR.andThen, sIf, sSet_ap, sSetO, sAsg, pName_ap, pTup, pCons, pNil, Option.bind_some, Option.map_some, ofS, sPut, sExpr, sRet, sRetO, sRetV, sRetN, sSkip, sBreak, sPar, mBool, mBin, mUn, mCB, mCBL, mCons, mNil_ap, mPure, mVar, mOwn, mOwn1, mOwnR, mNot, mAnd, mOr, mAndV, mOrV, mIf, mOfB, mTruD, truD, mTup, mLst, mCold, mMut, mMut0, mMove, mCall, mKw, asD, asO, gConsD, gConsS, gNilA_ap, callRes, lvsOf, toLV, refsOf, slotL, slotO, mSeq, mBinO, mPart, mSl, ER.bind, ER.toS, ofO, dropS, List.foldr_cons, List.foldr_nil, List.getElem?_cons_zero, List.getElem?_cons_succ, List.set_cons_zero, List.set_cons_succ, List.length_cons, List.length_nil, List.map_cons, List.map_nil, Nat.reduceAdd, Nat.reduceSub, if_true, if_false, Bool.false_eq_true, Bool.not_true, Bool.not_false, eq_self, decide_true, decide_false, Nat.reduceLeDiff, Nat.reduceEqDiff, reduceCtorEq, add_f, sub_f, neg_f, int_f, intb_f, abs_f, lenl_f, lent_f, lt_f, le_f, gt_f, ge_f, eq_f, ne_f, permL1, permL2, isTup_t, tup0, tup1, PNx, PRt, PRs, PBk, PCt, d1]
    refine hK _ ?_
    clear hK K
    by_cases c2 : k = 2
    · have d2 : decide (k = 2) = true := decide_eq_true c2
      obtain ⟨r, F1, e1, r0, r1, h1⟩ := hT F0 h0 2001 (by decide) (by decide)
      refine P_seq' ?_
      simp only [sSeq, SR.andThen, sIf, sSet_ap, sSetO, sAsg, pName_ap, pTup, pCons, pNil, Option.bind_some, Option.map_some, ofS, sPut, sExpr, sRet, sRetO, sRetV, sRetN, sSkip, sBreak, sPar, mBool, mBin, mUn, mCB, mCBL, mCons, mNil_ap, mPure, mVar, mOwn, mOwn1, mOwnR, mNot, mAnd, mOr, mAndV, mOrV, mIf, mOfB, mTruD, truD, mTup, mLst, mCold, mMut, mMut0, mMove, mCall, mKw, asD, asO, gConsD, gConsS, gNilA_ap, callRes, lvsOf, toLV, refsOf, slotL, slotO, mSeq, mBinO, mPart, mSl, ER.bind, ER.toS, ofO, dropS, List.foldr_cons, List.foldr_nil, List.getElem?_cons_zero, List.getElem?_cons_succ, List.set_cons_zero, List.set_cons_succ, List.length_cons, List.length_nil, List.map_cons, List.map_nil, Nat.reduceAdd, Nat.reduceSub, if_true, if_false, Bool.false_eq_true, Bool.not_true, Bool.not_false, eq_self, decide_true, decide_false, Nat.reduceLeDiff, Nat.reduceEqDiff, reduceCtorEq, add_f, sub_f, neg_f, int_f, intb_f, abs_f, lenl_f, lent_f, lt_f, le_f, gt_f, ge_f, eq_f, ne_f, permL1, permL2, isTup_t, tup0, tup1, PNx, PRt, PRs, PBk, PCt, d2, e1]
      exact outP_s (x := F1.oo) rfl (hR _ _ ⟨_, F1, rfl, rfl, Sz.of (by omega) (by omega), h1⟩)
    have d2 : decide (k = 2) = false := decide_eq_false c2
    refine P_seq fun K hK => ?_
    simp only [sSeq, SR.andThen, sIf, sSet_ap, sSetO, sAsg, pName_ap, pTup, pCons, pNil, Option.bind_some, Option.map_some, ofS, sPut, sExpr, sRet, sRetO, sRetV, sRetN, sSkip, sBreak, sPar, mBool, mBin, mUn, mCB, mCBL, mCons, mNil_ap, mPure, mVar, mOwn, mOwn1, mOwnR, mNot, mAnd, mOr, mAndV, mOrV, mIf, mOfB, mTruD, truD, mTup, mLst, mCold, mMut, mMut0, mMove, mCall, mKw, asD, asO, gConsD, gConsS, gNilA_ap, callRes, lvsOf, toLV, refsOf, slotL, slotO, mSeq, mBinO, mPart, mSl, ER.bind, ER.toS, ofO, dropS, List.foldr_cons, List.foldr_nil, List.getElem?_cons_zero, List.getElem?_cons_succ, List.set_cons_zero, List.set_cons_succ, List.length_cons, List.length_nil, List.map_cons, List.map_nil, Nat.reduceAdd, Nat.reduceSub, if_true, if_false, Bool.false_eq_true, Bool.not_true, Bool.not_false, eq_self, decide_true, decide_false, Nat.reduceLeDiff, Nat.reduceEqDiff, reduceCtorEq, add_f, sub_f, neg_f, int_f, intb_f, abs_f, lenl_f, lent_f, lt_f, le_f, gt_f, ge_f, eq_f, ne_f, permL1, permL2, isTup_t, tup0, tup1, PNx, PRt, PRs, PBk, PCt, d2]
    refine hK _ ?_
    clear hK K
    by_cases c3 : k = 3
    · have d3 : decide (k = 3) = true := decide_eq_true c3
      obtain ⟨r, F1, e1, r0, r1, h1⟩ := hT F0 h0 9 (by decide) (by decide)
      obtain ⟨s, F2, e2, s0, s1, h2⟩ := hT F1 h1 12 (by decide) (by decide)
      obtain ⟨t, F3, e3, t0, t1, h3⟩ := hT F2 h2 12 (by decide) (by decide)
      have z1 : Sz 4 (r - 4) := Sz.of (by omega) (by omega)
      have z2 : Sz 4 (1 + s) := Sz.of (by omega) (by omega)
      have z3 : Sz 4 (1 + t) := Sz.of (by omega) (by omega)
      have m1 := mulS z1 z2 (by decide)
      have m2 := mulS (z1.mul z2) z3 (by decide)
      refine P_seq' ?_
      simp only [sSeq, SR.andThen, sIf, sSet_ap, sSetO, sAsg, pName_ap, pTup, pCons, pNil, Option.bind_some, Option.map_some, ofS, sPut, sExpr, sRet, sRetO, sRetV, sRetN, sSkip, sBreak, sPar, mBool, mBin, mUn, mCB, mCBL, mCons, mNil_ap, mPure, mVar, mOwn, mOwn1, mOwnR, mNot, mAnd, mOr, mAndV, mOrV, mIf, mOfB, mTruD, truD, mTup, mLst, mCold, mMut, mMut0, mMove, mCall, mKw, asD, asO, gConsD, gConsS, gNilA_ap, callRes, lvsOf, toLV, refsOf, slotL, slotO, mSeq, mBinO, mPart, mSl, ER.bind, ER.toS, ofO, dropS, List.foldr_cons, List.foldr_nil, List.getElem?_cons_zero, List.getElem?_cons_succ, List.set_cons_zero, List.set_cons_succ, List.length_cons, List.length_nil, List.map_cons, List.map_nil, Nat.reduceAdd, Nat.reduceSub, if_true, if_false, Bool.false_eq_true, Bool.not_true, Bool.not_false, eq_self, decide_true, decide_false, Nat.reduceLeDiff, Nat.reduceEqDiff, reduceCtorEq, add_f, sub_f, neg_f, int_f, intb_f, abs_f, lenl_f, lent_f, lt_f, le_f, gt_f, ge_f, eq_f, ne_f, permL1, permL2, isTup_t, tup0, tup1, PNx, PRt, PRs, PBk, PCt, d3, e1, e2, e3, m1, m2]
      exact outP_s (x := F3.oo) rfl (hR _ _ ⟨_, F3, rfl, rfl, ((z1.mul z2).mul z3).mono (by decide), h3⟩)
    have d3 : decide (k = 3) = false := decide_eq_false c3
    refine P_seq fun K hK => ?_
    simp only [sSeq, SR.andThen, sIf, sSet_ap, sSetO, sAsg, pName_ap, pTup, pCons, pNil, Option.bind_some, Option.map_some, ofS, sPut, sExpr, sRet, sRetO, sRetV, sRetN, sSkip, sBreak, sPar, mBool, mBin, mUn, mCB, mCBL, mCons, mNil_ap, mPure, mVar, mOwn, mOwn1, mOwnR, mNot, mAnd, mOr, mAndV, mOrV, mIf, mOfB, mTruD, truD, mTup, mLst, mCold, mMut, mMut0, mMove, mCall, mKw, asD, asO, gConsD, gConsS, gNilA_ap, callRes, lvsOf, toLV, refsOf, slotL, slotO, mSeq, mBinO, mPart, mSl, ER.bind, ER.toS, ofO, dropS, List.foldr_cons, List.foldr_nil, List.getElem?_cons_zero, List.getElem?_cons_succ, List.set_cons_zero, List.set_cons_succ, List.length_cons, List.length_nil, List.map_cons, List.map_nil, Nat.reduceAdd, Nat.reduceSub, if_true, if_false, Bool.false_eq_true, Bool.not_true, Bool.not_false, eq_self, decide_true, decide_false, Nat.reduceLeDiff, Nat.reduceEqDiff, reduceCtorEq, add_f, sub_f, neg_f, int_f, intb_f, abs_f, lenl_f, lent_f, lt_f, le_f, gt_f, ge_f, eq_f, ne_f, permL1, permL2, isTup_t, tup0, tup1, PNx, PRt, PRs, PBk, PCt, d3]
    refine hK _ ?_
    clear hK K
    by_cases c4 : k = 4
    · have d4 : decide (k = 4) = true := decide_eq_true c4
      obtain ⟨r, F1, e1, r0, r1, h1⟩ := hT F0 h0 2 (by decide) (by decide)
      obtain ⟨s, F2, e2, s0, s1, h2⟩ := hT F1 h1 3 (by decide) (by decide)
      have z0 : Sz 2 2 := by unfold Sz; decide
      have z1 : Sz 1 r := Sz.of (by omega) (by omega)
      have z2 : Sz 2 (1 - 2 * r) := Sz.of (by omega) (by omega)
      have z3 : Sz 40 (10 ^ 12) := by unfold Sz; decide
      have m1 := mulS z0 z1 (by decide)
      have m2 := mulS z2 z3 (by decide)
      have z4 : Sz 42 ((1 - 2 * r) * 10 ^ 12) := z2.mul z3
      have z5 : Sz 42 (s - 1) := Sz.of (by omega) (by omega)
      have z6 := z4.add z5
      rw [← Int.add_sub_assoc] at z6
      refine P_seq' ?_
      simp only [sSeq, SR.andThen, sIf, sSet_ap, sSetO, sAsg, pName_ap, pTup, pCons, pNil, Option.bind_some, Option.map_some, ofS, sPut, sExpr, sRet, sRetO, sRetV, sRetN, sSkip, sBreak, sPar, mBool, mBin, mUn, mCB, mCBL, mCons, mNil_ap, mPure, mVar, mOwn, mOwn1, mOwnR, mNot, mAnd, mOr, mAndV, mOrV, mIf, mOfB, mTruD, truD, mTup, mLst, mCold, mMut, mMut0, mMove, mCall, mKw, asD, asO, gConsD, gConsS, gNilA_ap, callRes, lvsOf, toLV, refsOf, slotL, slotO, mSeq, mBinO, mPart, mSl, ER.bind, ER.toS, ofO, dropS, List.foldr_cons, List.foldr_nil, List.getElem?_cons_zero, List.getElem?_cons_succ, List.set_cons_zero, List.set_cons_succ, List.length_cons, List.length_nil, List.map_cons, List.map_nil, Nat.reduceAdd, Nat.reduceSub, if_true, if_false, Bool.false_eq_true, Bool.not_true, Bool.not_false, eq_self, decide_true, decide_false, Nat.reduceLeDiff, Nat.reduceEqDiff, reduceCtorEq, add_f, sub_f, neg_f, int_f, intb_f, abs_f, lenl_f, lent_f, lt_f, le_f, gt_f, ge_f, eq_f, ne_f, permL1, permL2, isTup_t, tup0, tup1, PNx, PRt, PRs, PBk, PCt, d4, e1, e2, m1, m2, pw12]
      exact outP_s (x := F2.oo) rfl (hR _ _ ⟨_, F2, rfl, rfl, z6.mono (by decide), h2⟩)
    have d4 : decide (k = 4) = false := decide_eq_false c4
    refine P_seq fun K hK => ?_
    simp only [sSeq, SR.andThen, sIf, sSet_ap, sSetO, sAsg, pName_ap, pTup, pCons, pNil, Option.bind_some, Option.map_some, ofS, sPut, sExpr, sRet, sRetO, sRetV, sRetN, sSkip, sBreak, sPar, mBool, mBin, mUn, mCB, mCBL, mCons, mNil_ap, mPure, mVar, mOwn, mOwn1, mOwnR, mNot, mAnd, mOr, mAndV, mOrV, mIf, mOfB, mTruD, truD, mTup, mLst, mCold, mMut, mMut0, mMove, mCall, mKw, asD, asO, gConsD, gConsS, gNilA_ap, callRes, lvsOf, toLV, refsOf, slotL, slotO, mSeq, mBinO, mPart, mSl, ER.bind, ER.toS, ofO, dropS, List.foldr_cons, List.foldr_nil, List.getElem?_cons_zero, List.getElem?_cons_succ, List.set_cons_zero, List.set_cons_succ, List.length_cons, List.length_nil, List.map_cons, List.map_nil, Nat.reduceAdd, Nat.reduceSub, if_true, if_false, Bool.false_eq_true, Bool.not_true, Bool.not_false, eq_self, decide_true, decide_false, Nat.reduceLeDiff, Nat.reduceEqDiff, reduceCtorEq, add_f, sub_f, neg_f, int_f, intb_f, abs_f, lenl_f, lent_f, lt_f, le_f, gt_f, ge_f, eq_f, ne_f, permL1, permL2, isTup_t, tup0, tup1, PNx, PRt, PRs, PBk, PCt, d4]
    refine hK _ ?_
    clear hK K
    obtain ⟨r, F1, e1, r0, r1, h1⟩ := hT F0 h0 2 (by decide) (by decide)
    obtain ⟨s, F2, e2, s0, s1, h2⟩ := hT F1 h1 (10 ^ 9) (by decide) (by decide)
    obtain ⟨t, F3, e3, t0, t1, h3⟩ := hT F2 h2 (10 ^ 9) (by decide) (by decide)
    have z0 : Sz 2 2 := by unfold Sz; decide
    have z1 : Sz 1 r := Sz.of (by omega) (by omega)
    have z2 : Sz 2 (1 - 2 * r) := Sz.of (by omega) (by omega)
    have z3 : Sz 67 (10 ^ 20) := by unfold Sz; decide
    have z4 : Sz 30 s := Sz.of (by omega) (by omega)
    have z5 : Sz 97 t := (Sz.of (a := 30) (by omega) (by omega)).mono (by decide)
    have m1 := mulS z0 z1 (by decide)
    have m2 := mulS z4 z3 (by decide)
    have z6 := ((show Sz 97 _ from z4.mul z3)).add z5
    have m3 := mulS z2 z6 (by decide)
    simp only [sSeq, SR.andThen, sIf, sSet_ap, sSetO, sAsg, pName_ap, pTup, pCons, pNil, Option.bind_some, Option.map_some, ofS, sPut, sExpr, sRet, sRetO, sRetV, sRetN, sSkip, sBreak, sPar, mBool, mBin, mUn, mCB, mCBL, mCons, mNil_ap, mPure, mVar, mOwn, mOwn1, mOwnR, mNot, mAnd, mOr, mAndV, mOrV, mIf, mOfB, mTruD, truD, mTup, mLst, mCold, mMut, mMut0, mMove, mCall, mKw, asD, asO, gConsD, gConsS, gNilA_ap, callRes, lvsOf, toLV, refsOf, slotL, slotO, mSeq, mBinO, mPart, mSl, ER.bind, ER.toS, ofO, dropS, List.foldr_cons, List.foldr_nil, List.getElem?_cons_zero, List.getElem?_cons_succ, List.set_cons_zero, List.set_cons_succ, List.length_cons, List.length_nil, List.map_cons, List.map_nil, Nat.reduceAdd, Nat.reduceSub, if_true, if_false, Bool.false_eq_true, Bool.not_true, Bool.not_false, eq_self, decide_true, decide_false, Nat.reduceLeDiff, Nat.reduceEqDiff, reduceCtorEq, add_f, sub_f, neg_f, int_f, intb_f, abs_f, lenl_f, lent_f, lt_f, le_f, gt_f, ge_f, eq_f, ne_f, permL1, permL2, isTup_t, tup0, tup1, PNx, PRt, PRs, PBk, PCt, e1, e2, e3, m1, m2, m3, pw9, pw20]
    refine outP_s (x := F3.oo) rfl (hR _ _ ⟨_, F3, rfl, rfl, ?_, h3⟩)
    have hr : r = 0 ∨ r = 1 := by omega
    rcases hr with rfl | rfl
    · rw [show (1 : Int) - 2 * 0 = 1 from rfl, Int.one_mul]
      exact z6
    · rw [show (1 : Int) - 2 * 1 = -1 from rfl, Int.neg_one_mul]
      exact z6.neg
  obtain ⟨v, o, e, x, F', rfl, rfl, h1, h2⟩ := key
  exact ⟨x, F', e, h1, h2⟩
def IntOk (T : Fd) : Prop := ∀ F : Fe, F.ok → ∃ x F', T [.o F.oo] = .ret (.d (.int x)) (some (Fe.oo F')) ∧ Sz 98 x ∧ F'.ok
theorem e__law_quotient (F : Fe) (h : F.ok) : ∃ p q F', m__law_quotient [.o F.oo] = .ret (.d (qt p q)) (some (Fe.oo F')) ∧ GQ p q ∧ Sz 98 p ∧ Sz 99 q ∧ F'.ok := by
  have key := P_ex (r := m__law_quotient [.o F.oo]) (Φ := fun v o => ∃ (p q : Int) (F' : Fe), v = .d (qt p q) ∧ o = some (Fe.oo F') ∧ GQ p q ∧ Sz 98 p ∧ Sz 99 q ∧ F'.ok) fun R X hR => by
    have hI : IntOk m__law_integer := e__law_integer
    unfold m__law_quotient
    generalize m__law_integer = T at *
    refine def_P ?_
    obtain ⟨x, F1, e1, z1, h1⟩ := hI F h
    obtain ⟨y, F2, e2, z2, h2⟩ := hI F1 h1
    refine P_seq fun K hK => ?_
    simp only [sSeq, SR.andThen, sIf, sSet_ap, sSetO, sAsg, pName_ap, pTup, pCons, pNil, Option.bind_some, Option.map_some, ofS, sPut, sExpr, sRet, sRetO, sRetV, sRetN, sSkip, sBreak, sPar, mBool, mBin, mUn, mCB, mCBL, mCons, mNil_ap, mPure, mVar, mOwn, mOwn1, mOwnR, mNot, mAnd, mOr, mAndV, mOrV, mIf, mOfB, mTruD, truD, mTup, mLst, mCold, mMut, mMut0, mMove, mCall, mKw, asD, asO, gConsD, gConsS, gNilA_ap, callRes, lvsOf, toLV, refsOf, slotL, slotO, mSeq, mBinO, mPart, mSl, ER.bind, ER.toS, ofO, dropS, List.foldr_cons, List.foldr_nil, List.getElem?_cons_zero, List.getElem?_cons_succ, List.set_cons_zero, List.set_cons_succ, List.length_cons, List.length_nil, List.map_cons, List.map_nil, Nat.reduceAdd, Nat.reduceSub, if_true, if_false, Bool.false_eq_true, Bool.not_true, Bool.not_false, eq_self, decide_true, decide_false, Nat.reduceLeDiff, Nat.reduceEqDiff, reduceCtorEq, add_f, sub_f, neg_f, int_f, intb_f, abs_f, lenl_f, lent_f, lt_f, le_f, gt_f, ge_f, eq_f, ne_f, permL1, permL2, isTup_t, tup0, tup1, PNx, PRt, PRs, PBk, PCt, pad, List.cons_append, List.nil_append, List.replicate, e1]
    refine hK _ ?_
    clear hK K
    refine P_seq fun K hK => ?_
    simp only [sSeq, SR.andThen, sIf, sSet_ap, sSetO, sAsg, pName_ap, pTup, pCons, pNil, Option.bind_some, Option.map_some, ofS, sPut, sExpr, sRet, sRetO, sRetV, sRetN, sSkip, sBreak, sPar, mBool, mBin, mUn, mCB, mCBL, mCons, mNil_ap, mPure, mVar, mOwn, mOwn1, mOwnR, mNot, mAnd, mOr, mAndV, mOrV, mIf, mOfB, mTruD, truD, mTup, mLst, mCold, mMut, mMut0, mMove, mCall, mKw, asD, asO, gConsD, gConsS, gNilA_ap, callRes, lvsOf, toLV, refsOf, slotL, slotO, mSeq, mBinO, mPart, mSl, ER.bind, ER.toS, ofO, dropS, List.foldr_cons, List.foldr_nil, List.getElem?_cons_zero, List.getElem?_cons_succ, List.set_cons_zero, List.set_cons_succ, List.length_cons, List.length_nil, List.map_cons, List.map_nil, Nat.reduceAdd, Nat.reduceSub, if_true, if_false, Bool.false_eq_true, Bool.not_true, Bool.not_false, eq_self, decide_true, decide_false, Nat.reduceLeDiff, Nat.reduceEqDiff, reduceCtorEq, add_f, sub_f, neg_f, int_f, intb_f, abs_f, lenl_f, lent_f, lt_f, le_f, gt_f, ge_f, eq_f, ne_f, permL1, permL2, isTup_t, tup0, tup1, PNx, PRt, PRs, PBk, PCt, e2]
    refine hK _ ?_
    clear hK K
    have hy : y + (if decide (y = 0) = true then 1 else 0) ≠ 0 := by
      by_cases c : y = 0
      · subst c; decide
      · rw [if_neg (by simp [c])]; omega
    have zy : Sz 99 (y + (if decide (y = 0) = true then 1 else 0)) := z2.add (by split <;> (unfold Sz; decide))
    have l := e__law_lowest (t := x) hy (zy.mono (by decide))
    simp only [sSeq, SR.andThen, sIf, sSet_ap, sSetO, sAsg, pName_ap, pTup, pCons, pNil, Option.bind_some, Option.map_some, ofS, sPut, sExpr, sRet, sRetO, sRetV, sRetN, sSkip, sBreak, sPar, mBool, mBin, mUn, mCB, mCBL, mCons, mNil_ap, mPure, mVar, mOwn, mOwn1, mOwnR, mNot, mAnd, mOr, mAndV, mOrV, mIf, mOfB, mTruD, truD, mTup, mLst, mCold, mMut, mMut0, mMove, mCall, mKw, asD, asO, gConsD, gConsS, gNilA_ap, callRes, lvsOf, toLV, refsOf, slotL, slotO, mSeq, mBinO, mPart, mSl, ER.bind, ER.toS, ofO, dropS, List.foldr_cons, List.foldr_nil, List.getElem?_cons_zero, List.getElem?_cons_succ, List.set_cons_zero, List.set_cons_succ, List.length_cons, List.length_nil, List.map_cons, List.map_nil, Nat.reduceAdd, Nat.reduceSub, if_true, if_false, Bool.false_eq_true, Bool.not_true, Bool.not_false, eq_self, decide_true, decide_false, Nat.reduceLeDiff, Nat.reduceEqDiff, reduceCtorEq, add_f, sub_f, neg_f, int_f, intb_f, abs_f, lenl_f, lent_f, lt_f, le_f, gt_f, ge_f, eq_f, ne_f, permL1, permL2, isTup_t, tup0, tup1, PNx, PRt, PRs, PBk, PCt, l]
    exact outP_s (x := F2.oo) rfl (hR _ _ ⟨_, _, F2, rfl, rfl, red_ok hy, redP_sz z1, redQ_sz zy, h2⟩)
  obtain ⟨v, o, e, p, q, F', rfl, rfl, h1, h2, h3, h4⟩ := key
  exact ⟨p, q, F', e, h1, h2, h3, h4⟩
end pw_threadsround_k01_whole_quotients_and_rowG

set_option Elab.async false
set_option linter.all false
set_option maxRecDepth 100000
set_option maxHeartbeats 400000
namespace pw_threadsround_k01_whole_quotients_and_rowG
open PySem PySem.Spec L2 Pu
theorem mcomp_inv {m : M (List D)} {pt : Pt} {t : M Bool} {me : M D} {vs : List Nat} {σ σ1 : Pu.Loc} {ds : List D} (I : Pu.Loc → Prop) (P : D → Prop) (h : m σ = .ok ds σ1) (hl : ds.length ≤ 1000000) (h0 : I (dropS vs σ1))
    (hs : ∀ d ∈ ds, ∀ σ, I σ → ∃ σ2 σ3 σ4 v, pt d σ = some σ2 ∧ t σ2 = .ok true σ3 ∧ me σ3 = .ok v σ4 ∧ P v ∧ I (dropS vs σ4)) : ∃ ws σ', mComp m pt t me vs σ = .ok (.lst ws) σ' ∧ I σ' ∧ ws.length = ds.length ∧ ∀ w ∈ ws, P w := by
  obtain ⟨ws, σ', e, a, b, c⟩ := comp_inv (pt := pt) (t := t) (me := me) (vs := vs) I P ds [] (dropS vs σ1) h0 hs
  refine ⟨ws, σ', ?_, a, b, c⟩
  unfold mComp; rw [h]
  show (if _ then _ else _) = _
  rw [if_pos hl]
  exact e
theorem ints_of {ws : List D} {P : Int → Prop} (h : ∀ w ∈ ws, ∃ i : Int, w = .int i ∧ P i) : ∃ ns : List Int, ws = ns.map PyData.int ∧ ∀ x ∈ ns, P x := by
  induction ws with
  | nil => exact ⟨[], rfl, fun _ h => by cases h⟩
  | cons w r ih =>
    obtain ⟨i, rfl, hi⟩ := h w (List.mem_cons_self ..)
    obtain ⟨ns, rfl, hn⟩ := ih fun w h2 => h w (List.mem_cons_of_mem _ h2)
    exact ⟨i :: ns, rfl, fun x hx => by rcases List.mem_cons.mp hx with e | e; exact e ▸ hi; exact hn x e⟩
theorem last_c (A : List Int) (z : Int) : hIx ((A ++ [z]).map PyData.int) (.int (-1)) = some (.int z) := by
  show atI _ _ = _
  unfold atI ixN
  rw [List.length_map, List.length_append, if_neg (by decide), if_pos (by simp; omega)]
  rw [List.map_append]
  show ((A.map PyData.int) ++ [PyData.int z])[_]? = _
  rw [show (-1 + ((A.length + [z].length : Nat) : Int)).toNat = (A.map PyData.int).length from by rw [List.length_map]; simp; omega, List.getElem?_append_right (Nat.le_refl _), Nat.sub_self]
  rfl
theorem put_c (A : List Int) (z y : Int) (σ : Pu.Loc) : putStep 2 (.int y) (.int (-1)) σ ((A ++ [z]).map PyData.int) = .nx (σ.set 2 (some (.o (.lst ((A ++ [y]).map PyData.int))))) := by
  unfold putStep ixN
  simp only
  rw [List.length_map, List.length_append, if_neg (by decide), if_pos (by simp; omega)]
  rw [List.map_append, List.map_append, show (-1 + ((A.length + [z].length : Nat) : Int)).toNat = (A.map PyData.int).length from by rw [List.length_map]; simp; omega]
  simp
structure Poly (ns : List Int) : Prop where
  len : ns.length ≤ 8
  sz : ∀ x ∈ ns, Sz 960 x
  row : Row ns
theorem pw64 : fPow (.int 10) (.int 64) = some (.int (10 ^ 64)) := pow_f (by decide)
def wd : Int := 10 ^ 64 * 10 ^ 64 * 10 ^ 64 * 10 ^ 64
theorem wd1 : fMul (.int (10 ^ 64)) (.int (10 ^ 64)) = some (.int (10 ^ 64 * 10 ^ 64)) := mulS (a := 213) (b := 213) (by unfold Sz; decide +kernel) (by unfold Sz; decide +kernel) (by decide)
theorem wd2 : fMul (.int (10 ^ 64 * 10 ^ 64)) (.int (10 ^ 64)) = some (.int (10 ^ 64 * 10 ^ 64 * 10 ^ 64)) := mulS (a := 426) (b := 213) (by unfold Sz; decide +kernel) (by unfold Sz; decide +kernel) (by decide)
theorem wd3 : fMul (.int (10 ^ 64 * 10 ^ 64 * 10 ^ 64)) (.int (10 ^ 64)) = some (.int wd) := mulS (a := 639) (b := 213) (by unfold Sz; decide +kernel) (by unfold Sz; decide +kernel) (by decide)
theorem wd_sz : Sz 852 wd := by unfold Sz; decide +kernel
theorem e__law_poly (F : Fe) (h : F.ok) (g : Bool) : ∃ ns F', m__law_poly [.o F.oo, .d (.bool g)] = .ret (.d (.tuple (ns.map PyData.int))) (some (Fe.oo F')) ∧ Poly ns ∧ F'.ok := by
  have key := P_ex (r := m__law_poly [.o F.oo, .d (.bool g)]) (Φ := fun v o => ∃ (ns : List Int) (F' : Fe), v = .d (.tuple (ns.map PyData.int)) ∧ o = some (Fe.oo F') ∧ Poly ns ∧ F'.ok) fun R X hR => by
    have hI : IntOk m__law_integer := e__law_integer
    have hT : TakeOk m__law_take := e_take
    unfold m__law_poly
    generalize m__law_integer = V at *
    generalize m__law_take = T at *
    refine def_P ?_
    obtain ⟨n, F1, e1, n0, n1, h1⟩ := hT F h 9 (by decide) (by decide)
    obtain ⟨ws, σ', ec, ⟨F2, h2, rfl⟩, hl, hw⟩ := mcomp_inv (σ := [some (.o F.oo), some (.d (.bool g)), none, none, none]) (vs := [4]) (pt := pName 4) (t := mPure true)
      (me := mBin fMul (asD (mCall 1 V (some 0) (gConsS 0 gNilA))) (mCB gInt (mCons (mBin fGt (asD (mCall 2 T (some 0) (gConsS 0 (gConsD (mPure (.int 4)) gNilA)))) (mPure (.int 0))) mNil)))
      (fun σ => ∃ F' : Fe, F'.ok ∧ σ = [some (.o F'.oo), some (.d (.bool g)), none, none, none]) (fun d => ∃ i : Int, d = .int i ∧ Sz 99 i)
      (range1_ok (n := n) (ms := mCons (asD (mCall 2 T (some 0) (gConsS 0 (gConsD (mPure (.int 9)) gNilA)))) mNil) (σ1 := [some (.o F1.oo), some (.d (.bool g)), none, none, none]) (by (simp only [sSeq, SR.andThen, sIf, sSet_ap, sSetO, sAsg, pName_ap, pTup, pCons, pNil, Option.bind_some, Option.map_some, ofS, sPut, sExpr, sRet, sRetO, sRetV, sRetN, sSkip, sBreak, sPar, mBool, mBin, mUn, mCB, mCBL, mCons, mNil_ap, mPure, mVar, mOwn, mOwn1, mOwnR, mNot, mAnd, mOr, mAndV, mOrV, mIf, mOfB, mTruD, truD, mTup, mLst, mCold, mMut, mMut0, mMove, mCall, mKw, asD, asO, gConsD, gConsS, gNilA_ap, callRes, lvsOf, toLV, refsOf, slotL, slotO, mSeq, mBinO, mPart, mSl, ER.bind, ER.toS, ofO, dropS, List.foldr_cons, List.foldr_nil, List.getElem?_cons_zero, List.getElem?_cons_succ, List.set_cons_zero, List.set_cons_succ, List.length_cons, List.length_nil, List.map_cons, List.map_nil, Nat.reduceAdd, Nat.reduceSub, if_true, if_false, Bool.false_eq_true, Bool.not_true, Bool.not_false, eq_self, decide_true, decide_false, Nat.reduceLeDiff, Nat.reduceEqDiff, reduceCtorEq, add_f, sub_f, neg_f, int_f, intb_f, abs_f, lenl_f, lent_f, lt_f, le_f, gt_f, ge_f, eq_f, ne_f, permL1, permL2, isTup_t, tup0, tup1, PNx, PRt, PRs, PBk, PCt, e1]); first | done | rfl) n0 (by omega))
      (by rw [rangeD_len]; omega) ⟨F1, h1, rfl⟩ (fun d hd σ hi => by
        obtain ⟨F', hF, rfl⟩ := hi
        obtain ⟨x, Fa, ea, xa, ha⟩ := hI F' hF
        obtain ⟨r, Fb, eb, r0, r1, hb⟩ := hT Fa ha 4 (by decide) (by decide)
        have hm := mulS (x := x) (y := if decide (0 < r) = true then 1 else 0) xa (show Sz 1 _ by split <;> (unfold Sz; decide)) (by decide)
        refine ⟨_, _, [some (.o Fb.oo), some (.d (.bool g)), none, none, some (.d d)], _, rfl, rfl, ?_, ⟨_, rfl, xa.mul (show Sz 1 (if decide (0 < r) = true then (1 : Int) else 0) by split <;> (unfold Sz; decide))⟩, Fb, hb, rfl⟩
        (simp only [sSeq, SR.andThen, sIf, sSet_ap, sSetO, sAsg, pName_ap, pTup, pCons, pNil, Option.bind_some, Option.map_some, ofS, sPut, sExpr, sRet, sRetO, sRetV, sRetN, sSkip, sBreak, sPar, mBool, mBin, mUn, mCB, mCBL, mCons, mNil_ap, mPure, mVar, mOwn, mOwn1, mOwnR, mNot, mAnd, mOr, mAndV, mOrV, mIf, mOfB, mTruD, truD, mTup, mLst, mCold, mMut, mMut0, mMove, mCall, mKw, asD, asO, gConsD, gConsS, gNilA_ap, callRes, lvsOf, toLV, refsOf, slotL, slotO, mSeq, mBinO, mPart, mSl, ER.bind, ER.toS, ofO, dropS, List.foldr_cons, List.foldr_nil, List.getElem?_cons_zero, List.getElem?_cons_succ, List.set_cons_zero, List.set_cons_succ, List.length_cons, List.length_nil, List.map_cons, List.map_nil, Nat.reduceAdd, Nat.reduceSub, if_true, if_false, Bool.false_eq_true, Bool.not_true, Bool.not_false, eq_self, decide_true, decide_false, Nat.reduceLeDiff, Nat.reduceEqDiff, reduceCtorEq, add_f, sub_f, neg_f, int_f, intb_f, abs_f, lenl_f, lent_f, lt_f, le_f, gt_f, ge_f, eq_f, ne_f, permL1, permL2, isTup_t, tup0, tup1, PNx, PRt, PRs, PBk, PCt, ea, eb, hm]; first | done | exact ⟨rfl, rfl⟩ | exact ⟨trivial, rfl⟩ | trivial)
      )
    obtain ⟨L, rfl, hL⟩ := ints_of hw
    rw [List.length_map, rangeD_len] at hl
    simp only [pad, List.map_cons, List.map_nil, List.length_cons, List.length_nil, Nat.reduceAdd, Nat.reduceSub, List.cons_append, List.nil_append, List.replicate]
    refine P_seq fun K hK => ?_
    rw [setO_ok ec, PNx]
    refine hK _ ?_
    clear hK K
    simp only [dropS, List.foldr_cons, List.foldr_nil, List.set_cons_zero, List.set_cons_succ]
    refine P_seq' (P_mono (N := fun σ => ∃ (L2 : List Int) (w k : Option LV), σ = [some (.o F2.oo), some (.d (.bool g)), some (.o (.lst (L2.map PyData.int))), w, k] ∧ L2.length ≤ 8 ∧ ∀ x ∈ L2, Sz 960 x) (T := fun v σ => outP (some 0) σ (R v)) (X := fun x σ => outP (some 0) σ (X x)) (B := fun _ => False) (C := fun _ => False) ?_ ?_ (fun _ _ h => h) (fun _ _ h => h) (fun _ h => h) (fun _ h => h))
    · cases g with
      | false =>
        refine P_if (k := false) rfl (fun h => by cases h) fun _ => ?_
        simp only [sSeq, SR.andThen, sIf, sSet_ap, sSetO, sAsg, pName_ap, pTup, pCons, pNil, Option.bind_some, Option.map_some, ofS, sPut, sExpr, sRet, sRetO, sRetV, sRetN, sSkip, sBreak, sPar, mBool, mBin, mUn, mCB, mCBL, mCons, mNil_ap, mPure, mVar, mOwn, mOwn1, mOwnR, mNot, mAnd, mOr, mAndV, mOrV, mIf, mOfB, mTruD, truD, mTup, mLst, mCold, mMut, mMut0, mMove, mCall, mKw, asD, asO, gConsD, gConsS, gNilA_ap, callRes, lvsOf, toLV, refsOf, slotL, slotO, mSeq, mBinO, mPart, mSl, ER.bind, ER.toS, ofO, dropS, List.foldr_cons, List.foldr_nil, List.getElem?_cons_zero, List.getElem?_cons_succ, List.set_cons_zero, List.set_cons_succ, List.length_cons, List.length_nil, List.map_cons, List.map_nil, Nat.reduceAdd, Nat.reduceSub, if_true, if_false, Bool.false_eq_true, Bool.not_true, Bool.not_false, eq_self, decide_true, decide_false, Nat.reduceLeDiff, Nat.reduceEqDiff, reduceCtorEq, add_f, sub_f, neg_f, int_f, intb_f, abs_f, lenl_f, lent_f, lt_f, le_f, gt_f, ge_f, eq_f, ne_f, permL1, permL2, isTup_t, tup0, tup1, PNx, PRt, PRs, PBk, PCt]
        exact ⟨L, _, _, rfl, by omega, fun x hx => (hL x hx).mono (by decide)⟩
      | true =>
        have ht : truD (.bool true) = some true := rfl
        refine P_if (k := true) (by (simp only [sSeq, SR.andThen, sIf, sSet_ap, sSetO, sAsg, pName_ap, pTup, pCons, pNil, Option.bind_some, Option.map_some, ofS, sPut, sExpr, sRet, sRetO, sRetV, sRetN, sSkip, sBreak, sPar, mBool, mBin, mUn, mCB, mCBL, mCons, mNil_ap, mPure, mVar, mOwn, mOwn1, mOwnR, mNot, mAnd, mOr, mAndV, mOrV, mIf, mOfB, mTruD, truD, mTup, mLst, mCold, mMut, mMut0, mMove, mCall, mKw, asD, asO, gConsD, gConsS, gNilA_ap, callRes, lvsOf, toLV, refsOf, slotL, slotO, mSeq, mBinO, mPart, mSl, ER.bind, ER.toS, ofO, dropS, List.foldr_cons, List.foldr_nil, List.getElem?_cons_zero, List.getElem?_cons_succ, List.set_cons_zero, List.set_cons_succ, List.length_cons, List.length_nil, List.map_cons, List.map_nil, Nat.reduceAdd, Nat.reduceSub, if_true, if_false, Bool.false_eq_true, Bool.not_true, Bool.not_false, eq_self, decide_true, decide_false, Nat.reduceLeDiff, Nat.reduceEqDiff, reduceCtorEq, add_f, sub_f, neg_f, int_f, intb_f, abs_f, lenl_f, lent_f, lt_f, le_f, gt_f, ge_f, eq_f, ne_f, permL1, permL2, isTup_t, tup0, tup1, PNx, PRt, PRs, PBk, PCt, ht]); first | done | rfl) (fun _ => ?_) (fun h => by cases h)
        refine P_seq fun K hK => ?_
        simp only [sSeq, SR.andThen, sIf, sSet_ap, sSetO, sAsg, pName_ap, pTup, pCons, pNil, Option.bind_some, Option.map_some, ofS, sPut, sExpr, sRet, sRetO, sRetV, sRetN, sSkip, sBreak, sPar, mBool, mBin, mUn, mCB, mCBL, mCons, mNil_ap, mPure, mVar, mOwn, mOwn1, mOwnR, mNot, mAnd, mOr, mAndV, mOrV, mIf, mOfB, mTruD, truD, mTup, mLst, mCold, mMut, mMut0, mMove, mCall, mKw, asD, asO, gConsD, gConsS, gNilA_ap, callRes, lvsOf, toLV, refsOf, slotL, slotO, mSeq, mBinO, mPart, mSl, ER.bind, ER.toS, ofO, dropS, List.foldr_cons, List.foldr_nil, List.getElem?_cons_zero, List.getElem?_cons_succ, List.set_cons_zero, List.set_cons_succ, List.length_cons, List.length_nil, List.map_cons, List.map_nil, Nat.reduceAdd, Nat.reduceSub, if_true, if_false, Bool.false_eq_true, Bool.not_true, Bool.not_false, eq_self, decide_true, decide_false, Nat.reduceLeDiff, Nat.reduceEqDiff, reduceCtorEq, add_f, sub_f, neg_f, int_f, intb_f, abs_f, lenl_f, lent_f, lt_f, le_f, gt_f, ge_f, eq_f, ne_f, permL1, permL2, isTup_t, tup0, tup1, PNx, PRt, PRs, PBk, PCt, pw64, wd1, wd2, wd3]
        refine hK _ ?_
        clear hK K
        have hs0 : slotL [some (.o F2.oo), some (.d (.bool true)), some (.o (.lst (L.map PyData.int))), some (.d (.int wd)), none] 2 = some (L.map PyData.int) := rfl
        obtain ⟨ws, σ', ec2, rfl, hl2, hw2⟩ := mcomp_inv (σ := [some (.o F2.oo), some (.d (.bool true)), some (.o (.lst (L.map PyData.int))), some (.d (.int wd)), none]) (vs := [4]) (pt := pName 4) (t := mPure true)
          (me := mBin fAdd (mBin fMul (mOwn1 2 hIx (mVar 4)) (mVar 3)) (mVar 4))
          (fun σ => σ = [some (.o F2.oo), some (.d (.bool true)), some (.o (.lst (L.map PyData.int))), some (.d (.int wd)), none]) (fun d => ∃ i : Int, d = .int i ∧ Sz 960 i)
          (range1_ok (n := (L.length : Nat)) (ms := mCons (mOwn 2 hLen) mNil) (σ1 := [some (.o F2.oo), some (.d (.bool true)), some (.o (.lst (L.map PyData.int))), some (.d (.int wd)), none]) (by
            show ER.ok [PyData.int ((L.map PyData.int).length : Nat)] _ = _
            rw [List.length_map]) (by omega) (by omega))
          (by rw [rangeD_len]; omega) rfl (fun d hd σ hi => by
            subst hi
            obtain ⟨i, hi, rfl⟩ := rangeD_mem hd
            rw [Int.toNat_natCast] at hi
            have hg : hIx (L.map PyData.int) (.int (0 + (i : Nat))) = some (.int L[i]) := by
              rw [Int.zero_add]
              refine ixh_f ?_
              rw [List.getElem?_map, List.getElem?_eq_getElem hi]; rfl
            have hz := hL L[i] (List.getElem_mem hi)
            have hm := mulS hz wd_sz (by decide)
            refine ⟨_, _, [some (.o F2.oo), some (.d (.bool true)), some (.o (.lst (L.map PyData.int))), some (.d (.int wd)), some (.d (.int (0 + (i : Nat))))], _, rfl, rfl, ?_, ⟨_, rfl, ((hz.mul wd_sz).add (show Sz 951 (0 + (i : Nat)) from (Sz.of (a := 4) (by omega) (by omega)).mono (by decide))).mono (by decide)⟩, rfl⟩
            (simp only [sSeq, SR.andThen, sIf, sSet_ap, sSetO, sAsg, pName_ap, pTup, pCons, pNil, Option.bind_some, Option.map_some, ofS, sPut, sExpr, sRet, sRetO, sRetV, sRetN, sSkip, sBreak, sPar, mBool, mBin, mUn, mCB, mCBL, mCons, mNil_ap, mPure, mVar, mOwn, mOwn1, mOwnR, mNot, mAnd, mOr, mAndV, mOrV, mIf, mOfB, mTruD, truD, mTup, mLst, mCold, mMut, mMut0, mMove, mCall, mKw, asD, asO, gConsD, gConsS, gNilA_ap, callRes, lvsOf, toLV, refsOf, slotL, slotO, mSeq, mBinO, mPart, mSl, ER.bind, ER.toS, ofO, dropS, List.foldr_cons, List.foldr_nil, List.getElem?_cons_zero, List.getElem?_cons_succ, List.set_cons_zero, List.set_cons_succ, List.length_cons, List.length_nil, List.map_cons, List.map_nil, Nat.reduceAdd, Nat.reduceSub, if_true, if_false, Bool.false_eq_true, Bool.not_true, Bool.not_false, eq_self, decide_true, decide_false, Nat.reduceLeDiff, Nat.reduceEqDiff, reduceCtorEq, add_f, sub_f, neg_f, int_f, intb_f, abs_f, lenl_f, lent_f, lt_f, le_f, gt_f, ge_f, eq_f, ne_f, permL1, permL2, isTup_t, tup0, tup1, PNx, PRt, PRs, PBk, PCt, hg, hm]; first | done | exact ⟨rfl, rfl⟩ | exact ⟨trivial, rfl⟩ | trivial)
          )
        obtain ⟨L2, rfl, hL2⟩ := ints_of hw2
        rw [List.length_map, rangeD_len] at hl2
        rw [setO_ok ec2, PNx]
        exact ⟨L2, _, _, rfl, by omega, hL2⟩
    · rintro σ ⟨L2, w, k, rfl, hn, hs⟩
      rcases List.eq_nil_or_concat L2 with rfl | ⟨A, z, rfl⟩
      · have hl0 : hLen ([] : List D) = some (.int 0) := rfl
        have h00 : decide ((0 : Int) < 0) = false := rfl
        refine P_seq fun K hK => ?_
        simp only [sSeq, SR.andThen, sIf, sSet_ap, sSetO, sAsg, pName_ap, pTup, pCons, pNil, Option.bind_some, Option.map_some, ofS, sPut, sExpr, sRet, sRetO, sRetV, sRetN, sSkip, sBreak, sPar, mBool, mBin, mUn, mCB, mCBL, mCons, mNil_ap, mPure, mVar, mOwn, mOwn1, mOwnR, mNot, mAnd, mOr, mAndV, mOrV, mIf, mOfB, mTruD, truD, mTup, mLst, mCold, mMut, mMut0, mMove, mCall, mKw, asD, asO, gConsD, gConsS, gNilA_ap, callRes, lvsOf, toLV, refsOf, slotL, slotO, mSeq, mBinO, mPart, mSl, ER.bind, ER.toS, ofO, dropS, List.foldr_cons, List.foldr_nil, List.getElem?_cons_zero, List.getElem?_cons_succ, List.set_cons_zero, List.set_cons_succ, List.length_cons, List.length_nil, List.map_cons, List.map_nil, Nat.reduceAdd, Nat.reduceSub, if_true, if_false, Bool.false_eq_true, Bool.not_true, Bool.not_false, eq_self, decide_true, decide_false, Nat.reduceLeDiff, Nat.reduceEqDiff, reduceCtorEq, add_f, sub_f, neg_f, int_f, intb_f, abs_f, lenl_f, lent_f, lt_f, le_f, gt_f, ge_f, eq_f, ne_f, permL1, permL2, isTup_t, tup0, tup1, PNx, PRt, PRs, PBk, PCt, hl0, h00]
        refine hK _ ?_
        clear hK K
        have ht0 : hTuple ([] : List D) = some (.tuple []) := rfl
        simp only [sSeq, SR.andThen, sIf, sSet_ap, sSetO, sAsg, pName_ap, pTup, pCons, pNil, Option.bind_some, Option.map_some, ofS, sPut, sExpr, sRet, sRetO, sRetV, sRetN, sSkip, sBreak, sPar, mBool, mBin, mUn, mCB, mCBL, mCons, mNil_ap, mPure, mVar, mOwn, mOwn1, mOwnR, mNot, mAnd, mOr, mAndV, mOrV, mIf, mOfB, mTruD, truD, mTup, mLst, mCold, mMut, mMut0, mMove, mCall, mKw, asD, asO, gConsD, gConsS, gNilA_ap, callRes, lvsOf, toLV, refsOf, slotL, slotO, mSeq, mBinO, mPart, mSl, ER.bind, ER.toS, ofO, dropS, List.foldr_cons, List.foldr_nil, List.getElem?_cons_zero, List.getElem?_cons_succ, List.set_cons_zero, List.set_cons_succ, List.length_cons, List.length_nil, List.map_cons, List.map_nil, Nat.reduceAdd, Nat.reduceSub, if_true, if_false, Bool.false_eq_true, Bool.not_true, Bool.not_false, eq_self, decide_true, decide_false, Nat.reduceLeDiff, Nat.reduceEqDiff, reduceCtorEq, add_f, sub_f, neg_f, int_f, intb_f, abs_f, lenl_f, lent_f, lt_f, le_f, gt_f, ge_f, eq_f, ne_f, permL1, permL2, isTup_t, tup0, tup1, PNx, PRt, PRs, PBk, PCt, ht0]
        exact outP_s (x := F2.oo) rfl (hR _ _ ⟨[], F2, rfl, rfl, ⟨by decide, fun x hx => (by cases hx), row_n⟩, h2⟩)
      · rw [List.concat_eq_append] at *
        have hln : hLen ((A ++ [z]).map PyData.int) = some (.int ((A ++ [z]).length : Nat)) := by show some (PyData.int (List.length _ : Nat)) = _; rw [List.length_map]
        have hd0 : decide ((0 : Int) < ((A ++ [z]).length : Nat)) = true := decide_eq_true (by rw [List.length_append, List.length_singleton]; omega)
        have hix := last_c A z
        have ht : ∀ y, hTuple ((A ++ [y]).map PyData.int) = some (.tuple ((A ++ [y]).map PyData.int)) := fun _ => rfl
        by_cases hz : z = 0
        · have hz1 : decide (z = 0) = true := decide_eq_true hz
          obtain ⟨r, F3, e3, r0, r1, h3⟩ := hT F2 h2 5 (by decide) (by decide)
          have hp := put_c A z (1 + r)
          refine P_seq fun K hK => ?_
          simp only [sSeq, SR.andThen, sIf, sSet_ap, sSetO, sAsg, pName_ap, pTup, pCons, pNil, Option.bind_some, Option.map_some, ofS, sPut, sExpr, sRet, sRetO, sRetV, sRetN, sSkip, sBreak, sPar, mBool, mBin, mUn, mCB, mCBL, mCons, mNil_ap, mPure, mVar, mOwn, mOwn1, mOwnR, mNot, mAnd, mOr, mAndV, mOrV, mIf, mOfB, mTruD, truD, mTup, mLst, mCold, mMut, mMut0, mMove, mCall, mKw, asD, asO, gConsD, gConsS, gNilA_ap, callRes, lvsOf, toLV, refsOf, slotL, slotO, mSeq, mBinO, mPart, mSl, ER.bind, ER.toS, ofO, dropS, List.foldr_cons, List.foldr_nil, List.getElem?_cons_zero, List.getElem?_cons_succ, List.set_cons_zero, List.set_cons_succ, List.length_cons, List.length_nil, List.map_cons, List.map_nil, Nat.reduceAdd, Nat.reduceSub, if_true, if_false, Bool.false_eq_true, Bool.not_true, Bool.not_false, eq_self, decide_true, decide_false, Nat.reduceLeDiff, Nat.reduceEqDiff, reduceCtorEq, add_f, sub_f, neg_f, int_f, intb_f, abs_f, lenl_f, lent_f, lt_f, le_f, gt_f, ge_f, eq_f, ne_f, permL1, permL2, isTup_t, tup0, tup1, PNx, PRt, PRs, PBk, PCt, hln, hd0, hix, hz1, e3, hp]
          refine hK _ ?_
          clear hK K
          simp only [sSeq, SR.andThen, sIf, sSet_ap, sSetO, sAsg, pName_ap, pTup, pCons, pNil, Option.bind_some, Option.map_some, ofS, sPut, sExpr, sRet, sRetO, sRetV, sRetN, sSkip, sBreak, sPar, mBool, mBin, mUn, mCB, mCBL, mCons, mNil_ap, mPure, mVar, mOwn, mOwn1, mOwnR, mNot, mAnd, mOr, mAndV, mOrV, mIf, mOfB, mTruD, truD, mTup, mLst, mCold, mMut, mMut0, mMove, mCall, mKw, asD, asO, gConsD, gConsS, gNilA_ap, callRes, lvsOf, toLV, refsOf, slotL, slotO, mSeq, mBinO, mPart, mSl, ER.bind, ER.toS, ofO, dropS, List.foldr_cons, List.foldr_nil, List.getElem?_cons_zero, List.getElem?_cons_succ, List.set_cons_zero, List.set_cons_succ, List.length_cons, List.length_nil, List.map_cons, List.map_nil, Nat.reduceAdd, Nat.reduceSub, if_true, if_false, Bool.false_eq_true, Bool.not_true, Bool.not_false, eq_self, decide_true, decide_false, Nat.reduceLeDiff, Nat.reduceEqDiff, reduceCtorEq, add_f, sub_f, neg_f, int_f, intb_f, abs_f, lenl_f, lent_f, lt_f, le_f, gt_f, ge_f, eq_f, ne_f, permL1, permL2, isTup_t, tup0, tup1, PNx, PRt, PRs, PBk, PCt, ht]
          exact outP_s (x := F3.oo) rfl (hR _ _ ⟨A ++ [1 + r], F3, rfl, rfl, ⟨by rw [List.length_append, List.length_singleton] at hn ⊢; exact hn, fun x hx => (by
            rcases List.mem_append.mp hx with q | q
            · exact hs x (List.mem_append_left _ q)
            · rw [List.mem_singleton.mp q]; exact (Sz.of (a := 4) (by omega) (by omega)).mono (by decide)), row_c (by omega)⟩, h3⟩)
        · have hz1 : decide (z = 0) = false := decide_eq_false hz
          refine P_seq fun K hK => ?_
          simp only [sSeq, SR.andThen, sIf, sSet_ap, sSetO, sAsg, pName_ap, pTup, pCons, pNil, Option.bind_some, Option.map_some, ofS, sPut, sExpr, sRet, sRetO, sRetV, sRetN, sSkip, sBreak, sPar, mBool, mBin, mUn, mCB, mCBL, mCons, mNil_ap, mPure, mVar, mOwn, mOwn1, mOwnR, mNot, mAnd, mOr, mAndV, mOrV, mIf, mOfB, mTruD, truD, mTup, mLst, mCold, mMut, mMut0, mMove, mCall, mKw, asD, asO, gConsD, gConsS, gNilA_ap, callRes, lvsOf, toLV, refsOf, slotL, slotO, mSeq, mBinO, mPart, mSl, ER.bind, ER.toS, ofO, dropS, List.foldr_cons, List.foldr_nil, List.getElem?_cons_zero, List.getElem?_cons_succ, List.set_cons_zero, List.set_cons_succ, List.length_cons, List.length_nil, List.map_cons, List.map_nil, Nat.reduceAdd, Nat.reduceSub, if_true, if_false, Bool.false_eq_true, Bool.not_true, Bool.not_false, eq_self, decide_true, decide_false, Nat.reduceLeDiff, Nat.reduceEqDiff, reduceCtorEq, add_f, sub_f, neg_f, int_f, intb_f, abs_f, lenl_f, lent_f, lt_f, le_f, gt_f, ge_f, eq_f, ne_f, permL1, permL2, isTup_t, tup0, tup1, PNx, PRt, PRs, PBk, PCt, hln, hd0, hix, hz1]
          refine hK _ ?_
          clear hK K
          simp only [sSeq, SR.andThen, sIf, sSet_ap, sSetO, sAsg, pName_ap, pTup, pCons, pNil, Option.bind_some, Option.map_some, ofS, sPut, sExpr, sRet, sRetO, sRetV, sRetN, sSkip, sBreak, sPar, mBool, mBin, mUn, mCB, mCBL, mCons, mNil_ap, mPure, mVar, mOwn, mOwn1, mOwnR, mNot, mAnd, mOr, mAndV, mOrV, mIf, mOfB, mTruD, truD, mTup, mLst, mCold, mMut, mMut0, mMove, mCall, mKw, asD, asO, gConsD, gConsS, gNilA_ap, callRes, lvsOf, toLV, refsOf, slotL, slotO, mSeq, mBinO, mPart, mSl, ER.bind, ER.toS, ofO, dropS, List.foldr_cons, List.foldr_nil, List.getElem?_cons_zero, List.getElem?_cons_succ, List.set_cons_zero, List.set_cons_succ, List.length_cons, List.length_nil, List.map_cons, List.map_nil, Nat.reduceAdd, Nat.reduceSub, if_true, if_false, Bool.false_eq_true, Bool.not_true, Bool.not_false, eq_self, decide_true, decide_false, Nat.reduceLeDiff, Nat.reduceEqDiff, reduceCtorEq, add_f, sub_f, neg_f, int_f, intb_f, abs_f, lenl_f, lent_f, lt_f, le_f, gt_f, ge_f, eq_f, ne_f, permL1, permL2, isTup_t, tup0, tup1, PNx, PRt, PRs, PBk, PCt, ht]
          exact outP_s (x := F2.oo) rfl (hR _ _ ⟨A ++ [z], F2, rfl, rfl, ⟨hn, hs, row_c hz⟩, h2⟩)
  obtain ⟨v, o, e, ns, F', rfl, rfl, h1, h2⟩ := key
  exact ⟨ns, F', e, h1, h2⟩
end pw_threadsround_k01_whole_quotients_and_rowG

set_option Elab.async false
set_option linter.all false
set_option maxRecDepth 100000
set_option maxHeartbeats 400000
namespace pw_threadsround_k01_whole_quotients_and_rowG
open PySem PySem.Spec L2 Pu
/-- a tuple or a list of numbers -/
def sq (b : Bool) (ns : List Int) : D := if b then .list (ns.map PyData.int) else .tuple (ns.map PyData.int)
theorem cut_to {xs : List D} {m : Nat} (h : m ≤ xs.length) : cutD xs none (some (m : Int)) = xs.take m := by
  unfold cutD
  rw [HT.sIx_none, HT.sIx_nat, List.drop_zero, Nat.sub_zero, Nat.min_eq_left h]
theorem sq_len (b : Bool) (ns : List Int) : gLen [sq b ns] = some (.int (ns.length : Nat)) := by
  cases b <;> (show some (PyData.int (List.length _ : Nat)) = _; rw [List.length_map])
theorem sq_ix (b : Bool) (ns : List Int) (k : Nat) (h : k < ns.length) : fIx (sq b ns) (.int (k : Nat)) = some (.int ns[k]) := by
  have e : (ns.map PyData.int)[k]? = some (.int ns[k]) := by rw [List.getElem?_map, List.getElem?_eq_getElem h]; rfl
  cases b
  · exact ixt_f e
  · exact ixl_f e
theorem sq_cut (b : Bool) (ns : List Int) (m : Nat) (h : m ≤ ns.length) (σ : Pu.Loc) : mCB gTuple (mCons (mSlX (mVar 0) (mPure none) (mPart (mVar 1))) mNil) (some (.d (sq b ns)) :: some (.d (.int (m : Nat))) :: σ) = .ok (.tuple ((ns.take m).map PyData.int)) (some (.d (sq b ns)) :: some (.d (.int (m : Nat))) :: σ) := by
  have e : cutD (ns.map PyData.int) none (some (m : Int)) = (ns.take m).map PyData.int := by rw [cut_to (by rw [List.length_map]; exact h), List.map_take]
  cases b
  · show ER.ok (PyData.tuple (cutD (ns.map PyData.int) none (some (m : Int)))) _ = _
    rw [e]
  · show ER.ok (PyData.tuple (cutD (ns.map PyData.int) none (some (m : Int)))) _ = _
    rw [e]
theorem row_take {ns : List Int} {k : Nat} (h : k < ns.length) (h0 : ns[k] ≠ 0) : Row (ns.take (k + 1)) := by
  rw [List.take_add_one, List.getElem?_eq_getElem h]
  exact row_c h0
structure Trim (ns r : List Int) : Prop where
  row : Row r
  ev : ∀ x, ev r x = ev ns x
  mem : ∀ y ∈ r, y ∈ ns
  len : r.length ≤ ns.length
  sab : Pu.sab r ≤ Pu.sab ns
theorem e_trimmed (b : Bool) (ns : List Int) (hn : ns.length ≤ 1000) : ∃ r, m_trimmed [.d (sq b ns)] = .ret (.d (.tuple (r.map PyData.int))) none ∧ Trim ns r := by
  have key := P_ex (r := m_trimmed [.d (sq b ns)]) (Φ := fun v o => ∃ r : List Int, v = .d (.tuple (r.map PyData.int)) ∧ o = none ∧ Trim ns r) fun R X hR => by
    unfold m_trimmed
    refine def_P ?_
    have hl := sq_len b ns
    have hi := sq_ix b ns
    have hc := sq_cut b ns
    generalize sq b ns = d at *
    refine P_seq fun K hK => ?_
    simp only [sSeq, SR.andThen, sIf, sSet_ap, sSetO, sAsg, pName_ap, pTup, pCons, pNil, Option.bind_some, Option.map_some, ofS, sPut, sExpr, sRet, sRetO, sRetV, sRetN, sSkip, sBreak, sPar, mBool, mBin, mUn, mCB, mCBL, mCons, mNil_ap, mPure, mVar, mOwn, mOwn1, mOwnR, mNot, mAnd, mOr, mAndV, mOrV, mIf, mOfB, mTruD, truD, mTup, mLst, mCold, mMut, mMut0, mMove, mCall, mKw, asD, asO, gConsD, gConsS, gNilA_ap, callRes, lvsOf, toLV, refsOf, slotL, slotO, mSeq, mBinO, mPart, mSl, ER.bind, ER.toS, ofO, dropS, List.foldr_cons, List.foldr_nil, List.getElem?_cons_zero, List.getElem?_cons_succ, List.set_cons_zero, List.set_cons_succ, List.length_cons, List.length_nil, List.map_cons, List.map_nil, Nat.reduceAdd, Nat.reduceSub, if_true, if_false, Bool.false_eq_true, Bool.not_true, Bool.not_false, eq_self, decide_true, decide_false, Nat.reduceLeDiff, Nat.reduceEqDiff, reduceCtorEq, add_f, sub_f, neg_f, int_f, intb_f, abs_f, lenl_f, lent_f, lt_f, le_f, gt_f, ge_f, eq_f, ne_f, permL1, permL2, isTup_t, tup0, tup1, PNx, PRt, PRs, PBk, PCt, pad, List.cons_append, List.nil_append, List.replicate, hl]
    refine hK _ ?_
    clear hK K
    refine P_seq' (P_while (fun σ m => σ = [some (.d d), some (.d (.int (m : Nat)))] ∧ m ≤ ns.length ∧ ∀ y ∈ ns.drop m, y = 0) fuelN ns.length (by unfold fuelN; omega) ⟨rfl, Nat.le_refl _, fun y hy => by rw [List.drop_length] at hy; cases hy⟩ fun m σ hI => ?_)
    obtain ⟨rfl, hm, h0⟩ := hI
    have fin : Row (ns.take m) → SR.P (sRet (mCB gTuple (mCons (mSlX (mVar 0) (mPure none) (mPart (mVar 1))) mNil)) [some (.d d), some (.d (.int (m : Nat)))]) ⟨fun σ => outP none σ (R (.d .none)), fun v σ => outP none σ (R v), fun x σ => outP none σ (X x), fun _ => False, fun _ => False⟩ := fun hr => by
      rw [ret_ok (hc m hm []), PRt]
      exact hR _ _ ⟨ns.take m, rfl, rfl, hr, ev_take h0, fun y hy => List.mem_of_mem_take hy, by rw [List.length_take]; omega, sab_take _ _⟩
    cases m with
    | zero =>
      left
      have d0 : decide ((0 : Int) < ((0 : Nat) : Int)) = false := rfl
      refine ⟨(by (simp only [sSeq, SR.andThen, sIf, sSet_ap, sSetO, sAsg, pName_ap, pTup, pCons, pNil, Option.bind_some, Option.map_some, ofS, sPut, sExpr, sRet, sRetO, sRetV, sRetN, sSkip, sBreak, sPar, mBool, mBin, mUn, mCB, mCBL, mCons, mNil_ap, mPure, mVar, mOwn, mOwn1, mOwnR, mNot, mAnd, mOr, mAndV, mOrV, mIf, mOfB, mTruD, truD, mTup, mLst, mCold, mMut, mMut0, mMove, mCall, mKw, asD, asO, gConsD, gConsS, gNilA_ap, callRes, lvsOf, toLV, refsOf, slotL, slotO, mSeq, mBinO, mPart, mSl, ER.bind, ER.toS, ofO, dropS, List.foldr_cons, List.foldr_nil, List.getElem?_cons_zero, List.getElem?_cons_succ, List.set_cons_zero, List.set_cons_succ, List.length_cons, List.length_nil, List.map_cons, List.map_nil, Nat.reduceAdd, Nat.reduceSub, if_true, if_false, Bool.false_eq_true, Bool.not_true, Bool.not_false, eq_self, decide_true, decide_false, Nat.reduceLeDiff, Nat.reduceEqDiff, reduceCtorEq, add_f, sub_f, neg_f, int_f, intb_f, abs_f, lenl_f, lent_f, lt_f, le_f, gt_f, ge_f, eq_f, ne_f, permL1, permL2, isTup_t, tup0, tup1, PNx, PRt, PRs, PBk, PCt, d0]); first | done | rfl), fin (by rw [List.take_zero]; exact row_n)⟩
    | succ k =>
      have d0 : decide ((0 : Int) < ((k + 1 : Nat) : Int)) = true := decide_eq_true (by omega)
      have e1 : (((k + 1 : Nat) : Int) - 1) = (k : Nat) := by omega
      have hk := hi k (by omega)
      by_cases hz : ns[k]'(by omega) = 0
      · right
        have hz1 : decide (ns[k]'(by omega) = 0) = true := decide_eq_true hz
        refine ⟨(by (simp only [sSeq, SR.andThen, sIf, sSet_ap, sSetO, sAsg, pName_ap, pTup, pCons, pNil, Option.bind_some, Option.map_some, ofS, sPut, sExpr, sRet, sRetO, sRetV, sRetN, sSkip, sBreak, sPar, mBool, mBin, mUn, mCB, mCBL, mCons, mNil_ap, mPure, mVar, mOwn, mOwn1, mOwnR, mNot, mAnd, mOr, mAndV, mOrV, mIf, mOfB, mTruD, truD, mTup, mLst, mCold, mMut, mMut0, mMove, mCall, mKw, asD, asO, gConsD, gConsS, gNilA_ap, callRes, lvsOf, toLV, refsOf, slotL, slotO, mSeq, mBinO, mPart, mSl, ER.bind, ER.toS, ofO, dropS, List.foldr_cons, List.foldr_nil, List.getElem?_cons_zero, List.getElem?_cons_succ, List.set_cons_zero, List.set_cons_succ, List.length_cons, List.length_nil, List.map_cons, List.map_nil, Nat.reduceAdd, Nat.reduceSub, if_true, if_false, Bool.false_eq_true, Bool.not_true, Bool.not_false, eq_self, decide_true, decide_false, Nat.reduceLeDiff, Nat.reduceEqDiff, reduceCtorEq, add_f, sub_f, neg_f, int_f, intb_f, abs_f, lenl_f, lent_f, lt_f, le_f, gt_f, ge_f, eq_f, ne_f, permL1, permL2, isTup_t, tup0, tup1, PNx, PRt, PRs, PBk, PCt, d0, e1, hk, hz1]); first | done | rfl), ?_⟩
        have ha : sAug 1 (· - ·) (mPure (.int 1)) [some (.d d), some (.d (.int ((k + 1 : Nat) : Int)))] = .nx [some (.d d), some (.d (.int (k : Nat)))] := by
          show SR.nx [some (.d d), some (.d (.int (((k + 1 : Nat) : Int) - 1)))] = _
          rw [e1]
        rw [ha, PNx]
        refine ⟨k, by omega, rfl, by omega, fun y hy => ?_⟩
        rw [List.drop_eq_getElem_cons (by omega)] at hy
        rcases List.mem_cons.mp hy with e | e
        · rw [e]; exact hz
        · exact h0 y e
      · left
        have hz1 : decide (ns[k]'(by omega) = 0) = false := decide_eq_false hz
        exact ⟨(by (simp only [sSeq, SR.andThen, sIf, sSet_ap, sSetO, sAsg, pName_ap, pTup, pCons, pNil, Option.bind_some, Option.map_some, ofS, sPut, sExpr, sRet, sRetO, sRetV, sRetN, sSkip, sBreak, sPar, mBool, mBin, mUn, mCB, mCBL, mCons, mNil_ap, mPure, mVar, mOwn, mOwn1, mOwnR, mNot, mAnd, mOr, mAndV, mOrV, mIf, mOfB, mTruD, truD, mTup, mLst, mCold, mMut, mMut0, mMove, mCall, mKw, asD, asO, gConsD, gConsS, gNilA_ap, callRes, lvsOf, toLV, refsOf, slotL, slotO, mSeq, mBinO, mPart, mSl, ER.bind, ER.toS, ofO, dropS, List.foldr_cons, List.foldr_nil, List.getElem?_cons_zero, List.getElem?_cons_succ, List.set_cons_zero, List.set_cons_succ, List.length_cons, List.length_nil, List.map_cons, List.map_nil, Nat.reduceAdd, Nat.reduceSub, if_true, if_false, Bool.false_eq_true, Bool.not_true, Bool.not_false, eq_self, decide_true, decide_false, Nat.reduceLeDiff, Nat.reduceEqDiff, reduceCtorEq, add_f, sub_f, neg_f, int_f, intb_f, abs_f, lenl_f, lent_f, lt_f, le_f, gt_f, ge_f, eq_f, ne_f, permL1, permL2, isTup_t, tup0, tup1, PNx, PRt, PRs, PBk, PCt, d0, e1, hk, hz1]); first | done | rfl), fin (row_take (by omega) hz)⟩
  obtain ⟨v, o, e, r, rfl, rfl, h⟩ := key
  exact ⟨r, e, h⟩
end pw_threadsround_k01_whole_quotients_and_rowG

set_option Elab.async false
set_option linter.all false
set_option maxRecDepth 100000
set_option maxHeartbeats 400000
namespace pw_threadsround_k01_whole_quotients_and_rowG
open PySem PySem.Spec L2 Pu
theorem aug_ok {i k : Nat} {σ : Pu.Loc} {mi m : M D} {ns : List Int} {v : Int} (hs : slotL σ i = some (ns.map PyData.int)) (h1 : mi σ = .ok (.int (k : Nat)) σ) (h2 : m σ = .ok (.int v) σ) (hk : k < ns.length) :
    sAugI i (· + ·) mi m σ = .nx (σ.set i (some (.o (.lst ((ns.set k (ns[k] + v)).map PyData.int))))) := by
  have hx : hIx (ns.map PyData.int) (.int (k : Nat)) = some (.int ns[k]) := ixh_f (by rw [List.getElem?_map, List.getElem?_eq_getElem hk]; rfl)
  unfold sAugI
  simp only [hs, h1, ER.toS, hx, h2]
  rw [putStep_f (by rw [List.length_map]; exact hk), List.map_set]
theorem enum_get {xs : List Int} {j : Nat} {d : D} (h : (enumD 0 (xs.map PyData.int))[j]? = some d) : ∃ hj : j < xs.length, d = .tuple [.int (j : Nat), .int xs[j]] := by
  obtain ⟨x, h1, rfl⟩ := enumD_get h
  rw [List.getElem?_map] at h1
  by_cases hj : j < xs.length
  · rw [List.getElem?_eq_getElem hj] at h1
    cases h1
    exact ⟨hj, by rw [Nat.zero_add]⟩
  · rw [List.getElem?_eq_none (by omega)] at h1; cases h1
theorem ev_next {a : List Int} {j : Nat} (h : j < a.length) (x : Int) : ev (a.take (j + 1)) x = ev (a.take j) x + x ^ j * a[j] := by
  rw [List.take_add_one, List.getElem?_eq_getElem h, ev_app, List.length_take, Nat.min_eq_left (by omega)]
  show _ + _ * (a[j] + x * 0) = _
  rw [Int.mul_zero, Int.add_zero]
theorem pair_pt {σ : Pu.Loc} {a b : D} {i j : Nat} : pTup (pCons (pName i) (pCons (pName j) pNil)) (.tuple [a, b]) σ = some ((σ.set i (some (.d a))).set j (some (.d b))) := rfl
structure Sum (a b r : List Int) : Prop where
  row : Row r
  ev : ∀ x, ev r x = ev a x + ev b x
  len : r.length ≤ max a.length b.length
  sab : Pu.sab r ≤ Pu.sab a + Pu.sab b
theorem sab_app : ∀ a b : List Int, sab (a ++ b) = sab a + sab b
  | [], b => by show sab b = 0 + sab b; omega
  | c :: r, b => by show (c.natAbs : Int) + sab (r ++ b) = (c.natAbs : Int) + sab r + sab b; rw [sab_app r b]; omega
theorem sab_next {a : List Int} {j : Nat} (h : j < a.length) : sab (a.take (j + 1)) = sab (a.take j) + (a[j].natAbs : Int) := by
  rw [List.take_add_one, List.getElem?_eq_getElem h, sab_app]
  show _ + ((a[j].natAbs : Int) + 0) = _
  omega
theorem e_added (a b : List Int) (ha : a.length ≤ 500) (hb : b.length ≤ 500) : ∃ r, m_added [.d (.tuple (a.map PyData.int)), .d (.tuple (b.map PyData.int))] = .ret (.d (.tuple (r.map PyData.int))) none ∧ Sum a b r := by
  have key := P_ex (r := m_added [.d (.tuple (a.map PyData.int)), .d (.tuple (b.map PyData.int))]) (Φ := fun v o => ∃ r : List Int, v = .d (.tuple (r.map PyData.int)) ∧ o = none ∧ Sum a b r) fun R X hR => by
    have hT : ∀ ns : List Int, ns.length ≤ 1000 → ∃ r, m_trimmed [.d (.list (ns.map PyData.int))] = .ret (.d (.tuple (r.map PyData.int))) none ∧ Trim ns r := fun ns hn => e_trimmed true ns hn
    unfold m_added
    generalize m_trimmed = T at *
    refine def_P ?_
    obtain ⟨L, hL⟩ : ∃ L : Nat, L = max a.length b.length := ⟨_, rfl⟩
    have l1 : gLen [.tuple (a.map PyData.int)] = some (.int (a.length : Nat)) := by rw [lent_f, List.length_map]
    have l2 : gLen [.tuple (b.map PyData.int)] = some (.int (b.length : Nat)) := by rw [lent_f, List.length_map]
    have hm : gMax2 [.int (a.length : Nat), .int (b.length : Nat)] = some (.int (L : Nat)) := by
      show some (PyData.int (if ((b.length : Nat) : Int) > (a.length : Nat) then _ else _)) = _
      have : (if ((b.length : Nat) : Int) > (a.length : Nat) then ((b.length : Nat) : Int) else (a.length : Nat)) = (L : Nat) := by split <;> omega
      rw [this]
    have hr := rep1 L (.int 0) (by omega)
    generalize hA : PyData.tuple (a.map PyData.int) = A at *
    generalize hB : PyData.tuple (b.map PyData.int) = B at *
    refine P_seq fun K hK => ?_
    simp only [sSeq, SR.andThen, sIf, sSet_ap, sSetO, sAsg, pName_ap, pTup, pCons, pNil, Option.bind_some, Option.map_some, ofS, sPut, sExpr, sRet, sRetO, sRetV, sRetN, sSkip, sBreak, sPar, mBool, mBin, mUn, mCB, mCBL, mCons, mNil_ap, mPure, mVar, mOwn, mOwn1, mOwnR, mNot, mAnd, mOr, mAndV, mOrV, mIf, mOfB, mTruD, truD, mTup, mLst, mCold, mMut, mMut0, mMove, mCall, mKw, asD, asO, gConsD, gConsS, gNilA_ap, callRes, lvsOf, toLV, refsOf, slotL, slotO, mSeq, mBinO, mPart, mSl, ER.bind, ER.toS, ofO, dropS, List.foldr_cons, List.foldr_nil, List.getElem?_cons_zero, List.getElem?_cons_succ, List.set_cons_zero, List.set_cons_succ, List.length_cons, List.length_nil, List.map_cons, List.map_nil, Nat.reduceAdd, Nat.reduceSub, if_true, if_false, Bool.false_eq_true, Bool.not_true, Bool.not_false, eq_self, decide_true, decide_false, Nat.reduceLeDiff, Nat.reduceEqDiff, reduceCtorEq, add_f, sub_f, neg_f, int_f, intb_f, abs_f, lenl_f, lent_f, lt_f, le_f, gt_f, ge_f, eq_f, ne_f, permL1, permL2, isTup_t, tup0, tup1, PNx, PRt, PRs, PBk, PCt, pad, List.cons_append, List.nil_append, List.replicate, l1, l2, hm, hr]
    refine hK _ ?_
    clear hK K
    rw [show List.replicate L (PyData.int 0) = (List.replicate L (0 : Int)).map PyData.int from List.map_replicate.symm]
    have en1 : mEnumT (mCons (mVar 0) mNil) [some (.d A), some (.d B), some (.o (.lst ((List.replicate L (0 : Int)).map PyData.int))), none, none] = .ok (enumD 0 (a.map PyData.int)) [some (.d A), some (.d B), some (.o (.lst ((List.replicate L (0 : Int)).map PyData.int))), none, none] := by rw [← hA]; rfl
    refine P_seq' (P_for en1 (fun j σ => ∃ (ns : List Int) (u v : Option LV), σ = [some (.d A), some (.d B), some (.o (.lst (ns.map PyData.int))), u, v] ∧ ns.length = L ∧ sab ns ≤ sab (a.take j) ∧ ∀ x, ev ns x = ev (a.take j) x)
      ⟨_, _, _, rfl, List.length_replicate, by rw [sab_rep]; exact sab_nn _, fun x => by rw [ev_rep, List.take_zero]; rfl⟩ (fun j d σ hd hi => ?_) fun σ hi => ?_)
    · obtain ⟨ns, u, v, rfl, hn, hs, he⟩ := hi
      obtain ⟨hj, rfl⟩ := enum_get hd
      refine ⟨_, pair_pt, ?_⟩
      have hk : j < ns.length := by omega
      have ea := aug_ok (i := 2) (σ := [some (.d A), some (.d B), some (.o (.lst (ns.map PyData.int))), some (.d (.int (j : Nat))), some (.d (.int a[j]))]) (mi := mVar 3) (m := mVar 4) (ns := ns) (k := j) (v := a[j]) rfl rfl rfl hk
      show (sAugI 2 (· + ·) (mVar 3) (mVar 4) [some (.d A), some (.d B), some (.o (.lst (ns.map PyData.int))), some (.d (.int (j : Nat))), some (.d (.int a[j]))]).P _
      rw [ea, PNx]
      exact ⟨ns.set j (ns[j] + a[j]), _, _, rfl, by rw [List.length_set]; exact hn, by have := sab_set ns j a[j] hk; rw [sab_next hj]; omega, fun x => by rw [ev_set ns j _ x hk, he x, ev_next hj]⟩
    obtain ⟨n1, u, v, rfl, hn1, hs1, he1⟩ := hi
    rw [enumD_len, List.length_map, List.take_length] at he1 hs1
    have en2 : mEnumT (mCons (mVar 1) mNil) [some (.d A), some (.d B), some (.o (.lst (n1.map PyData.int))), u, v] = .ok (enumD 0 (b.map PyData.int)) [some (.d A), some (.d B), some (.o (.lst (n1.map PyData.int))), u, v] := by rw [← hB]; rfl
    refine P_seq' (P_for en2 (fun j σ => ∃ (ns : List Int) (u v : Option LV), σ = [some (.d A), some (.d B), some (.o (.lst (ns.map PyData.int))), u, v] ∧ ns.length = L ∧ sab ns ≤ sab a + sab (b.take j) ∧ ∀ x, ev ns x = ev a x + ev (b.take j) x)
      ⟨n1, _, _, rfl, hn1, by have := sab_nn (b.take 0); omega, fun x => by rw [he1, List.take_zero]; show _ = _ + 0; omega⟩ (fun j d σ hd hi => ?_) fun σ hi => ?_)
    · obtain ⟨ns, u, v, rfl, hn, hs, he⟩ := hi
      obtain ⟨hj, rfl⟩ := enum_get hd
      refine ⟨_, pair_pt, ?_⟩
      have hk : j < ns.length := by omega
      have ea := aug_ok (i := 2) (σ := [some (.d A), some (.d B), some (.o (.lst (ns.map PyData.int))), some (.d (.int (j : Nat))), some (.d (.int b[j]))]) (mi := mVar 3) (m := mVar 4) (ns := ns) (k := j) (v := b[j]) rfl rfl rfl hk
      show (sAugI 2 (· + ·) (mVar 3) (mVar 4) [some (.d A), some (.d B), some (.o (.lst (ns.map PyData.int))), some (.d (.int (j : Nat))), some (.d (.int b[j]))]).P _
      rw [ea, PNx]
      exact ⟨ns.set j (ns[j] + b[j]), _, _, rfl, by rw [List.length_set]; exact hn, by have := sab_set ns j b[j] hk; rw [sab_next hj]; omega, fun x => by rw [ev_set ns j _ x hk, he x, ev_next hj]; omega⟩
    obtain ⟨n2, u, v, rfl, hn2, hs2, he2⟩ := hi
    rw [enumD_len, List.length_map, List.take_length] at he2 hs2
    obtain ⟨r, er, hr2⟩ := hT n2 (by omega)
    simp only [sSeq, SR.andThen, sIf, sSet_ap, sSetO, sAsg, pName_ap, pTup, pCons, pNil, Option.bind_some, Option.map_some, ofS, sPut, sExpr, sRet, sRetO, sRetV, sRetN, sSkip, sBreak, sPar, mBool, mBin, mUn, mCB, mCBL, mCons, mNil_ap, mPure, mVar, mOwn, mOwn1, mOwnR, mNot, mAnd, mOr, mAndV, mOrV, mIf, mOfB, mTruD, truD, mTup, mLst, mCold, mMut, mMut0, mMove, mCall, mKw, asD, asO, gConsD, gConsS, gNilA_ap, callRes, lvsOf, toLV, refsOf, slotL, slotO, mSeq, mBinO, mPart, mSl, ER.bind, ER.toS, ofO, dropS, List.foldr_cons, List.foldr_nil, List.getElem?_cons_zero, List.getElem?_cons_succ, List.set_cons_zero, List.set_cons_succ, List.length_cons, List.length_nil, List.map_cons, List.map_nil, Nat.reduceAdd, Nat.reduceSub, if_true, if_false, Bool.false_eq_true, Bool.not_true, Bool.not_false, eq_self, decide_true, decide_false, Nat.reduceLeDiff, Nat.reduceEqDiff, reduceCtorEq, add_f, sub_f, neg_f, int_f, intb_f, abs_f, lenl_f, lent_f, lt_f, le_f, gt_f, ge_f, eq_f, ne_f, permL1, permL2, isTup_t, tup0, tup1, PNx, PRt, PRs, PBk, PCt, er]
    exact hR _ _ ⟨r, rfl, rfl, hr2.row, fun x => by rw [hr2.ev, he2], by have := hr2.len; omega, by have := hr2.sab; omega⟩
  obtain ⟨v, o, e, r, rfl, rfl, h⟩ := key
  exact ⟨r, e, h⟩
end pw_threadsround_k01_whole_quotients_and_rowG

set_option Elab.async false
set_option linter.all false
set_option maxRecDepth 100000
set_option maxHeartbeats 400000
namespace pw_threadsround_k01_whole_quotients_and_rowG
open PySem PySem.Spec L2 Pu
structure Prd (a b r : List Int) : Prop where
  row : Row r
  ev : ∀ x, ev r x = ev a x * ev b x
  len : r.length ≤ a.length + b.length
  sab : ∀ y ∈ r, (y.natAbs : Int) ≤ sab a * sab b
  sabs : Pu.sab r ≤ Pu.sab a * Pu.sab b
theorem e_multiplied (a b : List Int) (n : Nat) (ha : a.length ≤ 100) (hb : b.length ≤ 100) (sa : ∀ y ∈ a, Sz n y) (sb : ∀ y ∈ b, Sz n y) (hn : n ≤ 400000) : ∃ r, m_multiplied [.d (.tuple (a.map PyData.int)), .d (.tuple (b.map PyData.int))] = .ret (.d (.tuple (r.map PyData.int))) none ∧ Prd a b r := by
  have key := P_ex (r := m_multiplied [.d (.tuple (a.map PyData.int)), .d (.tuple (b.map PyData.int))]) (Φ := fun v o => ∃ r : List Int, v = .d (.tuple (r.map PyData.int)) ∧ o = none ∧ Prd a b r) fun R X hR => by
    have hT : ∀ ns : List Int, ns.length ≤ 1000 → ∃ r, m_trimmed [.d (.list (ns.map PyData.int))] = .ret (.d (.tuple (r.map PyData.int))) none ∧ Trim ns r := fun ns hn => e_trimmed true ns hn
    unfold m_multiplied
    generalize m_trimmed = T at *
    refine def_P ?_
    obtain ⟨L, hL⟩ : ∃ L : Nat, L = a.length + b.length := ⟨_, rfl⟩
    have l1 : gLen [.tuple (a.map PyData.int)] = some (.int (a.length : Nat)) := by rw [lent_f, List.length_map]
    have l2 : gLen [.tuple (b.map PyData.int)] = some (.int (b.length : Nat)) := by rw [lent_f, List.length_map]
    have hm : fAdd (.int (a.length : Nat)) (.int (b.length : Nat)) = some (.int (L : Nat)) := by
      rw [add_f, hL, Int.natCast_add]
    have hr := rep1 L (.int 0) (by omega)
    generalize hA : PyData.tuple (a.map PyData.int) = A at *
    generalize hB : PyData.tuple (b.map PyData.int) = B at *
    refine P_seq fun K hK => ?_
    have h0 : mBinO fRepL (mCold (mLst (mCons (mPure (.int 0)) mNil))) (mBin fAdd (mCB gLen (mCons (mVar 0) mNil)) (mCB gLen (mCons (mVar 1) mNil))) [some (.d A), some (.d B), none, none, none, none, none] = .ok (.lst ((List.replicate L (0 : Int)).map PyData.int)) [some (.d A), some (.d B), none, none, none, none, none] := by
      rw [List.map_replicate]
      have hr2 : fRepL (.list [.int 0]) (.int (((a.length : Nat) : Int) + ((b.length : Nat) : Int))) = some (List.replicate L (.int 0)) := by rw [← hr, hL, Int.natCast_add]
      simp only [sSeq, SR.andThen, sIf, sSet_ap, sSetO, sAsg, pName_ap, pTup, pCons, pNil, Option.bind_some, Option.map_some, ofS, sPut, sExpr, sRet, sRetO, sRetV, sRetN, sSkip, sBreak, sPar, mBool, mBin, mUn, mCB, mCBL, mCons, mNil_ap, mPure, mVar, mOwn, mOwn1, mOwnR, mNot, mAnd, mOr, mAndV, mOrV, mIf, mOfB, mTruD, truD, mTup, mLst, mCold, mMut, mMut0, mMove, mCall, mKw, asD, asO, gConsD, gConsS, gNilA_ap, callRes, lvsOf, toLV, refsOf, slotL, slotO, mSeq, mBinO, mPart, mSl, ER.bind, ER.toS, ofO, dropS, List.foldr_cons, List.foldr_nil, List.getElem?_cons_zero, List.getElem?_cons_succ, List.set_cons_zero, List.set_cons_succ, List.length_cons, List.length_nil, List.map_cons, List.map_nil, Nat.reduceAdd, Nat.reduceSub, if_true, if_false, Bool.false_eq_true, Bool.not_true, Bool.not_false, eq_self, decide_true, decide_false, Nat.reduceLeDiff, Nat.reduceEqDiff, reduceCtorEq, add_f, sub_f, neg_f, int_f, intb_f, abs_f, lenl_f, lent_f, lt_f, le_f, gt_f, ge_f, eq_f, ne_f, permL1, permL2, isTup_t, tup0, tup1, PNx, PRt, PRs, PBk, PCt, l1, l2, hr2]
    simp only [pad, List.map_cons, List.map_nil, List.length_cons, List.length_nil, Nat.reduceAdd, Nat.reduceSub, List.cons_append, List.nil_append, List.replicate]
    rw [setO_ok h0, PNx]
    refine hK _ ?_
    clear hK K
    show SR.P (sSeq _ _ [some (.d A), some (.d B), some (.o (.lst ((List.replicate L (0 : Int)).map PyData.int))), none, none, none, none]) _
    have en1 : mEnumT (mCons (mVar 0) mNil) [some (.d A), some (.d B), some (.o (.lst ((List.replicate L (0 : Int)).map PyData.int))), none, none, none, none] = .ok (enumD 0 (a.map PyData.int)) [some (.d A), some (.d B), some (.o (.lst ((List.replicate L (0 : Int)).map PyData.int))), none, none, none, none] := by rw [← hA]; rfl
    refine P_seq' (P_for en1 (fun j σ => ∃ (ns : List Int) (u v w z : Option LV), σ = [some (.d A), some (.d B), some (.o (.lst (ns.map PyData.int))), u, v, w, z] ∧ ns.length = L ∧ (∀ x, ev ns x = ev (a.take j) x * ev b x) ∧ sab ns ≤ sab (a.take j) * sab b)
      ⟨_, _, _, _, _, rfl, List.length_replicate, fun x => by rw [ev_rep, List.take_zero]; show 0 = 0 * _; rw [Int.zero_mul], by rw [sab_rep, List.take_zero]; show 0 ≤ 0 * _; rw [Int.zero_mul]; exact Int.le_refl 0⟩ (fun j d σ hd hi => ?_) fun σ hi => ?_)
    · obtain ⟨ns, u, v, w, z, rfl, hl, he, hs⟩ := hi
      obtain ⟨hj, rfl⟩ := enum_get hd
      refine ⟨_, pair_pt, ?_⟩
      show SR.P (sFor _ _ _ [some (.d A), some (.d B), some (.o (.lst (ns.map PyData.int))), some (.d (.int (j : Nat))), some (.d (.int a[j])), w, z]) _
      have en2 : mEnumT (mCons (mVar 1) mNil) [some (.d A), some (.d B), some (.o (.lst (ns.map PyData.int))), some (.d (.int (j : Nat))), some (.d (.int a[j])), w, z] = .ok (enumD 0 (b.map PyData.int)) [some (.d A), some (.d B), some (.o (.lst (ns.map PyData.int))), some (.d (.int (j : Nat))), some (.d (.int a[j])), w, z] := by rw [← hB]; rfl
      refine P_for en2 (fun k σ => ∃ (ms : List Int) (w z : Option LV), σ = [some (.d A), some (.d B), some (.o (.lst (ms.map PyData.int))), some (.d (.int (j : Nat))), some (.d (.int a[j])), w, z] ∧ ms.length = L ∧ (∀ x, ev ms x = ev (a.take j) x * ev b x + x ^ j * a[j] * ev (b.take k) x) ∧ sab ms ≤ sab (a.take j) * sab b + (a[j].natAbs : Int) * sab (b.take k))
        ⟨ns, _, _, rfl, hl, fun x => by rw [he, List.take_zero]; show _ = _ + _ * 0; rw [Int.mul_zero, Int.add_zero], by rw [List.take_zero]; show _ ≤ _ + _ * 0; rw [Int.mul_zero, Int.add_zero]; exact hs⟩ (fun k d σ hd hi => ?_) fun σ hi => ?_
      · obtain ⟨ms, w, z, rfl, hl, he, hs⟩ := hi
        obtain ⟨hk, rfl⟩ := enum_get hd
        refine ⟨_, pair_pt, ?_⟩
        have hml := mulS (sa _ (List.getElem_mem hj)) (sb _ (List.getElem_mem hk)) (by omega)
        have hlt : j + k < ms.length := by omega
        have ea := aug_ok (i := 2) (σ := [some (.d A), some (.d B), some (.o (.lst (ms.map PyData.int))), some (.d (.int (j : Nat))), some (.d (.int a[j])), some (.d (.int (k : Nat))), some (.d (.int b[k]))]) (mi := mBin fAdd (mVar 3) (mVar 5)) (m := mBin fMul (mVar 4) (mVar 6)) (ns := ms) (k := j + k) (v := a[j] * b[k]) rfl
          (bin_ok (σ1 := [some (.d A), some (.d B), some (.o (.lst (ms.map PyData.int))), some (.d (.int (j : Nat))), some (.d (.int a[j])), some (.d (.int (k : Nat))), some (.d (.int b[k]))]) rfl rfl (by rw [add_f, Int.natCast_add])) (bin_ok (σ1 := [some (.d A), some (.d B), some (.o (.lst (ms.map PyData.int))), some (.d (.int (j : Nat))), some (.d (.int a[j])), some (.d (.int (k : Nat))), some (.d (.int b[k]))]) rfl rfl hml) hlt
        show (sAugI 2 (· + ·) (mBin fAdd (mVar 3) (mVar 5)) (mBin fMul (mVar 4) (mVar 6)) [some (.d A), some (.d B), some (.o (.lst (ms.map PyData.int))), some (.d (.int (j : Nat))), some (.d (.int a[j])), some (.d (.int (k : Nat))), some (.d (.int b[k]))]).P _
        rw [ea, PNx]
        refine ⟨ms.set (j + k) (ms[j + k] + a[j] * b[k]), _, _, rfl, by rw [List.length_set]; exact hl, fun x => ?_, ?_⟩
        · rw [ev_set ms (j + k) _ x hlt, he x, ev_next hk, Int.mul_add, Int.pow_add]
          have : x ^ j * x ^ k * (a[j] * b[k]) = x ^ j * a[j] * (x ^ k * b[k]) := by
            rw [Int.mul_assoc, Int.mul_assoc, Int.mul_left_comm (x ^ k)]
          omega
        · have h1 := sab_set ms (j + k) (a[j] * b[k]) hlt
          rw [sab_next hk, Int.mul_add]
          rw [Int.natAbs_mul, Int.natCast_mul] at h1
          omega
      · obtain ⟨ms, w, z, rfl, hl, he, hs⟩ := hi
        rw [enumD_len, List.length_map, List.take_length] at he hs
        refine ⟨ms, _, _, _, _, rfl, hl, fun x => ?_, ?_⟩
        · rw [he x, ev_next hj, Int.add_mul]
        · rw [sab_next hj, Int.add_mul]; exact hs
    obtain ⟨n2, u, v, w, z, rfl, hn2, he2, hs2⟩ := hi
    rw [enumD_len, List.length_map, List.take_length] at he2 hs2
    obtain ⟨r, er, hr2⟩ := hT n2 (by omega)
    simp only [sSeq, SR.andThen, sIf, sSet_ap, sSetO, sAsg, pName_ap, pTup, pCons, pNil, Option.bind_some, Option.map_some, ofS, sPut, sExpr, sRet, sRetO, sRetV, sRetN, sSkip, sBreak, sPar, mBool, mBin, mUn, mCB, mCBL, mCons, mNil_ap, mPure, mVar, mOwn, mOwn1, mOwnR, mNot, mAnd, mOr, mAndV, mOrV, mIf, mOfB, mTruD, truD, mTup, mLst, mCold, mMut, mMut0, mMove, mCall, mKw, asD, asO, gConsD, gConsS, gNilA_ap, callRes, lvsOf, toLV, refsOf, slotL, slotO, mSeq, mBinO, mPart, mSl, ER.bind, ER.toS, ofO, dropS, List.foldr_cons, List.foldr_nil, List.getElem?_cons_zero, List.getElem?_cons_succ, List.set_cons_zero, List.set_cons_succ, List.length_cons, List.length_nil, List.map_cons, List.map_nil, Nat.reduceAdd, Nat.reduceSub, if_true, if_false, Bool.false_eq_true, Bool.not_true, Bool.not_false, eq_self, decide_true, decide_false, Nat.reduceLeDiff, Nat.reduceEqDiff, reduceCtorEq, add_f, sub_f, neg_f, int_f, intb_f, abs_f, lenl_f, lent_f, lt_f, le_f, gt_f, ge_f, eq_f, ne_f, permL1, permL2, isTup_t, tup0, tup1, PNx, PRt, PRs, PBk, PCt, er]
    exact hR _ _ ⟨r, rfl, rfl, hr2.row, fun x => by rw [hr2.ev, he2], by have := hr2.len; omega, fun y hy => Int.le_trans (sab_mem n2 y (hr2.mem y hy)) hs2, Int.le_trans hr2.sab hs2⟩
  obtain ⟨v, o, e, r, rfl, rfl, h⟩ := key
  exact ⟨r, e, h⟩
end pw_threadsround_k01_whole_quotients_and_rowG

set_option Elab.async false
set_option linter.all false
set_option maxRecDepth 100000
set_option maxHeartbeats 400000
namespace pw_threadsround_k01_whole_quotients_and_rowG
open PySem PySem.Spec L2 Pu
abbrev tu (ns : List Int) : D := .tuple (ns.map PyData.int)
theorem rowI_t {ns : List Int} (h : Row ns) : rowI ns = true := by
  cases ns with
  | nil => rfl
  | cons a r =>
    show decide ((a :: r).getLast (by simp) ≠ 0) = true
    refine decide_eq_true fun e => h ?_
    rw [List.getLast?_eq_some_getLast (by simp), e]
theorem rowZ_t {ns : List Int} (h : Row ns) : rowZ (tu ns) = true := by
  show ((ns.map PyData.int).all isZ && rowI ((ns.map PyData.int).map zOf)) = true
  rw [all_ints, zOf_ints, Bool.true_and, rowI_t h]
theorem sm_tu {ns : List Int} (h : ns.length ≤ 1000) : Sm (tu ns) := fun xs e => by cases e; rw [List.length_map]; exact h
theorem isrow_t {ns : List Int} (h : Row ns) (hl : ns.length ≤ 1000) : m_is_row [.d (tu ns)] = .ret (.d (.bool true)) none := by
  have := e_is_row (tu ns) (sm_tu hl)
  rw [rowZ_t h] at this
  exact this
theorem e_row_plus (a b : List Int) (ha : a.length ≤ 500) (hb : b.length ≤ 500) (h : Row b) : ∃ r, m_row_plus [.d (tu a), .d (tu b)] = .ret (.d (tu r)) none ∧ Sum a b r := by
  obtain ⟨r, e, hr⟩ := e_added a b ha hb
  refine ⟨r, ?_, hr⟩
  have e1 := isrow_t h (by omega)
  have e : m_added [.d (tu a), .d (tu b)] = _ := e
  generalize tu a = A at *
  generalize tu b = B at *
  unfold m_row_plus
  refine P_eq (def_P ?_)
  refine P_seq fun K hK => ?_
  simp only [sSeq, SR.andThen, sIf, sSet_ap, sSetO, sAsg, pName_ap, pTup, pCons, pNil, Option.bind_some, Option.map_some, ofS, sPut, sExpr, sRet, sRetO, sRetV, sRetN, sSkip, sBreak, sPar, mBool, mBin, mUn, mCB, mCBL, mCons, mNil_ap, mPure, mVar, mOwn, mOwn1, mOwnR, mNot, mAnd, mOr, mAndV, mOrV, mIf, mOfB, mTruD, truD, mTup, mLst, mCold, mMut, mMut0, mMove, mCall, mKw, asD, asO, gConsD, gConsS, gNilA_ap, callRes, lvsOf, toLV, refsOf, slotL, slotO, mSeq, mBinO, mPart, mSl, ER.bind, ER.toS, ofO, dropS, List.foldr_cons, List.foldr_nil, List.getElem?_cons_zero, List.getElem?_cons_succ, List.set_cons_zero, List.set_cons_succ, List.length_cons, List.length_nil, List.map_cons, List.map_nil, Nat.reduceAdd, Nat.reduceSub, if_true, if_false, Bool.false_eq_true, Bool.not_true, Bool.not_false, eq_self, decide_true, decide_false, Nat.reduceLeDiff, Nat.reduceEqDiff, reduceCtorEq, add_f, sub_f, neg_f, int_f, intb_f, abs_f, lenl_f, lent_f, lt_f, le_f, gt_f, ge_f, eq_f, ne_f, permL1, permL2, isTup_t, tup0, tup1, PNx, PRt, PRs, PBk, PCt, pad, List.cons_append, List.nil_append, List.replicate, e1, e_need_t]
  refine hK _ ?_
  clear hK K
  (simp only [sSeq, SR.andThen, sIf, sSet_ap, sSetO, sAsg, pName_ap, pTup, pCons, pNil, Option.bind_some, Option.map_some, ofS, sPut, sExpr, sRet, sRetO, sRetV, sRetN, sSkip, sBreak, sPar, mBool, mBin, mUn, mCB, mCBL, mCons, mNil_ap, mPure, mVar, mOwn, mOwn1, mOwnR, mNot, mAnd, mOr, mAndV, mOrV, mIf, mOfB, mTruD, truD, mTup, mLst, mCold, mMut, mMut0, mMove, mCall, mKw, asD, asO, gConsD, gConsS, gNilA_ap, callRes, lvsOf, toLV, refsOf, slotL, slotO, mSeq, mBinO, mPart, mSl, ER.bind, ER.toS, ofO, dropS, List.foldr_cons, List.foldr_nil, List.getElem?_cons_zero, List.getElem?_cons_succ, List.set_cons_zero, List.set_cons_succ, List.length_cons, List.length_nil, List.map_cons, List.map_nil, Nat.reduceAdd, Nat.reduceSub, if_true, if_false, Bool.false_eq_true, Bool.not_true, Bool.not_false, eq_self, decide_true, decide_false, Nat.reduceLeDiff, Nat.reduceEqDiff, reduceCtorEq, add_f, sub_f, neg_f, int_f, intb_f, abs_f, lenl_f, lent_f, lt_f, le_f, gt_f, ge_f, eq_f, ne_f, permL1, permL2, isTup_t, tup0, tup1, PNx, PRt, PRs, PBk, PCt, e]; first | done | exact ⟨rfl, rfl⟩ | exact ⟨trivial, rfl⟩ | trivial)
theorem e_row_times (a b : List Int) (n : Nat) (ha : a.length ≤ 100) (hb : b.length ≤ 100) (sa : ∀ y ∈ a, Sz n y) (sb : ∀ y ∈ b, Sz n y) (hn : n ≤ 400000) (h : Row b) : ∃ r, m_row_times [.d (tu a), .d (tu b)] = .ret (.d (tu r)) none ∧ Prd a b r := by
  obtain ⟨r, e, hr⟩ := e_multiplied a b n ha hb sa sb hn
  refine ⟨r, ?_, hr⟩
  have e1 := isrow_t h (by omega)
  have e : m_multiplied [.d (tu a), .d (tu b)] = _ := e
  generalize tu a = A at *
  generalize tu b = B at *
  unfold m_row_times
  refine P_eq (def_P ?_)
  refine P_seq fun K hK => ?_
  simp only [sSeq, SR.andThen, sIf, sSet_ap, sSetO, sAsg, pName_ap, pTup, pCons, pNil, Option.bind_some, Option.map_some, ofS, sPut, sExpr, sRet, sRetO, sRetV, sRetN, sSkip, sBreak, sPar, mBool, mBin, mUn, mCB, mCBL, mCons, mNil_ap, mPure, mVar, mOwn, mOwn1, mOwnR, mNot, mAnd, mOr, mAndV, mOrV, mIf, mOfB, mTruD, truD, mTup, mLst, mCold, mMut, mMut0, mMove, mCall, mKw, asD, asO, gConsD, gConsS, gNilA_ap, callRes, lvsOf, toLV, refsOf, slotL, slotO, mSeq, mBinO, mPart, mSl, ER.bind, ER.toS, ofO, dropS, List.foldr_cons, List.foldr_nil, List.getElem?_cons_zero, List.getElem?_cons_succ, List.set_cons_zero, List.set_cons_succ, List.length_cons, List.length_nil, List.map_cons, List.map_nil, Nat.reduceAdd, Nat.reduceSub, if_true, if_false, Bool.false_eq_true, Bool.not_true, Bool.not_false, eq_self, decide_true, decide_false, Nat.reduceLeDiff, Nat.reduceEqDiff, reduceCtorEq, add_f, sub_f, neg_f, int_f, intb_f, abs_f, lenl_f, lent_f, lt_f, le_f, gt_f, ge_f, eq_f, ne_f, permL1, permL2, isTup_t, tup0, tup1, PNx, PRt, PRs, PBk, PCt, pad, List.cons_append, List.nil_append, List.replicate, e1, e_need_t]
  refine hK _ ?_
  clear hK K
  (simp only [sSeq, SR.andThen, sIf, sSet_ap, sSetO, sAsg, pName_ap, pTup, pCons, pNil, Option.bind_some, Option.map_some, ofS, sPut, sExpr, sRet, sRetO, sRetV, sRetN, sSkip, sBreak, sPar, mBool, mBin, mUn, mCB, mCBL, mCons, mNil_ap, mPure, mVar, mOwn, mOwn1, mOwnR, mNot, mAnd, mOr, mAndV, mOrV, mIf, mOfB, mTruD, truD, mTup, mLst, mCold, mMut, mMut0, mMove, mCall, mKw, asD, asO, gConsD, gConsS, gNilA_ap, callRes, lvsOf, toLV, refsOf, slotL, slotO, mSeq, mBinO, mPart, mSl, ER.bind, ER.toS, ofO, dropS, List.foldr_cons, List.foldr_nil, List.getElem?_cons_zero, List.getElem?_cons_succ, List.set_cons_zero, List.set_cons_succ, List.length_cons, List.length_nil, List.map_cons, List.map_nil, Nat.reduceAdd, Nat.reduceSub, if_true, if_false, Bool.false_eq_true, Bool.not_true, Bool.not_false, eq_self, decide_true, decide_false, Nat.reduceLeDiff, Nat.reduceEqDiff, reduceCtorEq, add_f, sub_f, neg_f, int_f, intb_f, abs_f, lenl_f, lent_f, lt_f, le_f, gt_f, ge_f, eq_f, ne_f, permL1, permL2, isTup_t, tup0, tup1, PNx, PRt, PRs, PBk, PCt, e]; first | done | exact ⟨rfl, rfl⟩ | exact ⟨trivial, rfl⟩ | trivial)
theorem row_plus_x {x y : D} (hy : Sm y) (h : rowZ y = false) : m_row_plus [.d x, .d y] = .raise (nu "other") none := by
  have e1 := e_is_row y hy
  rw [h] at e1
  unfold m_row_plus
  refine P_raise (def_P ?_)
  (simp only [sSeq, SR.andThen, sIf, sSet_ap, sSetO, sAsg, pName_ap, pTup, pCons, pNil, Option.bind_some, Option.map_some, ofS, sPut, sExpr, sRet, sRetO, sRetV, sRetN, sSkip, sBreak, sPar, mBool, mBin, mUn, mCB, mCBL, mCons, mNil_ap, mPure, mVar, mOwn, mOwn1, mOwnR, mNot, mAnd, mOr, mAndV, mOrV, mIf, mOfB, mTruD, truD, mTup, mLst, mCold, mMut, mMut0, mMove, mCall, mKw, asD, asO, gConsD, gConsS, gNilA_ap, callRes, lvsOf, toLV, refsOf, slotL, slotO, mSeq, mBinO, mPart, mSl, ER.bind, ER.toS, ofO, dropS, List.foldr_cons, List.foldr_nil, List.getElem?_cons_zero, List.getElem?_cons_succ, List.set_cons_zero, List.set_cons_succ, List.length_cons, List.length_nil, List.map_cons, List.map_nil, Nat.reduceAdd, Nat.reduceSub, if_true, if_false, Bool.false_eq_true, Bool.not_true, Bool.not_false, eq_self, decide_true, decide_false, Nat.reduceLeDiff, Nat.reduceEqDiff, reduceCtorEq, add_f, sub_f, neg_f, int_f, intb_f, abs_f, lenl_f, lent_f, lt_f, le_f, gt_f, ge_f, eq_f, ne_f, permL1, permL2, isTup_t, tup0, tup1, PNx, PRt, PRs, PBk, PCt, pad, List.cons_append, List.nil_append, List.replicate, e1, e_need_f]; first | done | exact ⟨rfl, rfl⟩ | exact ⟨trivial, rfl⟩ | trivial)
theorem row_times_x {x y : D} (hy : Sm y) (h : rowZ y = false) : m_row_times [.d x, .d y] = .raise (nu "other") none := by
  have e1 := e_is_row y hy
  rw [h] at e1
  unfold m_row_times
  refine P_raise (def_P ?_)
  (simp only [sSeq, SR.andThen, sIf, sSet_ap, sSetO, sAsg, pName_ap, pTup, pCons, pNil, Option.bind_some, Option.map_some, ofS, sPut, sExpr, sRet, sRetO, sRetV, sRetN, sSkip, sBreak, sPar, mBool, mBin, mUn, mCB, mCBL, mCons, mNil_ap, mPure, mVar, mOwn, mOwn1, mOwnR, mNot, mAnd, mOr, mAndV, mOrV, mIf, mOfB, mTruD, truD, mTup, mLst, mCold, mMut, mMut0, mMove, mCall, mKw, asD, asO, gConsD, gConsS, gNilA_ap, callRes, lvsOf, toLV, refsOf, slotL, slotO, mSeq, mBinO, mPart, mSl, ER.bind, ER.toS, ofO, dropS, List.foldr_cons, List.foldr_nil, List.getElem?_cons_zero, List.getElem?_cons_succ, List.set_cons_zero, List.set_cons_succ, List.length_cons, List.length_nil, List.map_cons, List.map_nil, Nat.reduceAdd, Nat.reduceSub, if_true, if_false, Bool.false_eq_true, Bool.not_true, Bool.not_false, eq_self, decide_true, decide_false, Nat.reduceLeDiff, Nat.reduceEqDiff, reduceCtorEq, add_f, sub_f, neg_f, int_f, intb_f, abs_f, lenl_f, lent_f, lt_f, le_f, gt_f, ge_f, eq_f, ne_f, permL1, permL2, isTup_t, tup0, tup1, PNx, PRt, PRs, PBk, PCt, pad, List.cons_append, List.nil_append, List.replicate, e1, e_need_f]; first | done | exact ⟨rfl, rfl⟩ | exact ⟨trivial, rfl⟩ | trivial)
theorem e_row_of (a : List Int) (ha : a.length ≤ 1000) : ∃ r, m_row_of [.d (tu a)] = .ret (.d (tu r)) none ∧ Trim a r := by
  obtain ⟨r, e, hr⟩ := e_trimmed false a ha
  refine ⟨r, ?_, hr⟩
  have e1 := e_is_integer_tuple (tu a) (sm_tu ha)
  have e0 : flatZ (tu a) = true := flat_t a
  rw [e0] at e1
  have e : m_trimmed [.d (tu a)] = _ := e
  generalize tu a = A at *
  unfold m_row_of
  refine P_eq (def_P ?_)
  refine P_seq fun K hK => ?_
  simp only [sSeq, SR.andThen, sIf, sSet_ap, sSetO, sAsg, pName_ap, pTup, pCons, pNil, Option.bind_some, Option.map_some, ofS, sPut, sExpr, sRet, sRetO, sRetV, sRetN, sSkip, sBreak, sPar, mBool, mBin, mUn, mCB, mCBL, mCons, mNil_ap, mPure, mVar, mOwn, mOwn1, mOwnR, mNot, mAnd, mOr, mAndV, mOrV, mIf, mOfB, mTruD, truD, mTup, mLst, mCold, mMut, mMut0, mMove, mCall, mKw, asD, asO, gConsD, gConsS, gNilA_ap, callRes, lvsOf, toLV, refsOf, slotL, slotO, mSeq, mBinO, mPart, mSl, ER.bind, ER.toS, ofO, dropS, List.foldr_cons, List.foldr_nil, List.getElem?_cons_zero, List.getElem?_cons_succ, List.set_cons_zero, List.set_cons_succ, List.length_cons, List.length_nil, List.map_cons, List.map_nil, Nat.reduceAdd, Nat.reduceSub, if_true, if_false, Bool.false_eq_true, Bool.not_true, Bool.not_false, eq_self, decide_true, decide_false, Nat.reduceLeDiff, Nat.reduceEqDiff, reduceCtorEq, add_f, sub_f, neg_f, int_f, intb_f, abs_f, lenl_f, lent_f, lt_f, le_f, gt_f, ge_f, eq_f, ne_f, permL1, permL2, isTup_t, tup0, tup1, PNx, PRt, PRs, PBk, PCt, pad, List.cons_append, List.nil_append, List.replicate, e1, e_need_t]
  refine hK _ ?_
  clear hK K
  (simp only [sSeq, SR.andThen, sIf, sSet_ap, sSetO, sAsg, pName_ap, pTup, pCons, pNil, Option.bind_some, Option.map_some, ofS, sPut, sExpr, sRet, sRetO, sRetV, sRetN, sSkip, sBreak, sPar, mBool, mBin, mUn, mCB, mCBL, mCons, mNil_ap, mPure, mVar, mOwn, mOwn1, mOwnR, mNot, mAnd, mOr, mAndV, mOrV, mIf, mOfB, mTruD, truD, mTup, mLst, mCold, mMut, mMut0, mMove, mCall, mKw, asD, asO, gConsD, gConsS, gNilA_ap, callRes, lvsOf, toLV, refsOf, slotL, slotO, mSeq, mBinO, mPart, mSl, ER.bind, ER.toS, ofO, dropS, List.foldr_cons, List.foldr_nil, List.getElem?_cons_zero, List.getElem?_cons_succ, List.set_cons_zero, List.set_cons_succ, List.length_cons, List.length_nil, List.map_cons, List.map_nil, Nat.reduceAdd, Nat.reduceSub, if_true, if_false, Bool.false_eq_true, Bool.not_true, Bool.not_false, eq_self, decide_true, decide_false, Nat.reduceLeDiff, Nat.reduceEqDiff, reduceCtorEq, add_f, sub_f, neg_f, int_f, intb_f, abs_f, lenl_f, lent_f, lt_f, le_f, gt_f, ge_f, eq_f, ne_f, permL1, permL2, isTup_t, tup0, tup1, PNx, PRt, PRs, PBk, PCt, e]; first | done | exact ⟨rfl, rfl⟩ | exact ⟨trivial, rfl⟩ | trivial)
theorem row_of_x {x : D} (hx : Sm x) (h : flatZ x = false) : m_row_of [.d x] = .raise (nu "numbers") none := by
  have e1 := e_is_integer_tuple x hx
  rw [h] at e1
  unfold m_row_of
  refine P_raise (def_P ?_)
  (simp only [sSeq, SR.andThen, sIf, sSet_ap, sSetO, sAsg, pName_ap, pTup, pCons, pNil, Option.bind_some, Option.map_some, ofS, sPut, sExpr, sRet, sRetO, sRetV, sRetN, sSkip, sBreak, sPar, mBool, mBin, mUn, mCB, mCBL, mCons, mNil_ap, mPure, mVar, mOwn, mOwn1, mOwnR, mNot, mAnd, mOr, mAndV, mOrV, mIf, mOfB, mTruD, truD, mTup, mLst, mCold, mMut, mMut0, mMove, mCall, mKw, asD, asO, gConsD, gConsS, gNilA_ap, callRes, lvsOf, toLV, refsOf, slotL, slotO, mSeq, mBinO, mPart, mSl, ER.bind, ER.toS, ofO, dropS, List.foldr_cons, List.foldr_nil, List.getElem?_cons_zero, List.getElem?_cons_succ, List.set_cons_zero, List.set_cons_succ, List.length_cons, List.length_nil, List.map_cons, List.map_nil, Nat.reduceAdd, Nat.reduceSub, if_true, if_false, Bool.false_eq_true, Bool.not_true, Bool.not_false, eq_self, decide_true, decide_false, Nat.reduceLeDiff, Nat.reduceEqDiff, reduceCtorEq, add_f, sub_f, neg_f, int_f, intb_f, abs_f, lenl_f, lent_f, lt_f, le_f, gt_f, ge_f, eq_f, ne_f, permL1, permL2, isTup_t, tup0, tup1, PNx, PRt, PRs, PBk, PCt, pad, List.cons_append, List.nil_append, List.replicate, e1, e_need_f]; first | done | exact ⟨rfl, rfl⟩ | exact ⟨trivial, rfl⟩ | trivial)
/-! what two rows have in common -/
theorem sum_eq {a b r s : List Int} (h : Sum a b r) (hs : Row s) (he : ∀ x, 1 ≤ x → ev s x = ev a x + ev b x) : r = s :=
  ev_uniq r s 1 (by decide) h.row hs fun x hx => by rw [h.ev, he x hx]
theorem trim_eq {a r s : List Int} (h : Trim a r) (hs : Row s) (he : ∀ x, 1 ≤ x → ev s x = ev a x) : r = s :=
  ev_uniq r s 1 (by decide) h.row hs fun x hx => by rw [h.ev, he x hx]
theorem ev_neg : ∀ (a : List Int) (x : Int), ev (a.map fun k => -k) x = -ev a x
  | [], _ => rfl
  | c :: r, x => by
    show -c + x * ev (r.map fun k => -k) x = -(c + x * ev r x)
    rw [ev_neg r x, Int.mul_neg]
    omega
/-! the law's own -/
theorem e__law_at (a : List Int) (x : Int) (n m : Nat) (sa : ∀ y ∈ a, Sz n y) (sx : Sz m x) (hl : a.length * (m + 1) + n + m + 2 < 900000) : m__law_at [.d (tu a), .d (.int x)] = .ret (.d (.int (ev a x))) none := by
  unfold m__law_at
  refine P_eq (def_P ?_)
  refine P_seq fun K hK => ?_
  simp only [sSeq, SR.andThen, sIf, sSet_ap, sSetO, sAsg, pName_ap, pTup, pCons, pNil, Option.bind_some, Option.map_some, ofS, sPut, sExpr, sRet, sRetO, sRetV, sRetN, sSkip, sBreak, sPar, mBool, mBin, mUn, mCB, mCBL, mCons, mNil_ap, mPure, mVar, mOwn, mOwn1, mOwnR, mNot, mAnd, mOr, mAndV, mOrV, mIf, mOfB, mTruD, truD, mTup, mLst, mCold, mMut, mMut0, mMove, mCall, mKw, asD, asO, gConsD, gConsS, gNilA_ap, callRes, lvsOf, toLV, refsOf, slotL, slotO, mSeq, mBinO, mPart, mSl, ER.bind, ER.toS, ofO, dropS, List.foldr_cons, List.foldr_nil, List.getElem?_cons_zero, List.getElem?_cons_succ, List.set_cons_zero, List.set_cons_succ, List.length_cons, List.length_nil, List.map_cons, List.map_nil, Nat.reduceAdd, Nat.reduceSub, if_true, if_false, Bool.false_eq_true, Bool.not_true, Bool.not_false, eq_self, decide_true, decide_false, Nat.reduceLeDiff, Nat.reduceEqDiff, reduceCtorEq, add_f, sub_f, neg_f, int_f, intb_f, abs_f, lenl_f, lent_f, lt_f, le_f, gt_f, ge_f, eq_f, ne_f, permL1, permL2, isTup_t, tup0, tup1, PNx, PRt, PRs, PBk, PCt, pad, List.cons_append, List.nil_append, List.replicate]
  refine hK _ ?_
  clear hK K
  have hrev : fRev (tu a) = some (.tuple (a.map PyData.int).reverse) := rfl
  refine P_seq' (P_for (ds := (a.map PyData.int).reverse) (σ1 := [some (.d (tu a)), some (.d (.int x)), some (.d (.int 0)), none]) rfl
    (fun j σ => ∃ u, σ = [some (.d (tu a)), some (.d (.int x)), some (.d (.int (ev (a.drop (a.length - j)) x))), u] ∧ Sz (j * (m + 1) + n + 1) (ev (a.drop (a.length - j)) x)) ⟨none, by rw [Nat.sub_zero, List.drop_length]; rfl, by rw [Nat.sub_zero, List.drop_length]; exact Sz.zero⟩ (fun j d σ hd hi => ?_) fun σ hi => ?_)
  · obtain ⟨u, rfl, hz⟩ := hi
    have hj : j < a.length := by
      have := (List.getElem?_eq_some_iff.mp hd).1
      rw [List.length_reverse, List.length_map] at this
      exact this
    have hd2 : d = .int (a[a.length - 1 - j]'(by omega)) := by
      rw [List.getElem?_reverse (by rw [List.length_map]; exact hj), List.length_map, List.getElem?_map, List.getElem?_eq_getElem (by omega)] at hd
      exact (Option.some.inj hd).symm
    subst hd2
    refine ⟨_, rfl, ?_⟩
    have hdr : a.drop (a.length - (j + 1)) = a[a.length - 1 - j]'(by omega) :: a.drop (a.length - j) := by
      rw [List.drop_eq_getElem_cons (by omega)]
      congr 2 <;> omega
    have hb : (j * (m + 1) + n + 1) + m < 900000 := by
      have : j * (m + 1) ≤ a.length * (m + 1) := Nat.mul_le_mul_right _ (by omega)
      omega
    have hm := mulS hz sx (by omega)
    have ha := sa _ (List.getElem_mem (show a.length - 1 - j < a.length by omega))
    simp only [sSeq, SR.andThen, sIf, sSet_ap, sSetO, sAsg, pName_ap, pTup, pCons, pNil, Option.bind_some, Option.map_some, ofS, sPut, sExpr, sRet, sRetO, sRetV, sRetN, sSkip, sBreak, sPar, mBool, mBin, mUn, mCB, mCBL, mCons, mNil_ap, mPure, mVar, mOwn, mOwn1, mOwnR, mNot, mAnd, mOr, mAndV, mOrV, mIf, mOfB, mTruD, truD, mTup, mLst, mCold, mMut, mMut0, mMove, mCall, mKw, asD, asO, gConsD, gConsS, gNilA_ap, callRes, lvsOf, toLV, refsOf, slotL, slotO, mSeq, mBinO, mPart, mSl, ER.bind, ER.toS, ofO, dropS, List.foldr_cons, List.foldr_nil, List.getElem?_cons_zero, List.getElem?_cons_succ, List.set_cons_zero, List.set_cons_succ, List.length_cons, List.length_nil, List.map_cons, List.map_nil, Nat.reduceAdd, Nat.reduceSub, if_true, if_false, Bool.false_eq_true, Bool.not_true, Bool.not_false, eq_self, decide_true, decide_false, Nat.reduceLeDiff, Nat.reduceEqDiff, reduceCtorEq, add_f, sub_f, neg_f, int_f, intb_f, abs_f, lenl_f, lent_f, lt_f, le_f, gt_f, ge_f, eq_f, ne_f, permL1, permL2, isTup_t, tup0, tup1, PNx, PRt, PRs, PBk, PCt, pName_ap, hm]
    refine ⟨some (.d (.int (a[a.length - 1 - j]'(by omega)))), ?_, ?_⟩
    · rw [hdr]
      show _ = [_, _, some (LV.d (.int (_ + x * ev (a.drop (a.length - j)) x))), _]
      rw [Int.add_comm (a[a.length - 1 - j]'(by omega)), Int.mul_comm x]
    · rw [hdr]
      show Sz _ (_ + x * _)
      rw [Int.mul_comm x]
      refine (((ha.mono (b := j * (m + 1) + n + 1 + m) (by omega)).add (hz.mul sx))).mono ?_
      rw [Nat.add_mul]
      omega
  · obtain ⟨u, rfl, hz⟩ := hi
    rw [List.length_reverse, List.length_map, Nat.sub_self, List.drop_zero]
    (simp only [sSeq, SR.andThen, sIf, sSet_ap, sSetO, sAsg, pName_ap, pTup, pCons, pNil, Option.bind_some, Option.map_some, ofS, sPut, sExpr, sRet, sRetO, sRetV, sRetN, sSkip, sBreak, sPar, mBool, mBin, mUn, mCB, mCBL, mCons, mNil_ap, mPure, mVar, mOwn, mOwn1, mOwnR, mNot, mAnd, mOr, mAndV, mOrV, mIf, mOfB, mTruD, truD, mTup, mLst, mCold, mMut, mMut0, mMove, mCall, mKw, asD, asO, gConsD, gConsS, gNilA_ap, callRes, lvsOf, toLV, refsOf, slotL, slotO, mSeq, mBinO, mPart, mSl, ER.bind, ER.toS, ofO, dropS, List.foldr_cons, List.foldr_nil, List.getElem?_cons_zero, List.getElem?_cons_succ, List.set_cons_zero, List.set_cons_succ, List.length_cons, List.length_nil, List.map_cons, List.map_nil, Nat.reduceAdd, Nat.reduceSub, if_true, if_false, Bool.false_eq_true, Bool.not_true, Bool.not_false, eq_self, decide_true, decide_false, Nat.reduceLeDiff, Nat.reduceEqDiff, reduceCtorEq, add_f, sub_f, neg_f, int_f, intb_f, abs_f, lenl_f, lent_f, lt_f, le_f, gt_f, ge_f, eq_f, ne_f, permL1, permL2, isTup_t, tup0, tup1, PNx, PRt, PRs, PBk, PCt]; first | done | exact ⟨rfl, rfl⟩ | exact ⟨trivial, rfl⟩ | trivial)
end pw_threadsround_k01_whole_quotients_and_rowG

set_option Elab.async false
set_option linter.all false
set_option maxRecDepth 100000
set_option maxHeartbeats 400000
namespace pw_threadsround_k01_whole_quotients_and_rowG
open PySem PySem.Spec L2 Pu
theorem slX_ok {b : Bool} {ns : List Int} {m : Nat} {σ : Pu.Loc} {mh : M (Option Int)} (h : m ≤ ns.length) (h0 : σ[0]? = some (some (.d (sq b ns)))) (hm : mh σ = .ok (some (m : Nat)) σ) : mCB gTuple (mCons (mSlX (mVar 0) (mPure none) mh) mNil) σ = .ok (tu (ns.take m)) σ := by
  have e : cutD (ns.map PyData.int) none (some (m : Int)) = (ns.take m).map PyData.int := by rw [cut_to (by rw [List.length_map]; exact h), List.map_take]
  have hv : mVar 0 σ = .ok (sq b ns) σ := by unfold mVar; rw [h0]
  refine cb_ok (ds := [if b then .list ((ns.take m).map PyData.int) else tu (ns.take m)]) (cons_ok (σ1 := σ) ?_ rfl) (by cases b <;> rfl)
  unfold mSlX
  rw [hv]
  simp only [ER.bind, mPure, hm]
  cases b
  · show ER.ok (PyData.tuple (cutD (ns.map PyData.int) none (some (m : Int)))) _ = _
    rw [e]
    rfl
  · show ER.ok (PyData.list (cutD (ns.map PyData.int) none (some (m : Int)))) _ = _
    rw [e]
    rfl
theorem e__law_stripped (b : Bool) (ns : List Int) (hn : ns.length ≤ 1000) : ∃ r, m__law_stripped [.d (sq b ns)] = .ret (.d (tu r)) none ∧ Trim ns r := by
  have key := P_ex (r := m__law_stripped [.d (sq b ns)]) (Φ := fun v o => ∃ r : List Int, v = .d (tu r) ∧ o = none ∧ Trim ns r) fun R X hR => by
    unfold m__law_stripped
    refine def_P ?_
    have hl := sq_len b ns
    have hi := sq_ix b ns
    have hs : ∀ (m : Nat) (σ : Pu.Loc) (mh : M (Option Int)), m ≤ ns.length → σ[0]? = some (some (.d (sq b ns))) → mh σ = .ok (some (m : Nat)) σ → mCB gTuple (mCons (mSlX (mVar 0) (mPure none) mh) mNil) σ = .ok (tu (ns.take m)) σ := fun m σ mh h h0 hm => slX_ok h h0 hm
    generalize sq b ns = d at *
    simp only [pad, List.map_cons, List.map_nil, List.length_cons, List.length_nil, Nat.reduceAdd, Nat.reduceSub, List.cons_append, List.nil_append, List.replicate]
    refine P_seq' (P_for (range1_ok (n := (ns.length : Nat)) (σ1 := [some (.d d), none]) (ms := mCons (mCB gLen (mCons (mVar 0) mNil)) mNil) (by (simp only [sSeq, SR.andThen, sIf, sSet_ap, sSetO, sAsg, pName_ap, pTup, pCons, pNil, Option.bind_some, Option.map_some, ofS, sPut, sExpr, sRet, sRetO, sRetV, sRetN, sSkip, sBreak, sPar, mBool, mBin, mUn, mCB, mCBL, mCons, mNil_ap, mPure, mVar, mOwn, mOwn1, mOwnR, mNot, mAnd, mOr, mAndV, mOrV, mIf, mOfB, mTruD, truD, mTup, mLst, mCold, mMut, mMut0, mMove, mCall, mKw, asD, asO, gConsD, gConsS, gNilA_ap, callRes, lvsOf, toLV, refsOf, slotL, slotO, mSeq, mBinO, mPart, mSl, ER.bind, ER.toS, ofO, dropS, List.foldr_cons, List.foldr_nil, List.getElem?_cons_zero, List.getElem?_cons_succ, List.set_cons_zero, List.set_cons_succ, List.length_cons, List.length_nil, List.map_cons, List.map_nil, Nat.reduceAdd, Nat.reduceSub, if_true, if_false, Bool.false_eq_true, Bool.not_true, Bool.not_false, eq_self, decide_true, decide_false, Nat.reduceLeDiff, Nat.reduceEqDiff, reduceCtorEq, add_f, sub_f, neg_f, int_f, intb_f, abs_f, lenl_f, lent_f, lt_f, le_f, gt_f, ge_f, eq_f, ne_f, permL1, permL2, isTup_t, tup0, tup1, PNx, PRt, PRs, PBk, PCt, hl]); first | done | rfl) (by omega) (by omega)) (fun k σ => (∃ u, σ = [some (.d d), u]) ∧ ∀ y ∈ ns.drop (ns.length - k), y = 0) ⟨⟨_, rfl⟩, fun y hy => by rw [Nat.sub_zero, List.drop_length] at hy; cases hy⟩ (fun k x σ hx hI => ?_) fun σ hI => ?_)
    · obtain ⟨⟨u, rfl⟩, h0⟩ := hI
      obtain ⟨hk, rfl⟩ := rangeD_get hx
      rw [Int.toNat_natCast] at hk
      refine ⟨_, rfl, ?_⟩
      have hix := hi (ns.length - 1 - k) (by omega)
      have e1 : ((ns.length : Nat) : Int) - 1 - (0 + (k : Nat)) = ((ns.length - 1 - k : Nat) : Int) := by omega
      by_cases hz : ns[ns.length - 1 - k]'(by omega) = 0
      · have d0 : decide (ns[ns.length - 1 - k]'(by omega) = 0) = true := decide_eq_true hz
        refine P_if (k := false) (by (simp only [sSeq, SR.andThen, sIf, sSet_ap, sSetO, sAsg, pName_ap, pTup, pCons, pNil, Option.bind_some, Option.map_some, ofS, sPut, sExpr, sRet, sRetO, sRetV, sRetN, sSkip, sBreak, sPar, mBool, mBin, mUn, mCB, mCBL, mCons, mNil_ap, mPure, mVar, mOwn, mOwn1, mOwnR, mNot, mAnd, mOr, mAndV, mOrV, mIf, mOfB, mTruD, truD, mTup, mLst, mCold, mMut, mMut0, mMove, mCall, mKw, asD, asO, gConsD, gConsS, gNilA_ap, callRes, lvsOf, toLV, refsOf, slotL, slotO, mSeq, mBinO, mPart, mSl, ER.bind, ER.toS, ofO, dropS, List.foldr_cons, List.foldr_nil, List.getElem?_cons_zero, List.getElem?_cons_succ, List.set_cons_zero, List.set_cons_succ, List.length_cons, List.length_nil, List.map_cons, List.map_nil, Nat.reduceAdd, Nat.reduceSub, if_true, if_false, Bool.false_eq_true, Bool.not_true, Bool.not_false, eq_self, decide_true, decide_false, Nat.reduceLeDiff, Nat.reduceEqDiff, reduceCtorEq, add_f, sub_f, neg_f, int_f, intb_f, abs_f, lenl_f, lent_f, lt_f, le_f, gt_f, ge_f, eq_f, ne_f, permL1, permL2, isTup_t, tup0, tup1, PNx, PRt, PRs, PBk, PCt, hl, e1, hix, d0]); first | done | rfl) (fun h => by cases h) fun _ => ?_
        simp only [sSeq, SR.andThen, sIf, sSet_ap, sSetO, sAsg, pName_ap, pTup, pCons, pNil, Option.bind_some, Option.map_some, ofS, sPut, sExpr, sRet, sRetO, sRetV, sRetN, sSkip, sBreak, sPar, mBool, mBin, mUn, mCB, mCBL, mCons, mNil_ap, mPure, mVar, mOwn, mOwn1, mOwnR, mNot, mAnd, mOr, mAndV, mOrV, mIf, mOfB, mTruD, truD, mTup, mLst, mCold, mMut, mMut0, mMove, mCall, mKw, asD, asO, gConsD, gConsS, gNilA_ap, callRes, lvsOf, toLV, refsOf, slotL, slotO, mSeq, mBinO, mPart, mSl, ER.bind, ER.toS, ofO, dropS, List.foldr_cons, List.foldr_nil, List.getElem?_cons_zero, List.getElem?_cons_succ, List.set_cons_zero, List.set_cons_succ, List.length_cons, List.length_nil, List.map_cons, List.map_nil, Nat.reduceAdd, Nat.reduceSub, if_true, if_false, Bool.false_eq_true, Bool.not_true, Bool.not_false, eq_self, decide_true, decide_false, Nat.reduceLeDiff, Nat.reduceEqDiff, reduceCtorEq, add_f, sub_f, neg_f, int_f, intb_f, abs_f, lenl_f, lent_f, lt_f, le_f, gt_f, ge_f, eq_f, ne_f, permL1, permL2, isTup_t, tup0, tup1, PNx, PRt, PRs, PBk, PCt]
        refine ⟨⟨_, rfl⟩, fun y hy => ?_⟩
        rw [show ns.length - (k + 1) = ns.length - 1 - k from by omega, List.drop_eq_getElem_cons (by omega)] at hy
        rcases List.mem_cons.mp hy with e | e
        · rw [e]; exact hz
        · exact h0 y (by rw [show ns.length - k = ns.length - 1 - k + 1 from by omega]; exact e)
      · have d0 : decide (ns[ns.length - 1 - k]'(by omega) = 0) = false := decide_eq_false hz
        refine P_if (k := true) (by (simp only [sSeq, SR.andThen, sIf, sSet_ap, sSetO, sAsg, pName_ap, pTup, pCons, pNil, Option.bind_some, Option.map_some, ofS, sPut, sExpr, sRet, sRetO, sRetV, sRetN, sSkip, sBreak, sPar, mBool, mBin, mUn, mCB, mCBL, mCons, mNil_ap, mPure, mVar, mOwn, mOwn1, mOwnR, mNot, mAnd, mOr, mAndV, mOrV, mIf, mOfB, mTruD, truD, mTup, mLst, mCold, mMut, mMut0, mMove, mCall, mKw, asD, asO, gConsD, gConsS, gNilA_ap, callRes, lvsOf, toLV, refsOf, slotL, slotO, mSeq, mBinO, mPart, mSl, ER.bind, ER.toS, ofO, dropS, List.foldr_cons, List.foldr_nil, List.getElem?_cons_zero, List.getElem?_cons_succ, List.set_cons_zero, List.set_cons_succ, List.length_cons, List.length_nil, List.map_cons, List.map_nil, Nat.reduceAdd, Nat.reduceSub, if_true, if_false, Bool.false_eq_true, Bool.not_true, Bool.not_false, eq_self, decide_true, decide_false, Nat.reduceLeDiff, Nat.reduceEqDiff, reduceCtorEq, add_f, sub_f, neg_f, int_f, intb_f, abs_f, lenl_f, lent_f, lt_f, le_f, gt_f, ge_f, eq_f, ne_f, permL1, permL2, isTup_t, tup0, tup1, PNx, PRt, PRs, PBk, PCt, hl, e1, hix, d0]); first | done | rfl) (fun _ => ?_) fun h => by cases h
        have e2 : ((ns.length : Nat) : Int) - (0 + (k : Nat)) = ((ns.length - k : Nat) : Int) := by omega
        have hc := hs (ns.length - k) [some (.d d), some (.d (.int (0 + (k : Nat))))] (mPart (mBin fSub (mCB gLen (mCons (mVar 0) mNil)) (mVar 1))) (by omega) rfl (by (simp only [sSeq, SR.andThen, sIf, sSet_ap, sSetO, sAsg, pName_ap, pTup, pCons, pNil, Option.bind_some, Option.map_some, ofS, sPut, sExpr, sRet, sRetO, sRetV, sRetN, sSkip, sBreak, sPar, mBool, mBin, mUn, mCB, mCBL, mCons, mNil_ap, mPure, mVar, mOwn, mOwn1, mOwnR, mNot, mAnd, mOr, mAndV, mOrV, mIf, mOfB, mTruD, truD, mTup, mLst, mCold, mMut, mMut0, mMove, mCall, mKw, asD, asO, gConsD, gConsS, gNilA_ap, callRes, lvsOf, toLV, refsOf, slotL, slotO, mSeq, mBinO, mPart, mSl, ER.bind, ER.toS, ofO, dropS, List.foldr_cons, List.foldr_nil, List.getElem?_cons_zero, List.getElem?_cons_succ, List.set_cons_zero, List.set_cons_succ, List.length_cons, List.length_nil, List.map_cons, List.map_nil, Nat.reduceAdd, Nat.reduceSub, if_true, if_false, Bool.false_eq_true, Bool.not_true, Bool.not_false, eq_self, decide_true, decide_false, Nat.reduceLeDiff, Nat.reduceEqDiff, reduceCtorEq, add_f, sub_f, neg_f, int_f, intb_f, abs_f, lenl_f, lent_f, lt_f, le_f, gt_f, ge_f, eq_f, ne_f, permL1, permL2, isTup_t, tup0, tup1, PNx, PRt, PRs, PBk, PCt, hl, e2]); first | done | rfl)
        show SR.P (sRet _ [some (.d d), some (.d (.int (0 + (k : Nat))))]) _
        rw [ret_ok hc, PRt]
        refine hR _ _ ⟨ns.take (ns.length - k), rfl, rfl, ?_, ev_take h0, fun y hy => List.mem_of_mem_take hy, by rw [List.length_take]; omega, sab_take _ _⟩
        rw [show ns.length - k = ns.length - 1 - k + 1 from by omega]
        exact row_take (by omega) hz
    · obtain ⟨⟨u, rfl⟩, h0⟩ := hI
      rw [rangeD_len, Int.toNat_natCast, Nat.sub_self, List.drop_zero] at h0
      simp only [sSeq, SR.andThen, sIf, sSet_ap, sSetO, sAsg, pName_ap, pTup, pCons, pNil, Option.bind_some, Option.map_some, ofS, sPut, sExpr, sRet, sRetO, sRetV, sRetN, sSkip, sBreak, sPar, mBool, mBin, mUn, mCB, mCBL, mCons, mNil_ap, mPure, mVar, mOwn, mOwn1, mOwnR, mNot, mAnd, mOr, mAndV, mOrV, mIf, mOfB, mTruD, truD, mTup, mLst, mCold, mMut, mMut0, mMove, mCall, mKw, asD, asO, gConsD, gConsS, gNilA_ap, callRes, lvsOf, toLV, refsOf, slotL, slotO, mSeq, mBinO, mPart, mSl, ER.bind, ER.toS, ofO, dropS, List.foldr_cons, List.foldr_nil, List.getElem?_cons_zero, List.getElem?_cons_succ, List.set_cons_zero, List.set_cons_succ, List.length_cons, List.length_nil, List.map_cons, List.map_nil, Nat.reduceAdd, Nat.reduceSub, if_true, if_false, Bool.false_eq_true, Bool.not_true, Bool.not_false, eq_self, decide_true, decide_false, Nat.reduceLeDiff, Nat.reduceEqDiff, reduceCtorEq, add_f, sub_f, neg_f, int_f, intb_f, abs_f, lenl_f, lent_f, lt_f, le_f, gt_f, ge_f, eq_f, ne_f, permL1, permL2, isTup_t, tup0, tup1, PNx, PRt, PRs, PBk, PCt]
      exact hR _ _ ⟨[], rfl, rfl, row_n, fun x => (ev_noughts ns x h0).symm, fun y hy => (by cases hy), Nat.zero_le _, sab_nn _⟩
  obtain ⟨v, o, e, r, rfl, rfl, h⟩ := key
  exact ⟨r, e, h⟩
end pw_threadsround_k01_whole_quotients_and_rowG

set_option Elab.async false
set_option linter.all false
set_option maxRecDepth 100000
set_option maxHeartbeats 400000
namespace pw_threadsround_k01_whole_quotients_and_rowG
open PySem PySem.Spec L2 Pu
theorem last_t (A : List Int) (z : Int) : fIx (tu (A ++ [z])) (.int (-1)) = some (.int z) := last_c A z
theorem e__law_is_row {r : List Int} (h : Row r) (hl : r.length ≤ 1000) : m__law_is_row [.d (tu r)] = .ret (.d (.bool true)) none := by
  unfold m__law_is_row
  refine P_eq (def_P ?_)
  have t1 : isTup (tu r) = true := rfl
  have l1 : gLen [tu r] = some (.int (r.length : Nat)) := by rw [lent_f, List.length_map]
  have hs : mSeq (mVar 0) [some (.d (tu r)), none] = .ok (r.map PyData.int) [some (.d (tu r)), none] := rfl
  have hix : ∀ A z, r = A ++ [z] → fIx (tu r) (.int (-1)) = some (.int z) := fun A z e => by rw [e]; exact last_t A z
  generalize tu r = d at *
  refine P_seq fun K hK => ?_
  simp only [sSeq, SR.andThen, sIf, sSet_ap, sSetO, sAsg, pName_ap, pTup, pCons, pNil, Option.bind_some, Option.map_some, ofS, sPut, sExpr, sRet, sRetO, sRetV, sRetN, sSkip, sBreak, sPar, mBool, mBin, mUn, mCB, mCBL, mCons, mNil_ap, mPure, mVar, mOwn, mOwn1, mOwnR, mNot, mAnd, mOr, mAndV, mOrV, mIf, mOfB, mTruD, truD, mTup, mLst, mCold, mMut, mMut0, mMove, mCall, mKw, asD, asO, gConsD, gConsS, gNilA_ap, callRes, lvsOf, toLV, refsOf, slotL, slotO, mSeq, mBinO, mPart, mSl, ER.bind, ER.toS, ofO, dropS, List.foldr_cons, List.foldr_nil, List.getElem?_cons_zero, List.getElem?_cons_succ, List.set_cons_zero, List.set_cons_succ, List.length_cons, List.length_nil, List.map_cons, List.map_nil, Nat.reduceAdd, Nat.reduceSub, if_true, if_false, Bool.false_eq_true, Bool.not_true, Bool.not_false, eq_self, decide_true, decide_false, Nat.reduceLeDiff, Nat.reduceEqDiff, reduceCtorEq, add_f, sub_f, neg_f, int_f, intb_f, abs_f, lenl_f, lent_f, lt_f, le_f, gt_f, ge_f, eq_f, ne_f, permL1, permL2, isTup_t, tup0, tup1, PNx, PRt, PRs, PBk, PCt, pad, List.cons_append, List.nil_append, List.replicate, t1]
  refine hK _ ?_
  clear hK K
  refine P_seq' (P_for hs (fun _ σ => ∃ u, σ = [some (.d d), u]) ⟨_, rfl⟩ (fun k x σ hx hI => ?_) fun σ hI => ?_)
  · obtain ⟨u, rfl⟩ := hI
    rw [List.getElem?_map] at hx
    obtain ⟨i, _, rfl⟩ := Option.map_eq_some_iff.mp hx
    refine ⟨_, rfl, ?_⟩
    have e1 : m__law_is_integer [.d (.int i)] = .ret (.d (.bool true)) none := rfl
    simp only [sSeq, SR.andThen, sIf, sSet_ap, sSetO, sAsg, pName_ap, pTup, pCons, pNil, Option.bind_some, Option.map_some, ofS, sPut, sExpr, sRet, sRetO, sRetV, sRetN, sSkip, sBreak, sPar, mBool, mBin, mUn, mCB, mCBL, mCons, mNil_ap, mPure, mVar, mOwn, mOwn1, mOwnR, mNot, mAnd, mOr, mAndV, mOrV, mIf, mOfB, mTruD, truD, mTup, mLst, mCold, mMut, mMut0, mMove, mCall, mKw, asD, asO, gConsD, gConsS, gNilA_ap, callRes, lvsOf, toLV, refsOf, slotL, slotO, mSeq, mBinO, mPart, mSl, ER.bind, ER.toS, ofO, dropS, List.foldr_cons, List.foldr_nil, List.getElem?_cons_zero, List.getElem?_cons_succ, List.set_cons_zero, List.set_cons_succ, List.length_cons, List.length_nil, List.map_cons, List.map_nil, Nat.reduceAdd, Nat.reduceSub, if_true, if_false, Bool.false_eq_true, Bool.not_true, Bool.not_false, eq_self, decide_true, decide_false, Nat.reduceLeDiff, Nat.reduceEqDiff, reduceCtorEq, add_f, sub_f, neg_f, int_f, intb_f, abs_f, lenl_f, lent_f, lt_f, le_f, gt_f, ge_f, eq_f, ne_f, permL1, permL2, isTup_t, tup0, tup1, PNx, PRt, PRs, PBk, PCt, pName_ap, e1]
    exact ⟨_, rfl⟩
  · obtain ⟨u, rfl⟩ := hI
    rcases List.eq_nil_or_concat r with e | ⟨A, z, e⟩
    · subst e
      have d0 : decide (((([] : List Int).length : Nat) : Int) = 0) = true := rfl
      have l1 : gLen [d] = some (.int ((([] : List Int).length : Nat) : Int)) := l1
      show SR.P _ ⟨_, fun v σ => outP none σ fun o => v = LV.d (.bool true) ∧ o = none, _, _, _⟩
      have hb : mOrV (mBin fEq (mCB gLen (mCons (mVar 0) mNil)) (mPure (.int 0))) (mBin fNe (mBin fIx (mVar 0) (mUn fNeg (mPure (.int 1)))) (mPure (.int 0))) [some (.d d), u] = .ok (.bool true) [some (.d d), u] := by
        have : mBin fEq (mCB gLen (mCons (mVar 0) mNil)) (mPure (.int 0)) [some (.d d), u] = .ok (.bool true) [some (.d d), u] := bin_ok (cb_ok (cons_ok (σ1 := [some (.d d), u]) rfl rfl) l1) rfl rfl
        unfold mOrV
        rw [this]
        rfl
      rw [ret_ok hb, PRt]
      exact ⟨rfl, rfl⟩
    · rw [List.concat_eq_append] at e
      have hz := row_last (e ▸ h)
      have d0 : decide (z = 0) = false := decide_eq_false hz
      have hn : decide ((r.length : Int) = 0) = false := decide_eq_false (by rw [e, List.length_append, List.length_singleton]; omega)
      have hi := hix A z e
      (simp only [sSeq, SR.andThen, sIf, sSet_ap, sSetO, sAsg, pName_ap, pTup, pCons, pNil, Option.bind_some, Option.map_some, ofS, sPut, sExpr, sRet, sRetO, sRetV, sRetN, sSkip, sBreak, sPar, mBool, mBin, mUn, mCB, mCBL, mCons, mNil_ap, mPure, mVar, mOwn, mOwn1, mOwnR, mNot, mAnd, mOr, mAndV, mOrV, mIf, mOfB, mTruD, truD, mTup, mLst, mCold, mMut, mMut0, mMove, mCall, mKw, asD, asO, gConsD, gConsS, gNilA_ap, callRes, lvsOf, toLV, refsOf, slotL, slotO, mSeq, mBinO, mPart, mSl, ER.bind, ER.toS, ofO, dropS, List.foldr_cons, List.foldr_nil, List.getElem?_cons_zero, List.getElem?_cons_succ, List.set_cons_zero, List.set_cons_succ, List.length_cons, List.length_nil, List.map_cons, List.map_nil, Nat.reduceAdd, Nat.reduceSub, if_true, if_false, Bool.false_eq_true, Bool.not_true, Bool.not_false, eq_self, decide_true, decide_false, Nat.reduceLeDiff, Nat.reduceEqDiff, reduceCtorEq, add_f, sub_f, neg_f, int_f, intb_f, abs_f, lenl_f, lent_f, lt_f, le_f, gt_f, ge_f, eq_f, ne_f, permL1, permL2, isTup_t, tup0, tup1, PNx, PRt, PRs, PBk, PCt, l1, hn, hi, d0]; first | done | exact ⟨rfl, rfl⟩ | exact ⟨trivial, rfl⟩ | trivial)
def addL : List Int → List Int → List Int
  | a :: r, b :: s => (a + b) :: addL r s
  | _, _ => []
theorem ev_addL : ∀ (a b : List Int), a.length = b.length → ∀ x, ev (addL a b) x = ev a x + ev b x
  | [], [], _, _ => rfl
  | a :: r, b :: s, h, x => by
    show a + b + x * ev (addL r s) x = a + x * ev r x + (b + x * ev s x)
    rw [ev_addL r s (by simpa using h), Int.mul_add]
    omega
  | [], b :: s, h, _ => by simp at h
  | a :: r, [], h, _ => by simp at h
theorem addL_get : ∀ (a b : List Int) (i : Nat), a.length = b.length → (addL a b)[i]? = if i < a.length then some (a.getD i 0 + b.getD i 0) else none
  | [], [], i, _ => by simp [addL]
  | a :: r, b :: s, 0, h => by simp [addL]
  | a :: r, b :: s, i + 1, h => by
    show (addL r s)[i]? = _
    rw [addL_get r s i (by simpa using h)]
    simp
  | [], b :: s, _, h => by simp at h
  | a :: r, [], _, h => by simp at h
def addF (a b : List Int) : D → D
  | .int i => .int (a.getD i.toNat 0 + b.getD i.toNat 0)
  | _ => .none
theorem addL_eq (a b : List Int) (L : Nat) (la : a.length = L) (lb : b.length = L) : (rangeD 0 L).map (addF a b) = (addL a b).map PyData.int := by
  refine List.ext_getElem? fun i => ?_
  rw [List.getElem?_map, List.getElem?_map, addL_get a b i (by omega)]
  unfold rangeD
  rw [List.getElem?_map]
  by_cases h : i < L
  · rw [if_pos (by omega), List.getElem?_range h]
    show some (addF a b (.int (0 + (i : Int)))) = _
    rw [Int.zero_add]
    rfl
  · rw [if_neg (by omega), List.getElem?_eq_none (by rw [List.length_range]; omega)]
    rfl
theorem addL_len (a b : List Int) (L : Nat) (la : a.length = L) (lb : b.length = L) : (addL a b).length = L := by
  have := congrArg List.length (addL_eq a b L la lb)
  rw [List.length_map, List.length_map, rangeD_len] at this
  exact this.symm
theorem cat_ok {xs ys : List D} (h : xs.length + ys.length ≤ 1000000) : fCatL (.list xs) (.list ys) = some (xs ++ ys) := by
  unfold fCatL
  exact if_pos h
end pw_threadsround_k01_whole_quotients_and_rowG

set_option Elab.async false
set_option linter.all false
set_option maxRecDepth 100000
set_option maxHeartbeats 400000
namespace Pu
open PySem PySem.Spec L2
/-! calls, by the values of their arguments -/
section
variable {T : Fd} {a b c d : M D} {σ σ1 σ2 σ3 σ4 : Loc} {x y z w r : D} {e : Ex}
theorem gc_ok {a : M D} {b : M (List Ag)} {l : List Ag} (ha : a σ = .ok x σ1) (hb : b σ1 = .ok l σ2) : gConsD a b σ = .ok (.d x :: l) σ2 := by
  unfold gConsD; rw [ha]; show ER.bind (b σ1) _ = _; rw [hb]; rfl
theorem call_ok {n : Nat} {ms : M (List Ag)} {ds : List D} (hm : ms σ = .ok (ds.map Ag.d) σ1) (hn : ds.length = n) (hT : T (ds.map LV.d) = .ret (.d r) none) : asD (mCall n T none ms) σ = .ok r σ1 := by
  have h1 : ∀ ds : List D, lvsOf σ1 (ds.map Ag.d) = some (ds.map LV.d) := fun ds => by
    induction ds with
    | nil => rfl
    | cons d l ih => rw [List.map_cons, lvsOf, ih]; rfl
  have h2 : ∀ (ds : List D) (k : Nat), refsOf k (ds.map Ag.d) = [] := fun ds => by
    induction ds with
    | nil => intro k; rfl
    | cons d l ih => intro k; rw [List.map_cons, refsOf, ih]
  unfold asD mCall
  rw [hm]
  show ER.bind (if (ds.map Ag.d).length = n then _ else _) _ = _
  rw [if_pos (by rw [List.length_map]; exact hn)]
  unfold callRes
  rw [h1, h2]
  show ER.bind (match T (ds.map LV.d) with | .ret v _ => _ | .raise x _ => _ | .stuck => _) _ = _
  rw [hT]
  rfl
theorem call_x {n : Nat} {ms : M (List Ag)} {ds : List D} (hm : ms σ = .ok (ds.map Ag.d) σ1) (hn : ds.length = n) (hT : T (ds.map LV.d) = .raise e none) : asD (mCall n T none ms) σ = .raise e σ1 := by
  have h1 : ∀ ds : List D, lvsOf σ1 (ds.map Ag.d) = some (ds.map LV.d) := fun ds => by
    induction ds with
    | nil => rfl
    | cons d l ih => rw [List.map_cons, lvsOf, ih]; rfl
  have h2 : ∀ (ds : List D) (k : Nat), refsOf k (ds.map Ag.d) = [] := fun ds => by
    induction ds with
    | nil => intro k; rfl
    | cons d l ih => intro k; rw [List.map_cons, refsOf, ih]
  unfold asD mCall
  rw [hm]
  show ER.bind (if (ds.map Ag.d).length = n then _ else _) _ = _
  rw [if_pos (by rw [List.length_map]; exact hn)]
  unfold callRes
  rw [h1, h2]
  show ER.bind (match T (ds.map LV.d) with | .ret v _ => _ | .raise x _ => _ | .stuck => _) _ = _
  rw [hT]
  rfl
theorem call1 (ha : a σ = .ok x σ1) (hT : T [.d x] = .ret (.d r) none) : asD (mCall 1 T none (gConsD a gNilA)) σ = .ok r σ1 :=
  call_ok (ds := [x]) (gc_ok ha rfl) rfl hT
theorem call2 (ha : a σ = .ok x σ1) (hb : b σ1 = .ok y σ2) (hT : T [.d x, .d y] = .ret (.d r) none) : asD (mCall 2 T none (gConsD a (gConsD b gNilA))) σ = .ok r σ2 :=
  call_ok (ds := [x, y]) (gc_ok ha (gc_ok hb rfl)) rfl hT
theorem call3 (ha : a σ = .ok x σ1) (hb : b σ1 = .ok y σ2) (hc : c σ2 = .ok z σ3) (hT : T [.d x, .d y, .d z] = .ret (.d r) none) : asD (mCall 3 T none (gConsD a (gConsD b (gConsD c gNilA)))) σ = .ok r σ3 :=
  call_ok (ds := [x, y, z]) (gc_ok ha (gc_ok hb (gc_ok hc rfl))) rfl hT
theorem call4 (ha : a σ = .ok x σ1) (hb : b σ1 = .ok y σ2) (hc : c σ2 = .ok z σ3) (hd : d σ3 = .ok w σ4) (hT : T [.d x, .d y, .d z, .d w] = .ret (.d r) none) : asD (mCall 4 T none (gConsD a (gConsD b (gConsD c (gConsD d gNilA))))) σ = .ok r σ4 :=
  call_ok (ds := [x, y, z, w]) (gc_ok ha (gc_ok hb (gc_ok hc (gc_ok hd rfl)))) rfl hT
theorem cold_ok {m : M OO} {xs : List D} (h : m σ = .ok (.lst xs) σ1) : mCold m σ = .ok (.list xs) σ1 := by unfold mCold; rw [h]; rfl
/-- not m: False where m is True -/
theorem notT_ok (h : a σ = .ok (.bool true) σ1) : mNot (mTruD a) σ = .ok false σ1 := not_ok (truD_ok h rfl)
theorem comp_eq {m : M (List D)} {pt : Pt} {t : M Bool} {me : M D} {vs : List Nat} {ds : List D} {r : ER OO} (h : m σ = .ok ds σ1) (hl : ds.length ≤ 1000000) (hd : dropS vs σ1 = σ2) (hc : compD pt t me vs ds [] σ2 = r) : mComp m pt t me vs σ = r := by
  unfold mComp; rw [h]
  show (if _ then _ else _) = _
  rw [if_pos hl, hd]; exact hc
end
end Pu
namespace pw_threadsround_k01_whole_quotients_and_rowG
open PySem PySem.Spec L2 Pu
/-- the rows given, one longer with noughts -/
def s4 (a b c d : D) : Pu.Loc := [some (.d a), some (.d b), some (.d c), some (.d d)]
theorem sumComp (a' b' : List Int) (L : Nat) (hL : L ≤ 1000) (la : a'.length = L) (lb : b'.length = L) (σ : Pu.Loc) (hσ : σ = [some (.d (.list (a'.map PyData.int))), some (.d (.list (b'.map PyData.int))), some (.d (.int (L : Nat))), none]) : mCold (mComp (mRange1 (mCons (mVar 2) mNil)) (pName 3) (mPure true) (mBin fAdd (mBin fIx (mVar 0) (mVar 3)) (mBin fIx (mVar 1) (mVar 3))) [3]) σ = .ok (.list ((addL a' b').map PyData.int)) σ := by
  refine cold_ok ?_
  have hr : mRange1 (mCons (mVar 2) mNil) σ = .ok (rangeD 0 (L : Int).toNat) σ := range1_ok (n := (L : Nat)) (by subst hσ; exact cons_ok (σ1 := _) rfl rfl) (by omega) (by omega)
  refine comp_eq hr (by rw [rangeD_len]; omega) (σ2 := σ) (by subst hσ; rfl) ?_
  have hk := comp_map (pt := pName 3) (t := mPure true) (me := mBin fAdd (mBin fIx (mVar 0) (mVar 3)) (mBin fIx (mVar 1) (mVar 3))) (vs := [3]) (σ := σ) (addF a' b') (rangeD 0 (L : Int).toNat) [] fun d hd => by
    subst hσ
    obtain ⟨i, hi, rfl⟩ := rangeD_mem hd
    rw [Int.toNat_natCast] at hi
    have i1 : fIx (.list (a'.map PyData.int)) (.int (0 + (i : Nat))) = some (.int a'[i]) := by rw [Int.zero_add]; exact sq_ix true a' i (by omega)
    have i2 : fIx (.list (b'.map PyData.int)) (.int (0 + (i : Nat))) = some (.int b'[i]) := by rw [Int.zero_add]; exact sq_ix true b' i (by omega)
    have hf : addF a' b' (.int (0 + (i : Nat))) = .int (a'[i] + b'[i]) := by
      show PyData.int (a'.getD (0 + (i : Int)).toNat 0 + b'.getD (0 + (i : Int)).toNat 0) = _
      rw [Int.zero_add, Int.toNat_natCast, List.getD_eq_getElem?_getD, List.getD_eq_getElem?_getD, List.getElem?_eq_getElem (show i < a'.length by omega), List.getElem?_eq_getElem (show i < b'.length by omega), Option.getD_some, Option.getD_some]
    generalize PyData.int (0 + (i : Nat)) = di at *
    refine ⟨_, _, [some (.d (.list (a'.map PyData.int))), some (.d (.list (b'.map PyData.int))), some (.d (.int (L : Nat))), some (.d di)], rfl, rfl, ?_, rfl⟩
    rw [hf]
    generalize PyData.list (a'.map PyData.int) = A at *
    generalize PyData.list (b'.map PyData.int) = B at *
    exact bin_ok (σ1 := [some (.d A), some (.d B), some (.d (.int (L : Nat))), some (.d di)]) (bin_ok rfl rfl i1) (bin_ok rfl rfl i2) add_f
  rw [Int.toNat_natCast, addL_eq a' b' L la lb, List.nil_append] at hk
  rw [Int.toNat_natCast]
  exact hk
theorem e__law_sum_row (a b : List Int) (ha : a.length ≤ 400) (hb : b.length ≤ 400) : ∃ r, m__law_sum_row [.d (tu a), .d (tu b)] = .ret (.d (tu r)) none ∧ Row r ∧ ∀ x, ev r x = ev a x + ev b x := by
  have key := P_ex (r := m__law_sum_row [.d (tu a), .d (tu b)]) (Φ := fun v o => ∃ r : List Int, v = .d (tu r) ∧ o = none ∧ Row r ∧ ∀ x, ev r x = ev a x + ev b x) fun R X hR => by
    have hT : ∀ ns : List Int, ns.length ≤ 1000 → ∃ r, m__law_stripped [.d (.list (ns.map PyData.int))] = .ret (.d (tu r)) none ∧ Trim ns r := fun ns hn => e__law_stripped true ns hn
    unfold m__law_sum_row
    generalize m__law_stripped = T at *
    have hS := sumComp
    generalize mCold (mComp (mRange1 (mCons (mVar 2) mNil)) (pName 3) (mPure true) (mBin fAdd (mBin fIx (mVar 0) (mVar 3)) (mBin fIx (mVar 1) (mVar 3))) [3]) = Q at *
    refine def_P ?_
    obtain ⟨L, hL⟩ : ∃ L : Nat, L = max a.length b.length := ⟨_, rfl⟩
    have l1 : gLen [tu a] = some (.int (a.length : Nat)) := by rw [lent_f, List.length_map]
    have l2 : gLen [tu b] = some (.int (b.length : Nat)) := by rw [lent_f, List.length_map]
    have hm : gMax2 [.int (a.length : Nat), .int (b.length : Nat)] = some (.int (L : Nat)) := by
      show some (PyData.int (if ((b.length : Nat) : Int) > (a.length : Nat) then _ else _)) = _
      have : (if ((b.length : Nat) : Int) > (a.length : Nat) then ((b.length : Nat) : Int) else (a.length : Nat)) = (L : Nat) := by split <;> omega
      rw [this]
    have q1 : seq1 [tu a] = some (a.map PyData.int) := rfl
    have q2 : seq1 [tu b] = some (b.map PyData.int) := rfl
    obtain ⟨a', ha'⟩ : ∃ a', a' = a ++ List.replicate (L - a.length) (0 : Int) := ⟨_, rfl⟩
    obtain ⟨b', hb'⟩ : ∃ b', b' = b ++ List.replicate (L - b.length) (0 : Int) := ⟨_, rfl⟩
    have la : a'.length = L := by rw [ha', List.length_append, List.length_replicate]; omega
    have lb : b'.length = L := by rw [hb', List.length_append, List.length_replicate]; omega
    have ea : ∀ x, ev a' x = ev a x := fun x => by rw [ha', ev_app, ev_rep, Int.mul_zero, Int.add_zero]
    have eb : ∀ x, ev b' x = ev b x := fun x => by rw [hb', ev_app, ev_rep, Int.mul_zero, Int.add_zero]
    have c1 : fCatL (.list (a.map PyData.int)) (.list (List.replicate (L - a.length) (.int 0))) = some (a'.map PyData.int) := by
      rw [ha', List.map_append, List.map_replicate]
      exact cat_ok (by rw [List.length_map, List.length_replicate]; omega)
    have c2 : fCatL (.list (b.map PyData.int)) (.list (List.replicate (L - b.length) (.int 0))) = some (b'.map PyData.int) := by
      rw [hb', List.map_append, List.map_replicate]
      exact cat_ok (by rw [List.length_map, List.length_replicate]; omega)
    have r1 : fRepL (.list [.int 0]) (.int (((L : Nat) : Int) - ((a.length : Nat) : Int))) = some (List.replicate (L - a.length) (.int 0)) := by rw [← rep1 (L - a.length) (.int 0) (by omega)]; congr 2; omega
    have r2 : fRepL (.list [.int 0]) (.int (((L : Nat) : Int) - ((b.length : Nat) : Int))) = some (List.replicate (L - b.length) (.int 0)) := by rw [← rep1 (L - b.length) (.int 0) (by omega)]; congr 2; omega
    generalize tu a = A at *
    generalize tu b = B at *
    refine P_seq fun K hK => ?_
    simp only [sSeq, SR.andThen, sIf, sSet_ap, sSetO, sAsg, pName_ap, pTup, pCons, pNil, Option.bind_some, Option.map_some, ofS, sPut, sExpr, sRet, sRetO, sRetV, sRetN, sSkip, sBreak, sPar, mBool, mBin, mUn, mCB, mCBL, mCons, mNil_ap, mPure, mVar, mOwn, mOwn1, mOwnR, mNot, mAnd, mOr, mAndV, mOrV, mIf, mOfB, mTruD, truD, mTup, mLst, mCold, mMut, mMut0, mMove, mCall, mKw, asD, asO, gConsD, gConsS, gNilA_ap, callRes, lvsOf, toLV, refsOf, slotL, slotO, mSeq, mBinO, mPart, mSl, ER.bind, ER.toS, ofO, dropS, List.foldr_cons, List.foldr_nil, List.getElem?_cons_zero, List.getElem?_cons_succ, List.set_cons_zero, List.set_cons_succ, List.length_cons, List.length_nil, List.map_cons, List.map_nil, Nat.reduceAdd, Nat.reduceSub, if_true, if_false, Bool.false_eq_true, Bool.not_true, Bool.not_false, eq_self, decide_true, decide_false, Nat.reduceLeDiff, Nat.reduceEqDiff, reduceCtorEq, add_f, sub_f, neg_f, int_f, intb_f, abs_f, lenl_f, lent_f, lt_f, le_f, gt_f, ge_f, eq_f, ne_f, permL1, permL2, isTup_t, tup0, tup1, PNx, PRt, PRs, PBk, PCt, pad, List.cons_append, List.nil_append, List.replicate, l1, l2, hm]
    refine hK _ ?_
    clear hK K
    refine P_seq fun K hK => ?_
    simp only [sSeq, SR.andThen, sIf, sSet_ap, sSetO, sAsg, pName_ap, pTup, pCons, pNil, Option.bind_some, Option.map_some, ofS, sPut, sExpr, sRet, sRetO, sRetV, sRetN, sSkip, sBreak, sPar, mBool, mBin, mUn, mCB, mCBL, mCons, mNil_ap, mPure, mVar, mOwn, mOwn1, mOwnR, mNot, mAnd, mOr, mAndV, mOrV, mIf, mOfB, mTruD, truD, mTup, mLst, mCold, mMut, mMut0, mMove, mCall, mKw, asD, asO, gConsD, gConsS, gNilA_ap, callRes, lvsOf, toLV, refsOf, slotL, slotO, mSeq, mBinO, mPart, mSl, ER.bind, ER.toS, ofO, dropS, List.foldr_cons, List.foldr_nil, List.getElem?_cons_zero, List.getElem?_cons_succ, List.set_cons_zero, List.set_cons_succ, List.length_cons, List.length_nil, List.map_cons, List.map_nil, Nat.reduceAdd, Nat.reduceSub, if_true, if_false, Bool.false_eq_true, Bool.not_true, Bool.not_false, eq_self, decide_true, decide_false, Nat.reduceLeDiff, Nat.reduceEqDiff, reduceCtorEq, add_f, sub_f, neg_f, int_f, intb_f, abs_f, lenl_f, lent_f, lt_f, le_f, gt_f, ge_f, eq_f, ne_f, permL1, permL2, isTup_t, tup0, tup1, PNx, PRt, PRs, PBk, PCt, l1, q1, r1, c1]
    refine hK _ ?_
    clear hK K
    refine P_seq fun K hK => ?_
    simp only [sSeq, SR.andThen, sIf, sSet_ap, sSetO, sAsg, pName_ap, pTup, pCons, pNil, Option.bind_some, Option.map_some, ofS, sPut, sExpr, sRet, sRetO, sRetV, sRetN, sSkip, sBreak, sPar, mBool, mBin, mUn, mCB, mCBL, mCons, mNil_ap, mPure, mVar, mOwn, mOwn1, mOwnR, mNot, mAnd, mOr, mAndV, mOrV, mIf, mOfB, mTruD, truD, mTup, mLst, mCold, mMut, mMut0, mMove, mCall, mKw, asD, asO, gConsD, gConsS, gNilA_ap, callRes, lvsOf, toLV, refsOf, slotL, slotO, mSeq, mBinO, mPart, mSl, ER.bind, ER.toS, ofO, dropS, List.foldr_cons, List.foldr_nil, List.getElem?_cons_zero, List.getElem?_cons_succ, List.set_cons_zero, List.set_cons_succ, List.length_cons, List.length_nil, List.map_cons, List.map_nil, Nat.reduceAdd, Nat.reduceSub, if_true, if_false, Bool.false_eq_true, Bool.not_true, Bool.not_false, eq_self, decide_true, decide_false, Nat.reduceLeDiff, Nat.reduceEqDiff, reduceCtorEq, add_f, sub_f, neg_f, int_f, intb_f, abs_f, lenl_f, lent_f, lt_f, le_f, gt_f, ge_f, eq_f, ne_f, permL1, permL2, isTup_t, tup0, tup1, PNx, PRt, PRs, PBk, PCt, l2, q2, r2, c2]
    refine hK _ ?_
    clear hK K
    obtain ⟨r, er, hr2⟩ := hT (addL a' b') (by rw [addL_len a' b' L la lb]; omega)
    have hq := hS a' b' L (by omega) la lb _ rfl
    have hcall := call1 hq er
    rw [ret_ok hcall, PRt]
    exact hR _ _ ⟨r, rfl, rfl, hr2.row, fun x => by rw [hr2.ev, ev_addL a' b' (by omega), ea, eb]⟩
  obtain ⟨v, o, e, r, rfl, rfl, h⟩ := key
  exact ⟨r, e, h⟩
end pw_threadsround_k01_whole_quotients_and_rowG

set_option Elab.async false
set_option linter.all false
set_option maxRecDepth 100000
set_option maxHeartbeats 400000
namespace Pu
open PySem PySem.Spec L2
theorem tup_ok {ms : M (List D)} {σ σ1 : Loc} {xs : List D} (h : ms σ = .ok xs σ1) (hl : xs.length ≤ 1000000) : mTup ms σ = .ok (.tuple xs) σ1 := by
  unfold mTup; rw [h]; show (if _ then _ else _) = _; rw [if_pos hl]
theorem mtup1 {a : M D} {σ σ1 : Loc} {x : D} (ha : a σ = .ok x σ1) : mTup (mCons a mNil) σ = .ok (.tuple [x]) σ1 := tup_ok (cons_ok ha rfl) (by simp)
theorem mtup2 {a b : M D} {σ σ1 σ2 : Loc} {x y : D} (ha : a σ = .ok x σ1) (hb : b σ1 = .ok y σ2) : mTup (mCons a (mCons b mNil)) σ = .ok (.tuple [x, y]) σ2 := tup_ok (cons_ok ha (cons_ok hb rfl)) (by simp)
theorem set_okE {i : Nat} {m : M D} {σ σ1 σ2 : Loc} {d : D} (h : m σ = .ok d σ1) (h2 : σ1.set i (some (.d d)) = σ2) : sSet i m σ = .nx σ2 := by rw [set_ok h, h2]
theorem Sz.one {n : Nat} : Sz (n + 1) 1 := by
  unfold Sz
  show 1 < 2 ^ (n + 1)
  rw [Nat.pow_succ]
  have := Nat.two_pow_pos n
  omega
theorem Sz.max {a b n : Nat} {x y : Int} (h : Sz a x) (k : Sz b y) (ha : a < n) (hb : b < n) : Sz n (x + y) := by
  have := (h.mono (b := n - 1) (by omega)).add (k.mono (b := n - 1) (by omega))
  rw [show n - 1 + 1 = n from by omega] at this
  exact this
end Pu
namespace pw_threadsround_k01_whole_quotients_and_rowG
open PySem PySem.Spec L2 Pu
/-- by Horner, without a division -/
def hi (p q : Int) : List Int → Int
  | [] => 0
  | c :: r => hi p q r * p + c * q ^ r.length
theorem last_drop {a : List Int} {k : Nat} (h : k < a.length) : a.drop (a.length - (k + 1)) = a[a.length - 1 - k]'(by omega) :: a.drop (a.length - k) := by
  rw [List.drop_eq_getElem_cons (by omega)]
  congr 2 <;> omega
theorem rev_get {a : List Int} {j : Nat} {d : D} (hd : (a.map PyData.int).reverse[j]? = some d) : ∃ hj : j < a.length, d = .int (a[a.length - 1 - j]'(by omega)) := by
  have hj : j < a.length := by
    have := (List.getElem?_eq_some_iff.mp hd).1
    rw [List.length_reverse, List.length_map] at this
    exact this
  refine ⟨hj, ?_⟩
  rw [List.getElem?_reverse (by rw [List.length_map]; exact hj), List.length_map, List.getElem?_map, List.getElem?_eq_getElem (by omega)] at hd
  exact (Option.some.inj hd).symm
theorem at_step {P p Q q Q1 P1 P2 Q2 c qk h : Int} (n1 : Q1 ≠ 0) (n2 : Q ≠ 0) (e1 : P1 * (Q * q) = P * p * Q1) (e2 : P2 * (Q1 * 1) = (P1 * 1 + c * Q1) * Q2) (e0 : P * qk = h * q * Q) : P2 * (qk * q) = (h * p + c * qk) * q * Q2 := by
  have h3 : P2 * (qk * q) * (Q1 * Q) = (h * p + c * qk) * q * Q2 * (Q1 * Q) := by grind
  exact Int.eq_of_mul_eq_mul_right (Int.mul_ne_zero n1 n2) h3
theorem e_row_at (a : List Int) (p q : Int) (h : GQ p q) (sp : Sz 98 p) (sq : Sz 99 q) (hl : a.length ≤ 8) (sa : ∀ y ∈ a, Sz 960 y) :
    ∃ P Q, m_row_at [.d (tu a), .d (qt p q)] = .ret (.d (qt P Q)) none ∧ GQ P Q ∧ Sz 1900 P ∧ Sz 1900 Q ∧ P * q ^ a.length = hi p q a * q * Q := by
  have key := P_ex (r := m_row_at [.d (tu a), .d (qt p q)]) (Φ := fun v o => ∃ P Q : Int, v = .d (qt P Q) ∧ o = none ∧ GQ P Q ∧ Sz 1900 P ∧ Sz 1900 Q ∧ P * q ^ a.length = hi p q a * q * Q) fun R X hR => by
    have e1 := e_is_quotient (qt p q) sm_qt
    rw [quot_t h] at e1
    have eP : ∀ P Q, GQ P Q → Sz 1900 P → Sz 1900 Q → m_times [.d (qt P Q), .d (qt p q)] = .ret (.d (qt (redP (P * p) (Q * q)) (redQ (P * p) (Q * q)))) none := fun P Q g s1 s2 => e_times (n := 1900) g h s1 s2 (sp.mono (by decide)) (sq.mono (by decide)) (by decide)
    have eA : ∀ P Q c, GQ P Q → Sz 2100 P → Sz 2100 Q → Sz 960 c → m_plus [.d (qt P Q), .d (qt c 1)] = .ret (.d (qt (redP (P * 1 + c * Q) (Q * 1)) (redQ (P * 1 + c * Q) (Q * 1)))) none := fun P Q c g s1 s2 s3 => e_plus (n := 2100) g ⟨by decide, by unfold Int.gcd; exact Nat.gcd_one_right _⟩ s1 s2 (s3.mono (by decide)) ((Sz.one (n := 0)).mono (by decide)) (by decide)
    unfold m_row_at
    generalize m_times = T at *
    generalize m_plus = U at *
    refine def_P ?_
    have hs : mRev (mVar 0) [some (.d (tu a)), some (.d (qt p q)), some (.d (qt 0 1)), none] = .ok (a.map PyData.int).reverse [some (.d (tu a)), some (.d (qt p q)), some (.d (qt 0 1)), none] := rfl
    generalize tu a = A at *
    refine P_seq fun K hK => ?_
    simp only [sSeq, SR.andThen, sIf, sSet_ap, sSetO, sAsg, pName_ap, pTup, pCons, pNil, Option.bind_some, Option.map_some, ofS, sPut, sExpr, sRet, sRetO, sRetV, sRetN, sSkip, sBreak, sPar, mBool, mBin, mUn, mCB, mCBL, mCons, mNil_ap, mPure, mVar, mOwn, mOwn1, mOwnR, mNot, mAnd, mOr, mAndV, mOrV, mIf, mOfB, mTruD, truD, mTup, mLst, mCold, mMut, mMut0, mMove, mCall, mKw, asD, asO, gConsD, gConsS, gNilA_ap, callRes, lvsOf, toLV, refsOf, slotL, slotO, mSeq, mBinO, mPart, mSl, ER.bind, ER.toS, ofO, dropS, List.foldr_cons, List.foldr_nil, List.getElem?_cons_zero, List.getElem?_cons_succ, List.set_cons_zero, List.set_cons_succ, List.length_cons, List.length_nil, List.map_cons, List.map_nil, Nat.reduceAdd, Nat.reduceSub, if_true, if_false, Bool.false_eq_true, Bool.not_true, Bool.not_false, eq_self, decide_true, decide_false, Nat.reduceLeDiff, Nat.reduceEqDiff, reduceCtorEq, add_f, sub_f, neg_f, int_f, intb_f, abs_f, lenl_f, lent_f, lt_f, le_f, gt_f, ge_f, eq_f, ne_f, permL1, permL2, isTup_t, tup0, tup1, PNx, PRt, PRs, PBk, PCt, pad, List.cons_append, List.nil_append, List.replicate, e1, e_need_t]
    refine hK _ ?_
    clear hK K
    have ht : sSet 2 (mTup (mCons (mPure (.int 0)) (mCons (mPure (.int 1)) mNil))) [some (.d A), some (.d (qt p q)), none, none] = .nx [some (.d A), some (.d (qt p q)), some (.d (qt 0 1)), none] := rfl
    refine P_seq' ?_
    rw [ht, PNx]
    refine P_seq' (P_for hs (fun j σ => ∃ (P Q : Int) (u : Option LV), σ = [some (.d A), some (.d (qt p q)), some (.d (qt P Q)), u] ∧ GQ P Q ∧ Sz (1061 + 100 * j) P ∧ Sz (1 + 100 * j) Q ∧ P * q ^ j = hi p q (a.drop (a.length - j)) * q * Q)
      ⟨0, 1, none, rfl, ⟨by decide, by decide⟩, Sz.zero, (Sz.one (n := 0)).mono (by omega), by rw [Nat.sub_zero, List.drop_length]; show 0 * _ = 0 * _ * _; rw [Int.zero_mul, Int.zero_mul, Int.zero_mul]⟩ (fun j d σ hd hi => ?_) fun σ hi => ?_)
    · obtain ⟨P, Q, u, rfl, g, s1, s2, he⟩ := hi
      obtain ⟨hj, rfl⟩ := rev_get hd
      refine ⟨_, rfl, ?_⟩
      have hc := sa _ (List.getElem_mem (show a.length - 1 - j < a.length by omega))
      have hld := last_drop hj
      generalize hcc : a[a.length - 1 - j]'(by omega) = c at *
      have hb : Q * q ≠ 0 := by have := Int.mul_pos g.pos h.pos; omega
      have f1 := eP P Q g (s1.mono (by omega)) (s2.mono (by omega))
      have g1 := red_ok (t := P * p) hb
      have z1 : Sz (1061 + 100 * j + 98) (redP (P * p) (Q * q)) := redP_sz (s1.mul sp)
      have z2 : Sz (1 + 100 * j + 99) (redQ (P * p) (Q * q)) := redQ_sz (s2.mul sq)
      have r1 := red_eq (t := P * p) (b := Q * q)
      generalize redP (P * p) (Q * q) = P1 at *
      generalize redQ (P * p) (Q * q) = Q1 at *
      have f2 := eA P1 Q1 c g1 (z1.mono (by omega)) (z2.mono (by omega)) hc
      have hb2 : Q1 * 1 ≠ 0 := by have := g1.pos; omega
      have g2 := red_ok (t := P1 * 1 + c * Q1) hb2
      have z3 : Sz (1061 + 100 * (j + 1)) (redP (P1 * 1 + c * Q1) (Q1 * 1)) := redP_sz (by rw [Int.mul_one]; exact Sz.max z1 (hc.mul z2) (by omega) (by omega))
      have z4 : Sz (1 + 100 * (j + 1)) (redQ (P1 * 1 + c * Q1) (Q1 * 1)) := redQ_sz (by rw [Int.mul_one]; exact z2.mono (by omega))
      have r2 := red_eq (t := P1 * 1 + c * Q1) (b := Q1 * 1)
      generalize redP (P1 * 1 + c * Q1) (Q1 * 1) = P2 at *
      generalize redQ (P1 * 1 + c * Q1) (Q1 * 1) = Q2 at *
      have hrun : sSet 2 (asD (mCall 2 U none (gConsD (asD (mCall 2 T none (gConsD (mVar 2) (gConsD (mVar 1) gNilA)))) (gConsD (mTup (mCons (mVar 3) (mCons (mPure (.int 1)) mNil))) gNilA)))) [some (.d A), some (.d (qt p q)), some (.d (qt P Q)), some (.d (.int c))] = .nx [some (.d A), some (.d (qt p q)), some (.d (qt P2 Q2)), some (.d (.int c))] :=
        set_okE (call2 (call2 rfl rfl f1) (mtup2 rfl rfl) f2) rfl
      show SR.P (sSet 2 _ [some (.d A), some (.d (qt p q)), some (.d (qt P Q)), some (.d (.int c))]) _
      rw [hrun, PNx]
      refine ⟨P2, Q2, _, rfl, g2, z3, z4, ?_⟩
      rw [hld]
      show _ = (hi p q _ * p + c * q ^ (a.drop (a.length - j)).length) * q * Q2
      rw [List.length_drop, show a.length - (a.length - j) = j from by omega, Int.pow_succ]
      exact at_step (by have := g1.pos; omega) (by have := g.pos; omega) r1 r2 he
    · obtain ⟨P, Q, u, rfl, g, s1, s2, he⟩ := hi
      rw [List.length_reverse, List.length_map] at s1 s2 he
      rw [Nat.sub_self, List.drop_zero] at he
      have hr : mVar 2 [some (.d A), some (.d (qt p q)), some (.d (qt P Q)), u] = .ok (qt P Q) [some (.d A), some (.d (qt p q)), some (.d (qt P Q)), u] := rfl
      rw [ret_ok hr, PRt]
      exact hR _ _ ⟨P, Q, rfl, rfl, g, s1.mono (by omega), s2.mono (by omega), he⟩
  obtain ⟨v, o, e, P, Q, rfl, rfl, h⟩ := key
  exact ⟨P, Q, e, h⟩
theorem row_at_x {x y : D} (hy : Sm y) (h : quotZ y = false) : m_row_at [.d x, .d y] = .raise (nu "value") none := by
  have e1 := e_is_quotient y hy
  rw [h] at e1
  unfold m_row_at
  refine P_raise (def_P ?_)
  (simp only [sSeq, SR.andThen, sIf, sSet_ap, sSetO, sAsg, pName_ap, pTup, pCons, pNil, Option.bind_some, Option.map_some, ofS, sPut, sExpr, sRet, sRetO, sRetV, sRetN, sSkip, sBreak, sPar, mBool, mBin, mUn, mCB, mCBL, mCons, mNil_ap, mPure, mVar, mOwn, mOwn1, mOwnR, mNot, mAnd, mOr, mAndV, mOrV, mIf, mOfB, mTruD, truD, mTup, mLst, mCold, mMut, mMut0, mMove, mCall, mKw, asD, asO, gConsD, gConsS, gNilA_ap, callRes, lvsOf, toLV, refsOf, slotL, slotO, mSeq, mBinO, mPart, mSl, ER.bind, ER.toS, ofO, dropS, List.foldr_cons, List.foldr_nil, List.getElem?_cons_zero, List.getElem?_cons_succ, List.set_cons_zero, List.set_cons_succ, List.length_cons, List.length_nil, List.map_cons, List.map_nil, Nat.reduceAdd, Nat.reduceSub, if_true, if_false, Bool.false_eq_true, Bool.not_true, Bool.not_false, eq_self, decide_true, decide_false, Nat.reduceLeDiff, Nat.reduceEqDiff, reduceCtorEq, add_f, sub_f, neg_f, int_f, intb_f, abs_f, lenl_f, lent_f, lt_f, le_f, gt_f, ge_f, eq_f, ne_f, permL1, permL2, isTup_t, tup0, tup1, PNx, PRt, PRs, PBk, PCt, pad, List.cons_append, List.nil_append, List.replicate, e1, e_need_f]; first | done | exact ⟨rfl, rfl⟩ | exact ⟨trivial, rfl⟩ | trivial)
end pw_threadsround_k01_whole_quotients_and_rowG

set_option Elab.async false
set_option linter.all false
set_option maxRecDepth 100000
set_option maxHeartbeats 400000
namespace Pu
open PySem PySem.Spec L2
/-- times (by + x), and a number more -/
def tl (by_ : Int) : Int → List Int → List Int
  | p, [] => [p]
  | p, a :: r => (p + by_ * a) :: tl by_ a r
theorem ev_tl (m : Int) : ∀ (p : Int) (l : List Int) (x : Int), ev (tl m p l) x = p + (m + x) * ev l x
  | p, [], x => by show p + x * 0 = p + _ * 0; omega
  | p, a :: r, x => by
    show (p + m * a) + x * ev (tl m a r) x = p + (m + x) * (a + x * ev r x)
    rw [ev_tl m a r x]
    grind
theorem len_tl (m : Int) : ∀ (p : Int) (l : List Int), (tl m p l).length = l.length + 1
  | p, [] => rfl
  | p, a :: r => by show (tl m a r).length + 1 = _; rw [len_tl m a r]; rfl
theorem row_tl (m : Int) : ∀ (p : Int) (l : List Int), Row (p :: l) → Row (tl m p l)
  | p, [], h => h
  | p, a :: r, h => by
    have h2 : Row (a :: r) := row_tail h
    have := row_tl m a r h2
    have hl : (tl m a r) ≠ [] := by intro e; have := len_tl m a r; rw [e] at this; simp at this
    unfold Pu.Row at *
    show ((p + m * a) :: tl m a r).getLast? ≠ _
    obtain ⟨b, s, e⟩ := List.exists_cons_of_ne_nil hl
    rw [e] at this ⊢
    rw [List.getLast?_cons_cons]
    exact this
end Pu
namespace pw_threadsround_k01_whole_quotients_and_rowG
open PySem PySem.Spec L2 Pu
theorem sz_sab {n : Nat} {ns : List Int} (h : sab ns < 2 ^ n) : ∀ y ∈ ns, Sz n y := fun y hy => by
  have := sab_mem ns y hy
  unfold Sz
  have e : ((2 ^ n : Nat) : Int) = (2 : Int) ^ n := by norm_cast
  omega
theorem sab_step {S n m k : Int} {b c : Int} {e1 e2 e3 : Nat} (h1 : S ≤ k * (b + 1) + c) (h2 : k < 2 ^ e1) (h3 : b < 2 ^ e2) (h4 : c < 2 ^ e1) (h0 : 0 ≤ k) (hb : 0 ≤ b) : S < 2 ^ (e1 + (e2 + 1)) := by
  have hp : (2 : Int) ^ (e1 + (e2 + 1)) = 2 ^ e1 * (2 ^ e2 * 2) := by rw [Int.pow_add, Int.pow_succ]
  have hp1 : (0 : Int) < 2 ^ e1 := Int.pow_pos (by decide)
  have hp2 : (0 : Int) < 2 ^ e2 := Int.pow_pos (by decide)
  rw [hp]
  generalize (2 : Int) ^ e1 = A at *
  generalize (2 : Int) ^ e2 = B at *
  have h5 : k * (b + 1) ≤ (A - 1) * B := Int.le_trans (Int.mul_le_mul_of_nonneg_left (show b + 1 ≤ B by omega) h0) (Int.mul_le_mul_of_nonneg_right (by omega) (by omega))
  have h6 : A * (B * 2) = A * B + A * B := by grind
  have h7 : A ≤ A * B := by
    have := Int.mul_le_mul_of_nonneg_left (show 1 ≤ B by omega) (show 0 ≤ A by omega)
    omega
  have h8 : (A - 1) * B = A * B - B := by grind
  omega
/-- what was moved: by its values, as long as before -/
structure Mov (a : List Int) (m : Int) (r : List Int) : Prop where
  row : Row r
  ev : ∀ x, ev r x = ev a (x + m)
  len : r.length = a.length
theorem row_drop {a : List Int} (h : Row a) (k : Nat) : Row (a.drop k) := by
  unfold Pu.Row at *
  rw [List.getLast?_drop]
  split
  · simp
  · exact h
theorem e_row_moved (a : List Int) (m : Int) (n k : Nat) (ha : Row a) (hl : a.length ≤ 8) (sa : ∀ y ∈ a, Sz n y) (sm : Sz k m) (hn : n + (k + 1) * 9 ≤ 300000) :
    ∃ r, m_row_moved [.d (tu a), .d (.int m)] = .ret (.d (tu r)) none ∧ Mov a m r ∧ sab r < 2 ^ (n + (k + 1) * a.length) := by
  have key := P_ex (r := m_row_moved [.d (tu a), .d (.int m)]) (Φ := fun v o => ∃ r, v = .d (tu r) ∧ o = none ∧ Mov a m r ∧ sab r < 2 ^ (n + (k + 1) * a.length)) fun R X hR => by
    have i1 : m_is_integer [.d (.int m)] = .ret (.d (.bool true)) none := rfl
    have eM : ∀ c : List Int, c.length ≤ 100 → (∀ y ∈ c, Sz 300000 y) → ∃ r, m_multiplied [.d (tu c), .d (.tuple [.int m, .int 1])] = .ret (.d (tu r)) none ∧ Prd c [m, 1] r := fun c h1 h2 => e_multiplied c [m, 1] 300000 h1 (by simp) h2 (fun y hy => by
      rcases List.mem_cons.mp hy with e | e
      · rw [e]; exact sm.mono (by omega)
      · rw [List.mem_singleton.mp e]; exact (Sz.one (n := 0)).mono (by decide)) (by decide)
    have eA : ∀ (c : List Int) (y : Int), c.length ≤ 500 → ∃ r, m_added [.d (tu c), .d (.tuple [.int y])] = .ret (.d (tu r)) none ∧ Sum c [y] r := fun c y h1 => e_added c [y] h1 (by simp)
    unfold m_row_moved
    generalize m_multiplied = T at *
    generalize m_added = U at *
    generalize m_is_integer = V at *
    refine def_P ?_
    have hs : mRev (mVar 0) [some (.d (tu a)), some (.d (.int m)), some (.d (.tuple [])), none] = .ok (a.map PyData.int).reverse [some (.d (tu a)), some (.d (.int m)), some (.d (.tuple [])), none] := rfl
    generalize tu a = A at *
    refine P_seq fun K hK => ?_
    simp only [sSeq, SR.andThen, sIf, sSet_ap, sSetO, sAsg, pName_ap, pTup, pCons, pNil, Option.bind_some, Option.map_some, ofS, sPut, sExpr, sRet, sRetO, sRetV, sRetN, sSkip, sBreak, sPar, mBool, mBin, mUn, mCB, mCBL, mCons, mNil_ap, mPure, mVar, mOwn, mOwn1, mOwnR, mNot, mAnd, mOr, mAndV, mOrV, mIf, mOfB, mTruD, truD, mTup, mLst, mCold, mMut, mMut0, mMove, mCall, mKw, asD, asO, gConsD, gConsS, gNilA_ap, callRes, lvsOf, toLV, refsOf, slotL, slotO, mSeq, mBinO, mPart, mSl, ER.bind, ER.toS, ofO, dropS, List.foldr_cons, List.foldr_nil, List.getElem?_cons_zero, List.getElem?_cons_succ, List.set_cons_zero, List.set_cons_succ, List.length_cons, List.length_nil, List.map_cons, List.map_nil, Nat.reduceAdd, Nat.reduceSub, if_true, if_false, Bool.false_eq_true, Bool.not_true, Bool.not_false, eq_self, decide_true, decide_false, Nat.reduceLeDiff, Nat.reduceEqDiff, reduceCtorEq, add_f, sub_f, neg_f, int_f, intb_f, abs_f, lenl_f, lent_f, lt_f, le_f, gt_f, ge_f, eq_f, ne_f, permL1, permL2, isTup_t, tup0, tup1, PNx, PRt, PRs, PBk, PCt, pad, List.cons_append, List.nil_append, List.replicate, i1, e_need_t]
    refine hK _ ?_
    clear hK K
    have ht : sSet 2 (mTup mNil) [some (.d A), some (.d (.int m)), none, none] = .nx [some (.d A), some (.d (.int m)), some (.d (.tuple [])), none] := rfl
    refine P_seq' ?_
    rw [ht, PNx]
    refine P_seq' (P_for hs (fun j σ => ∃ (r : List Int) (u : Option LV), σ = [some (.d A), some (.d (.int m)), some (.d (tu r)), u] ∧ Mov (a.drop (a.length - j)) m r ∧ sab r < 2 ^ (n + (k + 1) * j))
      ⟨[], none, rfl, ⟨row_n, fun x => by rw [Nat.sub_zero, List.drop_length]; rfl, by rw [Nat.sub_zero, List.drop_length]⟩, Int.pow_pos (by decide)⟩ (fun j d σ hd hi => ?_) fun σ hi => ?_)
    · obtain ⟨r, u, rfl, g, s⟩ := hi
      obtain ⟨hj, rfl⟩ := rev_get hd
      refine ⟨_, rfl, ?_⟩
      have hc := sa _ (List.getElem_mem (show a.length - 1 - j < a.length by omega))
      have hld := last_drop hj
      have hrd := row_drop ha (a.length - (j + 1))
      rw [hld] at hrd
      generalize hcc : a[a.length - 1 - j]'(by omega) = c at *
      have hrl := g.len
      rw [List.length_drop] at hrl
      have hkj : (k + 1) * j ≤ (k + 1) * 8 := Nat.mul_le_mul_left _ (by omega)
      obtain ⟨r1, f1, g1⟩ := eM r (by omega) fun y hy => (sz_sab s y hy).mono (by omega)
      have hl1 := g1.len
      have hl1 : r1.length ≤ r.length + 2 := hl1
      obtain ⟨r2, f2, g2⟩ := eA r1 c (by omega)
      have hrun : sSet 2 (asD (mCall 2 U none (gConsD (asD (mCall 2 T none (gConsD (mVar 2) (gConsD (mTup (mCons (mVar 1) (mCons (mPure (.int 1)) mNil))) gNilA)))) (gConsD (mTup (mCons (mVar 3) mNil)) gNilA)))) [some (.d A), some (.d (.int m)), some (.d (tu r)), some (.d (.int c))] = .nx [some (.d A), some (.d (.int m)), some (.d (tu r2)), some (.d (.int c))] :=
        set_okE (call2 (call2 rfl (mtup2 rfl rfl) f1) (mtup1 rfl) f2) rfl
      show SR.P (sSet 2 _ [some (.d A), some (.d (.int m)), some (.d (tu r)), some (.d (.int c))]) _
      rw [hrun, PNx]
      have hev : ∀ x, ev r2 x = ev (tl m c r) x := fun x => by
        have e1 := g2.ev x
        have e2 := g1.ev x
        have e3 : ev [c] x = c := by show c + x * 0 = c; omega
        have e4 : ev [m, 1] x = m + x := by show m + x * (1 + x * 0) = _; rw [Int.mul_zero, Int.add_zero, Int.mul_one]
        rw [ev_tl, e1, e2, e3, e4, Int.mul_comm (ev r x)]
        omega
      have hrow : Row (c :: r) := by
        cases r with
        | nil =>
          have h0 : a.drop (a.length - j) = [] := List.length_eq_zero_iff.mp (by rw [List.length_drop]; simp at hrl; omega)
          rw [h0] at hrd
          exact hrd
        | cons b s =>
          have := g.row
          unfold Pu.Row at *
          rw [List.getLast?_cons_cons]
          exact this
      have e2 : r2 = tl m c r := ev_uniq r2 _ 1 (by decide) g2.row (row_tl m c r hrow) fun x _ => hev x
      refine ⟨r2, _, rfl, ⟨g2.row, fun x => ?_, ?_⟩, ?_⟩
      · rw [hld, hev, ev_tl, g.ev]
        show c + _ = c + (x + m) * _
        rw [Int.add_comm m]
      · rw [hld, e2, len_tl, g.len]; rfl
      · have q1 := g2.sab
        have q2 := g1.sabs
        have q3 : sab [c] = (c.natAbs : Int) := by show (c.natAbs : Int) + 0 = _; omega
        have q4 : sab [m, 1] = (m.natAbs : Int) + 1 := by show (m.natAbs : Int) + (1 + 0) = _; omega
        rw [q3] at q1
        rw [q4] at q2
        have hm : (m.natAbs : Int) < 2 ^ k := by
          have e : ((2 ^ k : Nat) : Int) = (2 : Int) ^ k := by norm_cast
          unfold Sz at sm; omega
        have hcz : (c.natAbs : Int) < 2 ^ (n + (k + 1) * j) := by
          have hc2 := hc.mono (show n ≤ n + (k + 1) * j by omega)
          have e : ((2 ^ (n + (k + 1) * j) : Nat) : Int) = (2 : Int) ^ (n + (k + 1) * j) := by norm_cast
          unfold Sz at hc2; omega
        have := sab_step (S := sab r2) (n := 0) (m := 0) (e3 := 0) (k := sab r) (b := (m.natAbs : Int)) (c := (c.natAbs : Int)) (by omega) s hm hcz (sab_nn _) (by omega)
        rw [show n + (k + 1) * (j + 1) = n + (k + 1) * j + (k + 1) from by rw [Nat.mul_add]; omega]
        exact this
    · obtain ⟨r, u, rfl, g, s⟩ := hi
      rw [List.length_reverse, List.length_map] at g s
      rw [Nat.sub_self, List.drop_zero] at g
      have hr : mVar 2 [some (.d A), some (.d (.int m)), some (.d (tu r)), u] = .ok (tu r) [some (.d A), some (.d (.int m)), some (.d (tu r)), u] := rfl
      rw [ret_ok hr, PRt]
      exact hR _ _ ⟨r, rfl, rfl, g, s⟩
  obtain ⟨v, o, e, r, rfl, rfl, h⟩ := key
  exact ⟨r, e, h⟩
theorem row_moved_x {x y : D} (h : isZ y = false) : m_row_moved [.d x, .d y] = .raise (nu "by") none := by
  have e1 := e_is_integer y
  rw [h] at e1
  unfold m_row_moved
  refine P_raise (def_P ?_)
  (simp only [sSeq, SR.andThen, sIf, sSet_ap, sSetO, sAsg, pName_ap, pTup, pCons, pNil, Option.bind_some, Option.map_some, ofS, sPut, sExpr, sRet, sRetO, sRetV, sRetN, sSkip, sBreak, sPar, mBool, mBin, mUn, mCB, mCBL, mCons, mNil_ap, mPure, mVar, mOwn, mOwn1, mOwnR, mNot, mAnd, mOr, mAndV, mOrV, mIf, mOfB, mTruD, truD, mTup, mLst, mCold, mMut, mMut0, mMove, mCall, mKw, asD, asO, gConsD, gConsS, gNilA_ap, callRes, lvsOf, toLV, refsOf, slotL, slotO, mSeq, mBinO, mPart, mSl, ER.bind, ER.toS, ofO, dropS, List.foldr_cons, List.foldr_nil, List.getElem?_cons_zero, List.getElem?_cons_succ, List.set_cons_zero, List.set_cons_succ, List.length_cons, List.length_nil, List.map_cons, List.map_nil, Nat.reduceAdd, Nat.reduceSub, if_true, if_false, Bool.false_eq_true, Bool.not_true, Bool.not_false, eq_self, decide_true, decide_false, Nat.reduceLeDiff, Nat.reduceEqDiff, reduceCtorEq, add_f, sub_f, neg_f, int_f, intb_f, abs_f, lenl_f, lent_f, lt_f, le_f, gt_f, ge_f, eq_f, ne_f, permL1, permL2, isTup_t, tup0, tup1, PNx, PRt, PRs, PBk, PCt, pad, List.cons_append, List.nil_append, List.replicate, e1, e_need_f]; first | done | exact ⟨rfl, rfl⟩ | exact ⟨trivial, rfl⟩ | trivial)
end pw_threadsround_k01_whole_quotients_and_rowG

set_option Elab.async false
set_option linter.all false
set_option maxRecDepth 100000
set_option maxHeartbeats 400000
namespace Pu
open PySem PySem.Spec L2
theorem range1_okW {ms : M (List D)} {σ σ1 : Loc} {n : Int} (h : ms σ = .ok [.int n] σ1) (h0 : -1000000000 < n) (h1 : n < 1000000000) : mRange1 ms σ = .ok (rangeD 0 n.toNat) σ1 := by
  unfold mRange1; rw [h]
  show (if _ then _ else _) = _
  rw [if_pos ⟨by omega, by omega⟩]
/-! where a row of bools changes -/
def chg (bs : List Bool) (i : Nat) : Bool := !(bs.getD (i + 1) false == bs.getD i false)
def chgs (bs : List Bool) : Nat := ((List.range (bs.length - 1)).filter (chg bs)).length
theorem bool_ix (bs : List Bool) (i : Nat) (h : i < bs.length) : fIx (.list (bs.map PyData.bool)) (.int (i : Nat)) = some (.bool (bs.getD i false)) := by
  have e : (bs.map PyData.bool)[i]? = some (.bool (bs.getD i false)) := by rw [List.getElem?_map, List.getElem?_eq_getElem h, List.getD_eq_getElem?_getD, List.getElem?_eq_getElem h]; rfl
  exact ixl_f e
theorem ne_b (a b : Bool) : fNe (.bool a) (.bool b) = some (.bool (!(a == b))) := rfl
theorem ints_map (f : Nat → Int) : ∀ l : List Nat, intsOf (l.map fun i => .int (f i)) = some (l.map f)
  | [] => rfl
  | a :: r => by rw [List.map_cons, List.map_cons, intsOf, ints_map f r]; rfl
theorem sum_flags (p : Nat → Bool) : ∀ l : List Nat, (l.map fun i => if p i then (1 : Int) else 0).sum = ((l.filter p).length : Nat)
  | [] => rfl
  | a :: r => by
    rw [List.map_cons, List.sum_cons, sum_flags p r, List.filter_cons]
    cases p a
    · rw [if_neg (by simp), if_neg (by simp)]; omega
    · rw [if_pos rfl, if_pos rfl, List.length_cons]; omega
end Pu
namespace pw_threadsround_k01_whole_quotients_and_rowG
open PySem PySem.Spec L2 Pu
def sg : D → Bool | .int i => !decide (i = 0) | _ => false
def sf : D → D | .int i => .bool (decide (0 < i)) | _ => .none
theorem signs_of (a : List Int) : ∃ bs : List Bool, ((a.map PyData.int).filter sg).map sf = bs.map PyData.bool ∧ bs.length ≤ a.length := by
  induction a with
  | nil => exact ⟨[], rfl, Nat.le_refl _⟩
  | cons c r ih =>
    obtain ⟨bs, e, h⟩ := ih
    rw [List.map_cons, List.filter_cons]
    cases hc : sg (.int c) with
    | false => rw [if_neg (by simp)]; exact ⟨bs, e, by rw [List.length_cons]; omega⟩
    | true => rw [if_pos rfl]; exact ⟨decide (0 < c) :: bs, by rw [List.map_cons, e]; rfl, by rw [List.length_cons, List.length_cons]; omega⟩
def signS : S := sSet 1 (mCold (mComp (mSeq (mVar 0)) (pName 2) (mBool (mBin fNe (mVar 2) (mPure (.int 0)))) (mBin fGt (mVar 2) (mPure (.int 0))) [2]))
theorem sign_ok (a : List Int) (hl : a.length ≤ 1000) (bs : List Bool) (e : ((a.map PyData.int).filter sg).map sf = bs.map PyData.bool) (u : Option LV) : signS [some (.d (tu a)), none, none, u] = .nx [some (.d (tu a)), some (.d (.list (bs.map PyData.bool))), none, u] := by
  refine set_okE (d := .list (bs.map PyData.bool)) (σ1 := [some (.d (tu a)), none, none, u]) (cold_ok ?_) rfl
  have hs : mSeq (mVar 0) [some (.d (tu a)), none, none, u] = .ok (a.map PyData.int) [some (.d (tu a)), none, none, u] := rfl
  refine comp_eq hs (by rw [List.length_map]; omega) (σ2 := [some (.d (tu a)), none, none, u]) rfl ?_
  generalize tu a = A at *
  rw [← e]
  refine comp_filter (σ := [some (.d A), none, none, u]) sg sf _ [] fun d hd => ?_
  obtain ⟨i, _, rfl⟩ := List.mem_map.mp hd
  refine ⟨[some (.d A), none, some (.d (.int i)), u], [some (.d A), none, some (.d (.int i)), u], rfl, rfl, fun _ => rfl, fun _ => ⟨[some (.d A), none, some (.d (.int i)), u], rfl, rfl⟩⟩
theorem e_sign_changes (a : List Int) (hl : a.length ≤ 1000) (bs : List Bool) (e : ((a.map PyData.int).filter sg).map sf = bs.map PyData.bool) (hb : bs.length ≤ a.length) : m_sign_changes [.d (tu a)] = .ret (.d (.int (chgs bs : Nat))) none := by
  have hS := sign_ok a hl bs e none
  unfold m_sign_changes
  refine P_eq (def_P ?_)
  show SR.P (sSeq signS _ [some (.d (tu a)), none, none, none]) _
  refine P_seq' ?_
  rw [hS, PNx]
  generalize tu a = A at *
  obtain ⟨n, hn⟩ : ∃ n : Nat, n = bs.length := ⟨_, rfl⟩
  obtain ⟨σ, hσ⟩ : ∃ σ : Pu.Loc, σ = [some (.d A), some (.d (.list (bs.map PyData.bool))), none, none] := ⟨_, rfl⟩
  rw [← hσ]
  have hr : mRange2 (mCons (mPure (.int 1)) (mCons (mCB gLen (mCons (mVar 1) mNil)) mNil)) σ = .ok (rangeD 1 ((n : Nat) - 1 : Int).toNat) σ := range2_ok (m := (n : Nat)) (by
    subst hσ
    exact cons_ok rfl (cons_ok (cb_ok (cons_ok rfl rfl) (by rw [lenl_f, List.length_map, ← hn])) rfl)) (by omega) (by omega) (by omega) (by omega)
  have hn1 : ((n : Nat) - 1 : Int).toNat = n - 1 := by omega
  rw [hn1] at hr
  let g : D → Bool := fun | .int z => chg bs (z - 1).toNat | _ => false
  have hcomp := comp_filter (pt := pName 3) (t := mBool (mBin fNe (mBin fIx (mVar 1) (mVar 3)) (mBin fIx (mVar 1) (mBin fSub (mVar 3) (mPure (.int 1)))))) (me := mVar 3) (vs := [3]) (σ := σ) g id (rangeD 1 (n - 1)) [] fun d hd => by
    obtain ⟨i, hi, rfl⟩ := rangeD_mem hd
    have i1 := bool_ix bs (i + 1) (by omega)
    have i2 := bool_ix bs i (by omega)
    have hz : ((i + 1 : Nat) : Int) = 1 + (i : Int) := by omega
    rw [hz] at i1
    have hz2 : (1 + (i : Int)) - 1 = (i : Nat) := by omega
    have hg : g (.int (1 + (i : Int))) = chg bs i := by show chg bs (1 + (i : Int) - 1).toNat = _; rw [hz2, Int.toNat_natCast]
    have hs : fSub (.int (1 + (i : Int))) (.int 1) = some (.int (i : Nat)) := by rw [sub_f, hz2]
    subst hσ
    rw [hg]
    generalize PyData.list (bs.map PyData.bool) = L at *
    generalize PyData.int (1 + (i : Int)) = di at *
    generalize PyData.int ((i : Nat) : Int) = dj at *
    refine ⟨[some (.d A), some (.d L), none, some (.d di)], [some (.d A), some (.d L), none, some (.d di)], rfl, ?_, fun _ => rfl, fun _ => ⟨[some (.d A), some (.d L), none, some (.d di)], rfl, rfl⟩⟩
    exact bool_ok (bin_ok (bin_ok rfl rfl i1) (bin_ok rfl (bin_ok rfl rfl hs) i2) (ne_b _ _))
  have hfin : mCB gLen (mCons (mCold (mComp (mRange2 (mCons (mPure (.int 1)) (mCons (mCB gLen (mCons (mVar 1) mNil)) mNil))) (pName 3) (mBool (mBin fNe (mBin fIx (mVar 1) (mVar 3)) (mBin fIx (mVar 1) (mBin fSub (mVar 3) (mPure (.int 1)))))) (mVar 3) [3])) mNil) σ = .ok (.int (chgs bs : Nat)) σ := by
    refine cb_ok (ds := [.list (((rangeD 1 (n - 1)).filter g).map id)]) (cons_ok (cold_ok (comp_eq hr (by rw [rangeD_len]; omega) (σ2 := σ) (by subst hσ; rfl) hcomp)) rfl) ?_
    rw [lenl_f, List.map_id]
    unfold rangeD chgs
    rw [List.filter_map, List.length_map, ← hn]
    congr 3
    refine congrArg List.length (List.filter_congr fun i _ => ?_)
    show chg bs (1 + (i : Int) - 1).toNat = _
    rw [show (1 + (i : Int) - 1) = (i : Nat) from by omega, Int.toNat_natCast]
  show SR.P (sRet _ σ) _
  rw [ret_ok hfin, PRt]
  exact ⟨rfl, rfl⟩
theorem e__law_changes (a : List Int) (hl : a.length ≤ 1000) (bs : List Bool) (e : ((a.map PyData.int).filter sg).map sf = bs.map PyData.bool) (hb : bs.length ≤ a.length) : m__law_changes [.d (tu a)] = .ret (.d (.int (chgs bs : Nat))) none := by
  have hS := sign_ok a hl bs e none
  unfold m__law_changes
  refine P_eq (def_P ?_)
  show SR.P (sSeq signS _ [some (.d (tu a)), none, none, none]) _
  refine P_seq' ?_
  rw [hS, PNx]
  generalize tu a = A at *
  obtain ⟨n, hn⟩ : ∃ n : Nat, n = bs.length := ⟨_, rfl⟩
  obtain ⟨σ, hσ⟩ : ∃ σ : Pu.Loc, σ = [some (.d A), some (.d (.list (bs.map PyData.bool))), none, none] := ⟨_, rfl⟩
  rw [← hσ]
  have hr : mRange1 (mCons (mBin fSub (mCB gLen (mCons (mVar 1) mNil)) (mPure (.int 1))) mNil) σ = .ok (rangeD 0 ((n : Nat) - 1 : Int).toNat) σ := range1_okW (n := (n : Nat) - 1) (by
    subst hσ
    exact cons_ok (bin_ok (cb_ok (cons_ok rfl rfl) (by rw [lenl_f, List.length_map, ← hn])) rfl sub_f) rfl) (by omega) (by omega)
  have hn1 : ((n : Nat) - 1 : Int).toNat = n - 1 := by omega
  rw [hn1] at hr
  let f : D → D := fun | .int z => .int (if chg bs z.toNat then 1 else 0) | _ => .none
  have hcomp := comp_map (pt := pName 3) (t := mPure true) (me := mCB gInt (mCons (mBin fNe (mBin fIx (mVar 1) (mVar 3)) (mBin fIx (mVar 1) (mBin fAdd (mVar 3) (mPure (.int 1))))) mNil)) (vs := [3]) (σ := σ) f (rangeD 0 (n - 1)) [] fun d hd => by
    obtain ⟨i, hi, rfl⟩ := rangeD_mem hd
    have i1 := bool_ix bs (i + 1) (by omega)
    have i2 := bool_ix bs i (by omega)
    have hz : (0 : Int) + (i : Nat) = (i : Nat) := by omega
    rw [hz]
    have hg : f (.int (i : Nat)) = .int (if (!(bs.getD i false == bs.getD (i + 1) false)) then 1 else 0) := by
      show PyData.int (if chg bs (Int.toNat ((i : Nat) : Int)) then 1 else 0) = _
      rw [Int.toNat_natCast]
      unfold chg
      rw [Bool.beq_comm]
    have hs : fAdd (.int (i : Nat)) (.int 1) = some (.int (i + 1 : Nat)) := by rw [add_f]; rfl
    subst hσ
    rw [hg]
    generalize PyData.list (bs.map PyData.bool) = L at *
    generalize PyData.int ((i : Nat) : Int) = di at *
    generalize PyData.int ((i + 1 : Nat) : Int) = dj at *
    refine ⟨[some (.d A), some (.d L), none, some (.d di)], [some (.d A), some (.d L), none, some (.d di)], [some (.d A), some (.d L), none, some (.d di)], rfl, rfl, ?_, rfl⟩
    exact cb_ok (cons_ok (bin_ok (bin_ok rfl rfl i2) (bin_ok rfl (bin_ok rfl rfl hs) i1) (ne_b _ _)) rfl) intb_f
  have hfin : mCB (fun ds => (lst1 ds).bind hSum) (mCons (mCold (mComp (mRange1 (mCons (mBin fSub (mCB gLen (mCons (mVar 1) mNil)) (mPure (.int 1))) mNil)) (pName 3) (mPure true) (mCB gInt (mCons (mBin fNe (mBin fIx (mVar 1) (mVar 3)) (mBin fIx (mVar 1) (mBin fAdd (mVar 3) (mPure (.int 1))))) mNil)) [3])) mNil) σ = .ok (.int (chgs bs : Nat)) σ := by
    refine cb_ok (ds := [.list ((rangeD 0 (n - 1)).map f)]) (cons_ok (cold_ok (comp_eq hr (by rw [rangeD_len]; omega) (σ2 := σ) (by subst hσ; rfl) hcomp)) rfl) ?_
    show hSum _ = _
    unfold hSum rangeD
    have em : ((List.range (n - 1)).map fun i => PyData.int (0 + (i : Nat))).map f = (List.range (n - 1)).map fun i => .int (if chg bs i then 1 else 0) := by
      rw [List.map_map]
      refine List.map_congr_left fun i _ => ?_
      show PyData.int (if chg bs (0 + (i : Int)).toNat then 1 else 0) = _
      rw [Int.zero_add, Int.toNat_natCast]
    rw [em, ints_map, Option.map_some, sum_flags]
    unfold chgs
    rw [← hn]
  show SR.P (sRet _ σ) _
  rw [ret_ok hfin, PRt]
  exact ⟨rfl, rfl⟩
end pw_threadsround_k01_whole_quotients_and_rowG

set_option Elab.async false
set_option linter.all false
set_option maxRecDepth 100000
set_option maxHeartbeats 400000
namespace Pu
open PySem PySem.Spec L2
theorem ev_sz {n m : Nat} {x : Int} (sx : Sz m x) : ∀ (a : List Int), (∀ y ∈ a, Sz n y) → Sz (a.length * (m + 1) + n + 1) (ev a x)
  | [], _ => Sz.zero
  | c :: r, h => by
    show Sz _ (c + x * ev r x)
    have h1 := ev_sz sx r fun y hy => h y (List.mem_cons_of_mem _ hy)
    have h2 := h c (List.mem_cons_self ..)
    refine Sz.max h2 (sx.mul h1) ?_ ?_ <;> (rw [List.length_cons, Nat.add_mul]; omega)
theorem seqT_ok {m : M D} {σ σ1 : Loc} {xs : List D} (h : m σ = .ok (.tuple xs) σ1) : mSeq m σ = .ok xs σ1 := by unfold mSeq; rw [h]; rfl
theorem sum_abs : ∀ a : List Int, (a.map fun x => ((x.natAbs : Nat) : Int)).sum = sab a
  | [] => rfl
  | c :: r => by rw [List.map_cons, List.sum_cons, sum_abs r]; rfl
theorem ints_mapZ (f : Int → Int) : ∀ l : List Int, intsOf (l.map fun i => .int (f i)) = some (l.map f)
  | [] => rfl
  | a :: r => by rw [List.map_cons, List.map_cons, intsOf, ints_mapZ f r]; rfl
theorem sab_sz {n : Nat} : ∀ a : List Int, a.length ≤ 8 → (∀ y ∈ a, Sz n y) → sab a ≤ a.length * 2 ^ n
  | [], _, _ => by show (0 : Int) ≤ 0 * _; omega
  | c :: r, hl, h => by
    show (c.natAbs : Int) + sab r ≤ ((r.length + 1 : Nat) : Int) * _
    have h1 := sab_sz r (by rw [List.length_cons] at hl; omega) fun y hy => h y (List.mem_cons_of_mem _ hy)
    have h2 := h c (List.mem_cons_self ..)
    have e : ((2 ^ n : Nat) : Int) = (2 : Int) ^ n := by norm_cast
    unfold Sz at h2
    rw [Int.natCast_add, Int.add_mul]
    omega
end Pu
namespace pw_threadsround_k01_whole_quotients_and_rowG
open PySem PySem.Spec L2 Pu
theorem wide_sz {a : List Int} (h : Poly a) : Sz 966 (4 + 4 * sab a) := by
  have h1 := sab_sz a h.len h.sz
  have h2 := sab_nn a
  have h3 : (a.length : Int) * 2 ^ 960 ≤ 8 * 2 ^ 960 := Int.mul_le_mul_of_nonneg_right (by have := h.len; omega) (by decide +kernel)
  have h4 : (4 : Int) + 4 * (8 * 2 ^ 960) < 2 ^ 966 := by decide +kernel
  exact Sz.of (by generalize (2:Int) ^ 966 = A at *; generalize (2:Int)^960 = B at *; omega) (by generalize (2:Int) ^ 966 = A at *; generalize (2:Int)^960 = B at *; omega)
theorem e__law_product (a b r : List Int) (ha : Poly a) (hb : Poly b) (hr : Prd a b r) : m__law_product [.d (tu r), .d (tu a), .d (tu b)] = .ret (.d (.bool true)) none := by
  obtain ⟨W, hW⟩ : ∃ W : Int, W = 4 * (4 + 4 * sab a) * (4 + 4 * sab b) := ⟨_, rfl⟩
  have za := wide_sz ha
  have zb := wide_sz hb
  have z4 : Sz 3 4 := by unfold Sz; decide
  have zW : Sz 1935 W := by rw [hW]; exact (z4.mul za).mul zb
  have hrl := hr.len
  have hal := ha.len
  have hbl := hb.len
  have zr : ∀ y ∈ r, Sz 1935 y := fun y hy => by
    have h1 := hr.sab y hy
    have h2 := sab_nn a
    have h3 := sab_nn b
    have h4 : sab a * sab b ≤ W := by rw [hW]; generalize sab a = A at *; generalize sab b = B at *; have := Int.mul_nonneg h2 h3; grind
    unfold Sz at zW ⊢
    omega
  have lt : ∀ y ∈ r, decide (W ≤ 2 * ((y.natAbs : Nat) : Int)) = false := fun y hy => decide_eq_false (by
    have h1 := hr.sab y hy
    have h2 := sab_nn a
    have h3 := sab_nn b
    have h4 : 2 * (sab a * sab b) < W := by rw [hW]; generalize sab a = A at *; generalize sab b = B at *; have := Int.mul_nonneg h2 h3; grind
    omega)
  have e0 := e__law_is_row hr.row (show r.length ≤ 1000 by omega)
  have eat1 := e__law_at r W 1935 1935 zr zW (by have : r.length * (1935 + 1) ≤ 16 * 1936 := Nat.mul_le_mul_right _ (by omega); omega)
  have eat2 := e__law_at a W 960 1935 ha.sz zW (by have : a.length * (1935 + 1) ≤ 8 * 1936 := Nat.mul_le_mul_right _ (by omega); omega)
  have eat3 := e__law_at b W 960 1935 hb.sz zW (by have : b.length * (1935 + 1) ≤ 8 * 1936 := Nat.mul_le_mul_right _ (by omega); omega)
  have zea := ev_sz zW a ha.sz
  have zeb := ev_sz zW b hb.sz
  have hm := mulS zea zeb (by
    have : a.length * (1935 + 1) ≤ 8 * 1936 := Nat.mul_le_mul_right _ (by omega)
    have : b.length * (1935 + 1) ≤ 8 * 1936 := Nat.mul_le_mul_right _ (by omega)
    omega)
  rw [← hr.ev W] at hm
  unfold m__law_product
  generalize m__law_is_row = V at *
  generalize m__law_at = T at *
  refine P_eq (def_P ?_)
  have l1 : gLen [tu r] = some (.int (r.length : Nat)) := by rw [lent_f, List.length_map]
  have hd : decide ((16 : Int) < (r.length : Nat)) = false := decide_eq_false (by omega)
  have hsr : ∀ u v, mSeq (mVar 0) [some (.d (tu r)), some (.d (tu a)), some (.d (tu b)), some (.d (.int W)), u, v] = .ok (r.map PyData.int) [some (.d (tu r)), some (.d (tu a)), some (.d (tu b)), some (.d (.int W)), u, v] := fun _ _ => rfl
  have hcomp : ∀ (c : List Int), c.length ≤ 8 → ∀ (w : D) σ, σ = [some (.d (tu r)), some (.d (tu a)), some (.d (tu b)), some (.d w), some (.d (tu c)), none] →
      mCB (fun ds => (lst1 ds).bind hSum) (mCons (mCold (mComp (mSeq (mVar 4)) (pName 5) (mPure true) (mCB gAbs (mCons (mVar 5) mNil)) [5])) mNil) σ = .ok (.int (sab c)) σ := fun c hc w σ hσ => by
    have hs : mSeq (mVar 4) σ = .ok (c.map PyData.int) σ := by subst hσ; rfl
    let f : D → D := fun | .int z => .int (z.natAbs : Nat) | _ => .none
    have hk := comp_map (pt := pName 5) (t := mPure true) (me := mCB gAbs (mCons (mVar 5) mNil)) (vs := [5]) (σ := σ) f (c.map PyData.int) [] fun d hd => by
      obtain ⟨i, _, rfl⟩ := List.mem_map.mp hd
      subst hσ
      generalize tu r = R at *
      generalize tu a = A at *
      generalize tu b = B at *
      generalize tu c = C at *
      refine ⟨[some (.d R), some (.d A), some (.d B), some (.d w), some (.d C), some (.d (.int i))], _, [some (.d R), some (.d A), some (.d B), some (.d w), some (.d C), some (.d (.int i))], rfl, rfl, ?_, rfl⟩
      exact cb_ok (cons_ok rfl rfl) (by rw [abs_f, abs_na])
    refine cb_ok (ds := [.list ((c.map PyData.int).map f)]) (cons_ok (cold_ok (comp_eq hs (by rw [List.length_map]; omega) (σ2 := σ) (by subst hσ; rfl) hk)) rfl) ?_
    show hSum _ = _
    unfold hSum
    rw [List.map_map, show (f ∘ PyData.int) = fun i => .int ((i.natAbs : Nat) : Int) from rfl, ints_mapZ (fun i => ((i.natAbs : Nat) : Int)), Option.map_some, sum_abs]
  have mA := mulS z4 za (by decide)
  have mB : fMul (.int (4 * (4 + 4 * sab a))) (.int (4 + 4 * sab b)) = some (.int W) := by rw [hW]; exact mulS (z4.mul za) zb (by decide)
  have m4 : ∀ c : List Int, Sz 966 (4 + 4 * sab c) → fMul (.int 4) (.int (sab c)) = some (.int (4 * sab c)) := fun c h => mulS (b := 970) z4 (by
    have := sab_nn c
    unfold Sz at *
    have : (2 : Nat) ^ 966 ≤ 2 ^ 970 := Nat.pow_le_pow_right (by decide) (by decide)
    omega) (by decide)
  have mC := m4 a za
  have mD := m4 b zb
  generalize mCB (fun ds => (lst1 ds).bind hSum) (mCons (mCold (mComp (mSeq (mVar 4)) (pName 5) (mPure true) (mCB gAbs (mCons (mVar 5) mNil)) [5])) mNil) = Q at *
  have hca := fun w => hcomp a hal w _ rfl
  have hcb := fun w => hcomp b hbl w _ rfl
  have mE : ∀ y ∈ r, fMul (.int 2) (.int ((y.natAbs : Nat) : Int)) = some (.int (2 * ((y.natAbs : Nat) : Int))) := fun y hy => mulS (a := 2) (b := 1935) (by unfold Sz; decide) (by have := zr y hy; unfold Sz at *; omega) (by decide)
  generalize tu r = R at *
  generalize tu a = A at *
  generalize tu b = B at *
  refine P_seq fun K hK => ?_
  simp only [sSeq, SR.andThen, sIf, sSet_ap, sSetO, sAsg, pName_ap, pTup, pCons, pNil, Option.bind_some, Option.map_some, ofS, sPut, sExpr, sRet, sRetO, sRetV, sRetN, sSkip, sBreak, sPar, mBool, mBin, mUn, mCB, mCBL, mCons, mNil_ap, mPure, mVar, mOwn, mOwn1, mOwnR, mNot, mAnd, mOr, mAndV, mOrV, mIf, mOfB, mTruD, truD, mTup, mLst, mCold, mMut, mMut0, mMove, mCall, mKw, asD, asO, gConsD, gConsS, gNilA_ap, callRes, lvsOf, toLV, refsOf, slotL, slotO, mSeq, mBinO, mPart, mSl, ER.bind, ER.toS, ofO, dropS, List.foldr_cons, List.foldr_nil, List.getElem?_cons_zero, List.getElem?_cons_succ, List.set_cons_zero, List.set_cons_succ, List.length_cons, List.length_nil, List.map_cons, List.map_nil, Nat.reduceAdd, Nat.reduceSub, if_true, if_false, Bool.false_eq_true, Bool.not_true, Bool.not_false, eq_self, decide_true, decide_false, Nat.reduceLeDiff, Nat.reduceEqDiff, reduceCtorEq, add_f, sub_f, neg_f, int_f, intb_f, abs_f, lenl_f, lent_f, lt_f, le_f, gt_f, ge_f, eq_f, ne_f, permL1, permL2, isTup_t, tup0, tup1, PNx, PRt, PRs, PBk, PCt, pad, List.cons_append, List.nil_append, List.replicate, e0, l1, hd]
  refine hK _ ?_
  clear hK K
  have h4 : sSet 3 (mPure (.int 4)) [some (.d R), some (.d A), some (.d B), none, none, none] = .nx [some (.d R), some (.d A), some (.d B), some (.d (.int 4)), none, none] := rfl
  refine P_seq' ?_
  rw [h4, PNx]
  have htt : mSeq (mTup (mCons (mVar 1) (mCons (mVar 2) mNil))) [some (.d R), some (.d A), some (.d B), some (.d (.int 4)), none, none] = .ok [A, B] [some (.d R), some (.d A), some (.d B), some (.d (.int 4)), none, none] := by
    exact seqT_ok (mtup2 rfl rfl)
  have hb1 : sSet 3 (mBin fMul (mVar 3) (mBin fAdd (mPure (.int 4)) (mBin fMul (mPure (.int 4)) Q))) [some (.d R), some (.d A), some (.d B), some (.d (.int 4)), some (.d A), none] = .nx [some (.d R), some (.d A), some (.d B), some (.d (.int (4 * (4 + 4 * sab a)))), some (.d A), none] :=
    set_okE (bin_ok rfl (bin_ok rfl (bin_ok rfl (hca _) mC) add_f) mA) rfl
  have hb2 : sSet 3 (mBin fMul (mVar 3) (mBin fAdd (mPure (.int 4)) (mBin fMul (mPure (.int 4)) Q))) [some (.d R), some (.d A), some (.d B), some (.d (.int (4 * (4 + 4 * sab a)))), some (.d B), none] = .nx [some (.d R), some (.d A), some (.d B), some (.d (.int W)), some (.d B), none] :=
    set_okE (bin_ok rfl (bin_ok rfl (bin_ok rfl (hcb _) mD) add_f) mB) rfl
  have hfor : sFor (mSeq (mTup (mCons (mVar 1) (mCons (mVar 2) mNil)))) (pName 4) (sSet 3 (mBin fMul (mVar 3) (mBin fAdd (mPure (.int 4)) (mBin fMul (mPure (.int 4)) Q)))) [some (.d R), some (.d A), some (.d B), some (.d (.int 4)), none, none] = .nx [some (.d R), some (.d A), some (.d B), some (.d (.int W)), some (.d B), none] := by
    rw [for_ok htt, forD_c, pName_ap]
    show SR.turn (sSet 3 _ [some (.d R), some (.d A), some (.d B), some (.d (.int 4)), some (.d A), none]) _ = _
    rw [hb1, turn_nx, forD_c, pName_ap]
    show SR.turn (sSet 3 _ [some (.d R), some (.d A), some (.d B), some (.d (.int (4 * (4 + 4 * sab a)))), some (.d B), none]) _ = _
    rw [hb2, turn_nx, forD_n]
  refine P_seq' ?_
  rw [hfor, PNx]
  refine P_seq' (P_for (hsr _ _) (fun _ σ => ∃ u, σ = [some (.d R), some (.d A), some (.d B), some (.d (.int W)), some (.d B), u]) ⟨_, rfl⟩ (fun k d σ hx hI => ?_) fun σ hI => ?_)
  · obtain ⟨u, rfl⟩ := hI
    rw [List.getElem?_map] at hx
    obtain ⟨i, hi, rfl⟩ := Option.map_eq_some_iff.mp hx
    have hi := List.mem_of_getElem? hi
    refine ⟨_, rfl, ?_⟩
    have d0 := lt i hi
    have m0 := mE i hi
    have hc : mBool (mBin fGe (mBin fMul (mPure (.int 2)) (mCB gAbs (mCons (mVar 5) mNil))) (mVar 3)) [some (.d R), some (.d A), some (.d B), some (.d (.int W)), some (.d B), some (.d (.int i))] = .ok false [some (.d R), some (.d A), some (.d B), some (.d (.int W)), some (.d B), some (.d (.int i))] :=
      bool_ok (bin_ok (bin_ok rfl (cb_ok (cons_ok rfl rfl) (by rw [abs_f, abs_na])) m0) rfl (by rw [ge_f, d0]))
    refine P_if hc (fun h => by cases h) fun _ => ?_
    show SR.P (.nx _) _
    rw [PNx]
    exact ⟨_, rfl⟩
  · obtain ⟨u, rfl⟩ := hI
    have hret : mBin fEq (asD (mCall 2 T none (gConsD (mVar 0) (gConsD (mVar 3) gNilA)))) (mBin fMul (asD (mCall 2 T none (gConsD (mVar 1) (gConsD (mVar 3) gNilA)))) (asD (mCall 2 T none (gConsD (mVar 2) (gConsD (mVar 3) gNilA))))) [some (.d R), some (.d A), some (.d B), some (.d (.int W)), some (.d B), u] = .ok (.bool true) [some (.d R), some (.d A), some (.d B), some (.d (.int W)), some (.d B), u] :=
      bin_ok (call2 rfl rfl eat1) (bin_ok (call2 rfl rfl eat2) (call2 rfl rfl eat3) hm) (by rw [eq_f, decide_eq_true rfl])
    rw [ret_ok hret, PRt]
    exact ⟨rfl, rfl⟩
end pw_threadsround_k01_whole_quotients_and_rowG

set_option Elab.async false
set_option linter.all false
set_option maxRecDepth 100000
set_option maxHeartbeats 400000
namespace pw_threadsround_k01_whole_quotients_and_rowG
open PySem PySem.Spec L2 Pu
theorem same_rows (ns : List Int) (h : ns.length ≤ 1000) : m__law_same 8 [.d (tu ns), .d (tu ns)] = .ret (.d (.bool true)) none := same_ints 6 ns (by omega)
theorem e__law_moved (a : List Int) (m : Int) (ha : Poly a) (sm : Sz 98 m) : m__law_moved [.d (tu a), .d (.int m)] = .ret (.d (.bool true)) none := by
  have hal := ha.len
  obtain ⟨r, e1, g1, s1⟩ := e_row_moved a m 960 98 ha.row hal ha.sz sm (by decide)
  have s1 : sab r < 2 ^ 1752 := Int.lt_of_lt_of_le s1 (by
    have h1 : 960 + (98 + 1) * a.length ≤ 1752 := by omega
    have h2 : (2 : Nat) ^ (960 + (98 + 1) * a.length) ≤ 2 ^ 1752 := Nat.pow_le_pow_right (by decide) h1
    have e : ((2 ^ (960 + (98 + 1) * a.length) : Nat) : Int) = (2 : Int) ^ (960 + (98 + 1) * a.length) := by norm_cast
    have e' : ((2 ^ 1752 : Nat) : Int) = (2 : Int) ^ 1752 := by norm_cast
    rw [← e, ← e']
    exact Int.ofNat_le.mpr h2)
  have zr := sz_sab s1
  have hrl := g1.len
  obtain ⟨r2, e2, g2, _⟩ := e_row_moved r (-m) 1752 98 g1.row (by omega) zr sm.neg (by decide)
  have hr2 : r2 = a := ev_uniq r2 a 1 (by decide) g2.row ha.row fun x _ => by
    rw [g2.ev, g1.ev]
    congr 1
    omega
  subst hr2
  have e0 := e__law_is_row g1.row (show r.length ≤ 1000 by omega)
  have es := same_rows r2 (by omega)
  have zk : ∀ k : Nat, k ≤ 8 → Sz 98 ((k : Nat) : Int) := fun k hk => (Sz.of (a := 4) (by omega) (by omega)).mono (by decide)
  have a1 : ∀ k : Nat, k ≤ 8 → m__law_at [.d (tu r), .d (.int (k : Nat))] = .ret (.d (.int (ev r (k : Nat)))) none := fun k hk => e__law_at r _ 1752 98 zr (zk k hk) (by have : r.length * (98 + 1) ≤ 8 * 99 := Nat.mul_le_mul_right _ (by omega); omega)
  have a2 : ∀ k : Nat, k ≤ 8 → m__law_at [.d (tu r2), .d (.int ((k : Nat) + m))] = .ret (.d (.int (ev r2 ((k : Nat) + m)))) none := fun k hk => e__law_at r2 _ 960 99 ha.sz ((zk k hk).add sm) (by have : r2.length * (99 + 1) ≤ 8 * 100 := Nat.mul_le_mul_right _ (by omega); omega)
  unfold m__law_moved
  generalize m__law_is_row = V at *
  generalize m__law_at = T at *
  generalize m_row_moved = M at *
  generalize m__law_same 8 = U at *
  refine P_eq (def_P ?_)
  have l1 : gLen [tu r] = some (.int (r.length : Nat)) := by rw [lent_f, List.length_map]
  have l2 : gLen [tu r2] = some (.int (r2.length : Nat)) := by rw [lent_f, List.length_map]
  have hd : decide (((r.length : Nat) : Int) = (r2.length : Nat)) = true := decide_eq_true (by omega)
  have hev := g1.ev
  generalize tu r = R at *
  generalize tu r2 = A at *
  refine P_seq fun K hK => ?_
  simp only [sSeq, SR.andThen, sIf, sSet_ap, sSetO, sAsg, pName_ap, pTup, pCons, pNil, Option.bind_some, Option.map_some, ofS, sPut, sExpr, sRet, sRetO, sRetV, sRetN, sSkip, sBreak, sPar, mBool, mBin, mUn, mCB, mCBL, mCons, mNil_ap, mPure, mVar, mOwn, mOwn1, mOwnR, mNot, mAnd, mOr, mAndV, mOrV, mIf, mOfB, mTruD, truD, mTup, mLst, mCold, mMut, mMut0, mMove, mCall, mKw, asD, asO, gConsD, gConsS, gNilA_ap, callRes, lvsOf, toLV, refsOf, slotL, slotO, mSeq, mBinO, mPart, mSl, ER.bind, ER.toS, ofO, dropS, List.foldr_cons, List.foldr_nil, List.getElem?_cons_zero, List.getElem?_cons_succ, List.set_cons_zero, List.set_cons_succ, List.length_cons, List.length_nil, List.map_cons, List.map_nil, Nat.reduceAdd, Nat.reduceSub, if_true, if_false, Bool.false_eq_true, Bool.not_true, Bool.not_false, eq_self, decide_true, decide_false, Nat.reduceLeDiff, Nat.reduceEqDiff, reduceCtorEq, add_f, sub_f, neg_f, int_f, intb_f, abs_f, lenl_f, lent_f, lt_f, le_f, gt_f, ge_f, eq_f, ne_f, permL1, permL2, isTup_t, tup0, tup1, PNx, PRt, PRs, PBk, PCt, pad, List.cons_append, List.nil_append, List.replicate, e1]
  refine hK _ ?_
  clear hK K
  refine P_seq fun K hK => ?_
  simp only [sSeq, SR.andThen, sIf, sSet_ap, sSetO, sAsg, pName_ap, pTup, pCons, pNil, Option.bind_some, Option.map_some, ofS, sPut, sExpr, sRet, sRetO, sRetV, sRetN, sSkip, sBreak, sPar, mBool, mBin, mUn, mCB, mCBL, mCons, mNil_ap, mPure, mVar, mOwn, mOwn1, mOwnR, mNot, mAnd, mOr, mAndV, mOrV, mIf, mOfB, mTruD, truD, mTup, mLst, mCold, mMut, mMut0, mMove, mCall, mKw, asD, asO, gConsD, gConsS, gNilA_ap, callRes, lvsOf, toLV, refsOf, slotL, slotO, mSeq, mBinO, mPart, mSl, ER.bind, ER.toS, ofO, dropS, List.foldr_cons, List.foldr_nil, List.getElem?_cons_zero, List.getElem?_cons_succ, List.set_cons_zero, List.set_cons_succ, List.length_cons, List.length_nil, List.map_cons, List.map_nil, Nat.reduceAdd, Nat.reduceSub, if_true, if_false, Bool.false_eq_true, Bool.not_true, Bool.not_false, eq_self, decide_true, decide_false, Nat.reduceLeDiff, Nat.reduceEqDiff, reduceCtorEq, add_f, sub_f, neg_f, int_f, intb_f, abs_f, lenl_f, lent_f, lt_f, le_f, gt_f, ge_f, eq_f, ne_f, permL1, permL2, isTup_t, tup0, tup1, PNx, PRt, PRs, PBk, PCt, e0, l1, l2, hd]
  refine hK _ ?_
  clear hK K
  have hr := range1_ok (n := ((r2.length + 1 : Nat) : Int)) (ms := mCons (mBin fAdd (mCB gLen (mCons (mVar 0) mNil)) (mPure (.int 1))) mNil) (σ := [some (.d A), some (.d (.int m)), some (.d R), none]) (σ1 := [some (.d A), some (.d (.int m)), some (.d R), none])
    (cons_ok (bin_ok (cb_ok (cons_ok rfl rfl) l2) rfl (by rw [add_f]; rfl)) rfl) (by omega) (by omega)
  refine P_seq' (P_for hr (fun _ σ => ∃ u, σ = [some (.d A), some (.d (.int m)), some (.d R), u]) ⟨_, rfl⟩ (fun k d σ hx hI => ?_) fun σ hI => ?_)
  · obtain ⟨u, rfl⟩ := hI
    obtain ⟨hk, rfl⟩ := rangeD_get hx
    rw [Int.toNat_natCast] at hk
    refine ⟨_, rfl, ?_⟩
    have f1 := a1 k (by omega)
    have f2 := a2 k (by omega)
    have hz : (0 : Int) + (k : Nat) = (k : Nat) := by omega
    rw [hz]
    rw [hev] at f1
    have hc : mBool (mBin fNe (asD (mCall 2 T none (gConsD (mVar 2) (gConsD (mVar 3) gNilA)))) (asD (mCall 2 T none (gConsD (mVar 0) (gConsD (mBin fAdd (mVar 3) (mVar 1)) gNilA))))) [some (.d A), some (.d (.int m)), some (.d R), some (.d (.int (k : Nat)))] = .ok false [some (.d A), some (.d (.int m)), some (.d R), some (.d (.int (k : Nat)))] :=
      bool_ok (bin_ok (call2 rfl rfl f1) (call2 rfl (bin_ok rfl rfl add_f) f2) (by rw [ne_f, decide_eq_true rfl]; rfl))
    refine P_if hc (fun h => by cases h) fun _ => ?_
    show SR.P (.nx _) _
    rw [PNx]
    exact ⟨_, rfl⟩
  · obtain ⟨u, rfl⟩ := hI
    have hret : asD (mCall 2 U none (gConsD (asD (mCall 2 M none (gConsD (mVar 2) (gConsD (mUn fNeg (mVar 1)) gNilA)))) (gConsD (mVar 0) gNilA))) [some (.d A), some (.d (.int m)), some (.d R), u] = .ok (.bool true) [some (.d A), some (.d (.int m)), some (.d R), u] :=
      call2 (call2 rfl (un_ok rfl neg_f) e2) rfl es
    rw [ret_ok hret, PRt]
    exact ⟨rfl, rfl⟩
end pw_threadsround_k01_whole_quotients_and_rowG

set_option Elab.async false
set_option linter.all false
set_option maxRecDepth 100000
set_option maxHeartbeats 400000
namespace Pu
open PySem PySem.Spec L2
section
variable {N : Loc → Prop} {T : LV → Loc → Prop} {X : Ex → Loc → Prop} {B C : Loc → Prop} {σ σ1 σ2 : Loc}
theorem P_seqN {s t : S} (h : s σ = .nx σ1) (h2 : (t σ1).P ⟨N, T, X, B, C⟩) : (sSeq s t σ).P ⟨N, T, X, B, C⟩ := P_seq' (by rw [h, PNx]; exact h2)
theorem P_retN {m : M D} {d : D} (h : m σ = .ok d σ1) (h2 : T (.d d) σ1) : (sRet m σ).P ⟨N, T, X, B, C⟩ := by rw [ret_ok h, PRt]; exact h2
theorem ifn_ok {m : M D} {a : S} (h : m σ = .ok (.bool true) σ1) : sIf (mNot (mTruD m)) a sSkip σ = .nx σ1 := by rw [if_f (notT_ok h)]; rfl
theorem iff_ok {c : M Bool} {a : S} (h : c σ = .ok false σ1) : sIf c a sSkip σ = .nx σ1 := by rw [if_f h]; rfl
theorem and_fk {a b : M Bool} (h : a σ = .ok false σ1) : mAnd a b σ = .ok false σ1 := by rw [and_ok h]; rfl
theorem and_tk {a b : M Bool} {r : ER Bool} (h : a σ = .ok true σ1) (h2 : b σ1 = r) : mAnd a b σ = r := by rw [and_ok h]; exact h2
theorem or2_ok {m m' : M D} (h : m σ = .ok (.bool true) σ1) (h' : m' σ1 = .ok (.bool true) σ2) : mOr (mNot (mTruD m)) (mNot (mTruD m')) σ = .ok false σ2 := by
  rw [or_ok (notT_ok h), if_neg (by simp)]; exact notT_ok h'
end
end Pu
namespace pw_threadsround_k01_whole_quotients_and_rowG
open PySem PySem.Spec L2 Pu
theorem quot_i {t b : Int} {n : Nat} (hb : b ≠ 0) (s : Sz n b) (hn : n < 9000) : ∃ P Q, m_quotient_of [.d (.int t), .d (.int b)] = .ret (.d (qt P Q)) none ∧ GQ P Q ∧ P * b = t * Q ∧ (∀ m, Sz m t → Sz m P) ∧ ∀ m, Sz m b → Sz m Q :=
  ⟨_, _, e_quotient_of hb s hn, red_ok hb, red_eq, fun _ => redP_sz, fun _ => redQ_sz⟩
theorem zero_red {b : Int} (hb : b ≠ 0) : redP 0 b = 0 ∧ redQ 0 b = 1 := by
  have := red_uniq (t := 0) (b := b) (p := 0) (q := 1) hb ⟨by decide, by decide⟩ (by rw [Int.zero_mul, Int.zero_mul])
  exact ⟨this.1.symm, this.2.symm⟩
theorem same_qt (p q : Int) : m__law_same 8 [.d (qt p q), .d (qt p q)] = .ret (.d (.bool true)) none := same_rows [p, q] (by simp)
theorem same_b8 (b : Bool) : m__law_same 8 [.d (.bool b), .d (.bool b)] = .ret (.d (.bool true)) none := by
  have := same_bool 7 b b
  rw [beq_self_eq_true] at this
  exact this
theorem same_b3 : m__law_same 8 [.d (.tuple [.bool true, .bool false, .bool false]), .d (.tuple [.bool true, .bool false, .bool false])] = .ret (.d (.bool true)) none := by
  refine same_tupR (m__law_same 7) _ _ rfl (by simp) fun i x y hx hy => ?_
  rw [hx] at hy
  cases hy
  match i, hx with
  | 0, hx => cases hx; exact same_bool 6 true true
  | 1, hx => cases hx; exact same_bool 6 false false
  | 2, hx => cases hx; exact same_bool 6 false false
  | i + 3, hx => cases hx
theorem e__law_quotients (F : Fe) (hF : F.ok) (p q p' q' : Int) (g : GQ p q) (g' : GQ p' q') (s1 : Sz 98 p) (s2 : Sz 99 q) (s3 : Sz 98 p') (s4 : Sz 99 q') : ∃ F', m__law_quotients [.o F.oo, .d (qt p q), .d (qt p' q')] = .ret (.d (.bool true)) (some (Fe.oo F')) ∧ F'.ok := by
  have key := P_ex (r := m__law_quotients [.o F.oo, .d (qt p q), .d (qt p' q')]) (Φ := fun v o => ∃ F' : Fe, v = .d (.bool true) ∧ o = some (Fe.oo F') ∧ F'.ok) fun R X hR => by
    have hI : IntOk m__law_integer := e__law_integer
    have hT : TakeOk m__law_take := e_take
    unfold m__law_quotients
    refine def_P ?_
    obtain ⟨x, F1, e1, z1, h1⟩ := hI F hF
    obtain ⟨y, F2, e2, z2, h2⟩ := hI F1 h1
    obtain ⟨r, F3, e3, r0, r1, h3⟩ := hT F2 h2 9 (by decide) (by decide)
    refine P_seq fun K hK => ?_
    simp only [sSeq, SR.andThen, sIf, sSet_ap, sSetO, sAsg, pName_ap, pTup, pCons, pNil, Option.bind_some, Option.map_some, ofS, sPut, sExpr, sRet, sRetO, sRetV, sRetN, sSkip, sBreak, sPar, mBool, mBin, mUn, mCB, mCBL, mCons, mNil_ap, mPure, mVar, mOwn, mOwn1, mOwnR, mNot, mAnd, mOr, mAndV, mOrV, mIf, mOfB, mTruD, truD, mTup, mLst, mCold, mMut, mMut0, mMove, mCall, mKw, asD, asO, gConsD, gConsS, gNilA_ap, callRes, lvsOf, toLV, refsOf, slotL, slotO, mSeq, mBinO, mPart, mSl, ER.bind, ER.toS, ofO, dropS, List.foldr_cons, List.foldr_nil, List.getElem?_cons_zero, List.getElem?_cons_succ, List.set_cons_zero, List.set_cons_succ, List.length_cons, List.length_nil, List.map_cons, List.map_nil, Nat.reduceAdd, Nat.reduceSub, if_true, if_false, Bool.false_eq_true, Bool.not_true, Bool.not_false, eq_self, decide_true, decide_false, Nat.reduceLeDiff, Nat.reduceEqDiff, reduceCtorEq, add_f, sub_f, neg_f, int_f, intb_f, abs_f, lenl_f, lent_f, lt_f, le_f, gt_f, ge_f, eq_f, ne_f, permL1, permL2, isTup_t, tup0, tup1, PNx, PRt, PRs, PBk, PCt, pad, List.cons_append, List.nil_append, List.replicate, e1]
    refine hK _ ?_
    clear hK K
    refine P_seq fun K hK => ?_
    simp only [sSeq, SR.andThen, sIf, sSet_ap, sSetO, sAsg, pName_ap, pTup, pCons, pNil, Option.bind_some, Option.map_some, ofS, sPut, sExpr, sRet, sRetO, sRetV, sRetN, sSkip, sBreak, sPar, mBool, mBin, mUn, mCB, mCBL, mCons, mNil_ap, mPure, mVar, mOwn, mOwn1, mOwnR, mNot, mAnd, mOr, mAndV, mOrV, mIf, mOfB, mTruD, truD, mTup, mLst, mCold, mMut, mMut0, mMove, mCall, mKw, asD, asO, gConsD, gConsS, gNilA_ap, callRes, lvsOf, toLV, refsOf, slotL, slotO, mSeq, mBinO, mPart, mSl, ER.bind, ER.toS, ofO, dropS, List.foldr_cons, List.foldr_nil, List.getElem?_cons_zero, List.getElem?_cons_succ, List.set_cons_zero, List.set_cons_succ, List.length_cons, List.length_nil, List.map_cons, List.map_nil, Nat.reduceAdd, Nat.reduceSub, if_true, if_false, Bool.false_eq_true, Bool.not_true, Bool.not_false, eq_self, decide_true, decide_false, Nat.reduceLeDiff, Nat.reduceEqDiff, reduceCtorEq, add_f, sub_f, neg_f, int_f, intb_f, abs_f, lenl_f, lent_f, lt_f, le_f, gt_f, ge_f, eq_f, ne_f, permL1, permL2, isTup_t, tup0, tup1, PNx, PRt, PRs, PBk, PCt, e2]
    refine hK _ ?_
    clear hK K
    have hy : y + (if decide (y = 0) = true then 1 else 0) ≠ 0 := by
      by_cases c : y = 0
      · subst c; decide
      · rw [if_neg (by simp [c])]; omega
    have zy : Sz 99 (y + (if decide (y = 0) = true then 1 else 0)) := z2.add (by split <;> (unfold Sz; decide))
    refine P_seq fun K hK => ?_
    simp only [sSeq, SR.andThen, sIf, sSet_ap, sSetO, sAsg, pName_ap, pTup, pCons, pNil, Option.bind_some, Option.map_some, ofS, sPut, sExpr, sRet, sRetO, sRetV, sRetN, sSkip, sBreak, sPar, mBool, mBin, mUn, mCB, mCBL, mCons, mNil_ap, mPure, mVar, mOwn, mOwn1, mOwnR, mNot, mAnd, mOr, mAndV, mOrV, mIf, mOfB, mTruD, truD, mTup, mLst, mCold, mMut, mMut0, mMove, mCall, mKw, asD, asO, gConsD, gConsS, gNilA_ap, callRes, lvsOf, toLV, refsOf, slotL, slotO, mSeq, mBinO, mPart, mSl, ER.bind, ER.toS, ofO, dropS, List.foldr_cons, List.foldr_nil, List.getElem?_cons_zero, List.getElem?_cons_succ, List.set_cons_zero, List.set_cons_succ, List.length_cons, List.length_nil, List.map_cons, List.map_nil, Nat.reduceAdd, Nat.reduceSub, if_true, if_false, Bool.false_eq_true, Bool.not_true, Bool.not_false, eq_self, decide_true, decide_false, Nat.reduceLeDiff, Nat.reduceEqDiff, reduceCtorEq, add_f, sub_f, neg_f, int_f, intb_f, abs_f, lenl_f, lent_f, lt_f, le_f, gt_f, ge_f, eq_f, ne_f, permL1, permL2, isTup_t, tup0, tup1, PNx, PRt, PRs, PBk, PCt]
    refine hK _ ?_
    clear hK K
    generalize y + (if decide (y = 0) = true then 1 else 0) = l at *
    have s1' := s1.mono (show 98 ≤ 300 by decide)
    have s2' := s2.mono (show 99 ≤ 300 by decide)
    have s3' := s3.mono (show 98 ≤ 300 by decide)
    have s4' := s4.mono (show 99 ≤ 300 by decide)
    have hSt : ∀ {P Q hi lo : Int}, GQ P Q → Sz 400 P → Sz 400 Q → Sz 400 hi → Sz 400 lo → P * lo = hi * Q → m__law_stands [.d (qt P Q), .d (.int hi), .d (.int lo)] = .ret (.d (.bool true)) none := fun a b c d e f => e__law_stands (n := 400) a b c d e (by decide) f
    obtain ⟨P1, Q1, f1, k1, q1, zp1, zq1⟩ := quot_i (t := x) hy zy (by decide)
    have t1 := hSt k1 (zp1 400 (z1.mono (by decide))) (zq1 400 (zy.mono (by decide))) (z1.mono (by decide)) (zy.mono (by decide)) q1
    refine P_seqN (ifn_ok (call3 (call2 rfl rfl f1) rfl rfl t1)) ?_
    refine P_seq fun K hK => ?_
    simp only [sSeq, SR.andThen, sIf, sSet_ap, sSetO, sAsg, pName_ap, pTup, pCons, pNil, Option.bind_some, Option.map_some, ofS, sPut, sExpr, sRet, sRetO, sRetV, sRetN, sSkip, sBreak, sPar, mBool, mBin, mUn, mCB, mCBL, mCons, mNil_ap, mPure, mVar, mOwn, mOwn1, mOwnR, mNot, mAnd, mOr, mAndV, mOrV, mIf, mOfB, mTruD, truD, mTup, mLst, mCold, mMut, mMut0, mMove, mCall, mKw, asD, asO, gConsD, gConsS, gNilA_ap, callRes, lvsOf, toLV, refsOf, slotL, slotO, mSeq, mBinO, mPart, mSl, ER.bind, ER.toS, ofO, dropS, List.foldr_cons, List.foldr_nil, List.getElem?_cons_zero, List.getElem?_cons_succ, List.set_cons_zero, List.set_cons_succ, List.length_cons, List.length_nil, List.map_cons, List.map_nil, Nat.reduceAdd, Nat.reduceSub, if_true, if_false, Bool.false_eq_true, Bool.not_true, Bool.not_false, eq_self, decide_true, decide_false, Nat.reduceLeDiff, Nat.reduceEqDiff, reduceCtorEq, add_f, sub_f, neg_f, int_f, intb_f, abs_f, lenl_f, lent_f, lt_f, le_f, gt_f, ge_f, eq_f, ne_f, permL1, permL2, isTup_t, tup0, tup1, PNx, PRt, PRs, PBk, PCt, e3]
    refine hK _ ?_
    clear hK K
    have zm : Sz 5 (1 + r) := Sz.of (by omega) (by omega)
    have hm0 : (1 + r) ≠ 0 := by omega
    generalize 1 + r = m at *
    have hb2 : -l * m ≠ 0 := Int.mul_ne_zero (by omega) hm0
    have zb2 : Sz 104 (-l * m) := zy.neg.mul zm
    obtain ⟨P2, Q2, f2, k2, q2, zp2, zq2⟩ := quot_i (t := x * m) hb2 zb2 (by decide)
    have q2' : P2 * l = -x * Q2 := by
      refine Int.eq_of_mul_eq_mul_right hm0 ?_
      grind
    have t2 := hSt k2 (zp2 400 ((z1.mul zm).mono (by decide))) (zq2 400 (zb2.mono (by decide))) (z1.neg.mono (by decide)) (zy.mono (by decide)) q2'
    have m1 := mulS z1 zm (by decide)
    have m2 := mulS zy.neg zm (by decide)
    refine P_seqN (ifn_ok (call3 (call2 (bin_ok rfl rfl m1) (bin_ok (un_ok rfl neg_f) rfl m2) f2) (un_ok rfl neg_f) rfl t2)) ?_
    have mqq := mulS s2 s4 (by decide)
    have mpq := mulS s1 s4 (by decide)
    have mqp := mulS s3 s2 (by decide)
    have mpp := mulS s1 s3 (by decide)
    have mq' := mulS s2 s3 (by decide)
    have hqq : q * q' ≠ 0 := by have := Int.mul_pos g.pos g'.pos; omega
    have zqq : Sz 400 (q * q') := (s2.mul s4).mono (by decide)
    have zpq : Sz 397 (p * q') := (s1.mul s4).mono (by decide)
    have zqp : Sz 397 (p' * q) := (s3.mul s2).mono (by decide)
    have zpp : Sz 400 (p * p') := (s1.mul s3).mono (by decide)
    refine P_seqN (set_okE (bin_ok (bin_ok rfl rfl (qt1 p q)) (bin_ok rfl rfl (qt1 p' q')) mqq) rfl) ?_
    simp only [List.set_cons_zero, List.set_cons_succ]
    have f3 := e_plus (n := 300) g g' s1' s2' s3' s4' (by decide)
    have t3 := hSt (red_ok (t := p * q' + p' * q) hqq) (redP_sz ((zpq.add zqp).mono (by decide))) (redQ_sz zqq) ((zpq.add zqp).mono (by decide)) zqq red_eq
    refine P_seqN (ifn_ok (call3 (call2 rfl rfl f3) (bin_ok (bin_ok (bin_ok rfl rfl (qt0 p q)) (bin_ok rfl rfl (qt1 p' q')) mpq) (bin_ok (bin_ok rfl rfl (qt0 p' q')) (bin_ok rfl rfl (qt1 p q)) mqp) add_f) rfl t3)) ?_
    have f4 := e_minus (n := 300) g g' s1' s2' s3' s4' (by decide)
    have t4 := hSt (red_ok (t := p * q' - p' * q) hqq) (redP_sz ((zpq.sub zqp).mono (by decide))) (redQ_sz zqq) ((zpq.sub zqp).mono (by decide)) zqq red_eq
    refine P_seqN (ifn_ok (call3 (call2 rfl rfl f4) (bin_ok (bin_ok (bin_ok rfl rfl (qt0 p q)) (bin_ok rfl rfl (qt1 p' q')) mpq) (bin_ok (bin_ok rfl rfl (qt0 p' q')) (bin_ok rfl rfl (qt1 p q)) mqp) sub_f) rfl t4)) ?_
    have f5 := e_times (n := 300) g g' s1' s2' s3' s4' (by decide)
    have t5 := hSt (red_ok (t := p * p') hqq) (redP_sz zpp) (redQ_sz zqq) zpp zqq red_eq
    refine P_seqN (ifn_ok (call3 (call2 rfl rfl f5) (bin_ok (bin_ok rfl rfl (qt0 p q)) (bin_ok rfl rfl (qt0 p' q')) mpp) rfl t5)) ?_
    refine P_seqN (σ1 := [some (.o F3.oo), some (.d (qt p q)), some (.d (qt p' q')), some (.d (.int x)), some (.d (.int l)), some (.d (.int m)), some (.d (.int (q * q'))), none]) (iff_ok ?_) ?_
    · by_cases h0 : p' = 0
      · exact and_fk (bool_ok (bin_ok (bin_ok rfl rfl (qt0 p' q')) rfl (by rw [ne_f, decide_eq_true h0]; rfl)))
      · refine and_tk (bool_ok (bin_ok (bin_ok rfl rfl (qt0 p' q')) rfl (by rw [ne_f, decide_eq_false h0]; rfl))) ?_
        have f6 := e_over (n := 300) g g' h0 s1' s2' s3' s4' (by decide)
        have hqp : q * p' ≠ 0 := Int.mul_ne_zero (by have := g.pos; omega) h0
        have zqp' : Sz 400 (q * p') := (s2.mul s3).mono (by decide)
        have t6 := hSt (red_ok (t := p * q') hqp) (redP_sz (zpq.mono (by decide))) (redQ_sz zqp') (zpq.mono (by decide)) zqp' red_eq
        exact notT_ok (call3 (call2 rfl rfl f6) (bin_ok (bin_ok rfl rfl (qt0 p q)) (bin_ok rfl rfl (qt1 p' q')) mpq) (bin_ok (bin_ok rfl rfl (qt1 p q)) (bin_ok rfl rfl (qt0 p' q')) mq') t6)
    have z7 : Sz 3 7 := by unfold Sz; decide
    have mp7 := mulS s1 z7 (by decide)
    have mq7 := mulS s2 z7 (by decide)
    have hq7 : q * 7 ≠ 0 := by have := g.pos; omega
    have zq7 : Sz 102 (q * 7) := s2.mul z7
    have zp7 : Sz 102 (p * 7 + 1) := (s1.mul z7).add ((Sz.one (n := 0)).mono (by decide))
    have f7 := e__law_lowest (t := p * 7 + 1) hq7 (zq7.mono (by decide))
    have k7 := red_ok (t := p * 7 + 1) hq7
    have q7 := red_eq (t := p * 7 + 1) (b := q * 7)
    have zp7' : Sz 300 (redP (p * 7 + 1) (q * 7)) := redP_sz (zp7.mono (by decide))
    have zq7' : Sz 300 (redQ (p * 7 + 1) (q * 7)) := redQ_sz (zq7.mono (by decide))
    refine P_seqN (set_okE (call2 (bin_ok (bin_ok (bin_ok rfl rfl (qt0 p q)) rfl mp7) rfl add_f) (bin_ok (bin_ok rfl rfl (qt1 p q)) rfl mq7) f7) rfl) ?_
    simp only [List.set_cons_zero, List.set_cons_succ]
    generalize redP (p * 7 + 1) (q * 7) = P7 at *
    generalize redQ (p * 7 + 1) (q * 7) = Q7 at *
    have c1 : decide (p * Q7 < P7 * q) = true := decide_eq_true (by
      have e : P7 * q * 7 = p * Q7 * 7 + Q7 := by grind
      have := k7.pos
      omega)
    have c2 : decide (P7 * q < p * Q7) = false := decide_eq_false (by have := of_decide_eq_true c1; omega)
    have c3 : decide (p * q < p * q) = false := decide_eq_false (by omega)
    have l1 := e_is_less (n := 300) g k7 s1' s2' zp7' zq7' (by decide)
    have l2 := e_is_less (n := 300) k7 g zp7' zq7' s1' s2' (by decide)
    have l3 := e_is_less (n := 300) g g s1' s2' s1' s2' (by decide)
    rw [c1] at l1
    rw [c2] at l2
    rw [c3] at l3
    refine P_seqN (ifn_ok (call2 (tup_ok (cons_ok (call2 rfl rfl l1) (cons_ok (call2 rfl rfl l2) (cons_ok (call2 rfl rfl l3) rfl))) (by simp)) (tup_ok (cons_ok rfl (cons_ok rfl (cons_ok rfl rfl))) (by simp)) same_b3)) ?_
    have hq2 : q * q ≠ 0 := by have := Int.mul_pos g.pos g.pos; omega
    have f8 := e_minus (n := 300) g g s1' s2' s1' s2' (by decide)
    rw [Int.sub_self, (zero_red hq2).1, (zero_red hq2).2] at f8
    have hq1 : 1 * q ≠ 0 := by have := g.pos; omega
    have f9 := e_times (n := 300) (p := 0) (q := 1) ⟨by decide, by decide⟩ g Sz.zero ((Sz.one (n := 0)).mono (by decide)) s1' s2' (by decide)
    rw [Int.zero_mul, (zero_red hq1).1, (zero_red hq1).2] at f9
    refine P_seqN (iff_ok (or2_ok (call2 (call2 rfl rfl f8) (mtup2 rfl rfl) (same_qt 0 1)) (call2 (call2 (mtup2 rfl rfl) rfl f9) (mtup2 rfl rfl) (same_qt 0 1)))) ?_
    have l4 := e_is_less (n := 300) g g' s1' s2' s3' s4' (by decide)
    refine P_retN (call2 (call2 rfl rfl l4) (bin_ok (bin_ok (bin_ok rfl rfl (qt0 p q)) (bin_ok rfl rfl (qt1 p' q')) mpq) (bin_ok (bin_ok rfl rfl (qt0 p' q')) (bin_ok rfl rfl (qt1 p q)) mqp) lt_f) (same_b8 _)) ?_
    exact outP_s (x := F3.oo) rfl (hR _ _ ⟨F3, rfl, rfl, h3⟩)
  obtain ⟨v, o, e, F', rfl, rfl, h⟩ := key
  exact ⟨F', e, h⟩
end pw_threadsround_k01_whole_quotients_and_rowG

set_option Elab.async false
set_option linter.all false
set_option maxRecDepth 100000
set_option maxHeartbeats 400000
namespace Pu
open PySem PySem.Spec L2
section
variable {N : Loc → Prop} {T : LV → Loc → Prop} {X : Ex → Loc → Prop} {B C : Loc → Prop} {σ σ1 σ2 : Loc}
theorem P_seqX {s t : S} {x : Ex} (h : s σ = .rs x σ1) (h2 : X x σ1) : (sSeq s t σ).P ⟨N, T, X, B, C⟩ := P_seq' (by rw [h, PRs]; exact h2)
theorem P_rs {s : S} {x : Ex} (h : s σ = .rs x σ1) (h2 : X x σ1) : (s σ).P ⟨N, T, X, B, C⟩ := by rw [h, PRs]; exact h2
theorem retX {m : M D} {x : Ex} (h : m σ = .raise x σ1) : sRet m σ = .rs x σ1 := by unfold sRet; rw [h]; rfl
theorem exprX {m : M D} {x : Ex} (h : m σ = .raise x σ1) : sExpr m σ = .rs x σ1 := by unfold sExpr; rw [h]; rfl
theorem takeR {T : Fd} {F F' : OO} {m r : D} (h : T [.o F, .d m] = .ret (.d r) (some F')) : asD (mCall 2 T (some 0) (gConsS 0 (gConsD (mPure m) gNilA))) (some (.o F) :: σ) = .ok r (some (.o F') :: σ) := by
  simp only [asD, mCall, gConsS, gConsD, gNilA_ap, mPure, slotO, List.getElem?_cons_zero, ER.bind, List.length_cons, List.length_nil, Nat.reduceAdd, if_true, callRes, lvsOf, toLV, refsOf, Option.bind_some, Option.map_some, h, List.set_cons_zero]
end
section
variable {T : Fd} {a b c d : M D} {σ σ1 σ2 σ3 σ4 : Loc} {x y z w r : D} {e : Ex}
theorem call1x (ha : a σ = .ok x σ1) (hT : T [.d x] = .raise e none) : asD (mCall 1 T none (gConsD a gNilA)) σ = .raise e σ1 :=
  call_x (ds := [x]) (gc_ok ha rfl) rfl hT
theorem call2x (ha : a σ = .ok x σ1) (hb : b σ1 = .ok y σ2) (hT : T [.d x, .d y] = .raise e none) : asD (mCall 2 T none (gConsD a (gConsD b gNilA))) σ = .raise e σ2 :=
  call_x (ds := [x, y]) (gc_ok ha (gc_ok hb rfl)) rfl hT
theorem call3x (ha : a σ = .ok x σ1) (hb : b σ1 = .ok y σ2) (hc : c σ2 = .ok z σ3) (hT : T [.d x, .d y, .d z] = .raise e none) : asD (mCall 3 T none (gConsD a (gConsD b (gConsD c gNilA)))) σ = .raise e σ3 :=
  call_x (ds := [x, y, z]) (gc_ok ha (gc_ok hb (gc_ok hc rfl))) rfl hT
end
end Pu
namespace pw_threadsround_k01_whole_quotients_and_rowG
open PySem PySem.Spec L2 Pu
section
variable {x y : D} {e : Ex}
theorem act0 (h : m_plus [.d x, .d y] = .raise e none) : m__law_act [.d (.int 0), .d x, .d y] = .raise e none := by
  unfold m__law_act
  refine P_raise (def_P ?_)
  simp only [pad, List.map_cons, List.map_nil, List.length_cons, List.length_nil, Nat.reduceAdd, Nat.reduceSub, List.cons_append, List.nil_append, List.replicate]
  exact P_seqX ((if_t (bool_ok (bin_ok rfl rfl rfl))).trans (retX (call2x rfl rfl h))) ⟨rfl, rfl⟩
theorem act1 (h : m_minus [.d x, .d y] = .raise e none) : m__law_act [.d (.int 1), .d x, .d y] = .raise e none := by
  unfold m__law_act
  refine P_raise (def_P ?_)
  simp only [pad, List.map_cons, List.map_nil, List.length_cons, List.length_nil, Nat.reduceAdd, Nat.reduceSub, List.cons_append, List.nil_append, List.replicate]
  refine P_seqN (iff_ok (bool_ok (bin_ok rfl rfl rfl))) ?_
  exact P_seqX ((if_t (bool_ok (bin_ok rfl rfl rfl))).trans (retX (call2x rfl rfl h))) ⟨rfl, rfl⟩
theorem act2 (h : m_times [.d x, .d y] = .raise e none) : m__law_act [.d (.int 2), .d x, .d y] = .raise e none := by
  unfold m__law_act
  refine P_raise (def_P ?_)
  simp only [pad, List.map_cons, List.map_nil, List.length_cons, List.length_nil, Nat.reduceAdd, Nat.reduceSub, List.cons_append, List.nil_append, List.replicate]
  refine P_seqN (iff_ok (bool_ok (bin_ok rfl rfl rfl))) ?_
  refine P_seqN (iff_ok (bool_ok (bin_ok rfl rfl rfl))) ?_
  exact P_seqX ((if_t (bool_ok (bin_ok rfl rfl rfl))).trans (retX (call2x rfl rfl h))) ⟨rfl, rfl⟩
theorem act3 (h : m_over [.d x, .d y] = .raise e none) : m__law_act [.d (.int 3), .d x, .d y] = .raise e none := by
  unfold m__law_act
  refine P_raise (def_P ?_)
  simp only [pad, List.map_cons, List.map_nil, List.length_cons, List.length_nil, Nat.reduceAdd, Nat.reduceSub, List.cons_append, List.nil_append, List.replicate]
  refine P_seqN (iff_ok (bool_ok (bin_ok rfl rfl rfl))) ?_
  refine P_seqN (iff_ok (bool_ok (bin_ok rfl rfl rfl))) ?_
  refine P_seqN (iff_ok (bool_ok (bin_ok rfl rfl rfl))) ?_
  exact P_seqX ((if_t (bool_ok (bin_ok rfl rfl rfl))).trans (retX (call2x rfl rfl h))) ⟨rfl, rfl⟩
theorem act4 (h : m_is_less [.d x, .d y] = .raise e none) : m__law_act [.d (.int 4), .d x, .d y] = .raise e none := by
  unfold m__law_act
  refine P_raise (def_P ?_)
  simp only [pad, List.map_cons, List.map_nil, List.length_cons, List.length_nil, Nat.reduceAdd, Nat.reduceSub, List.cons_append, List.nil_append, List.replicate]
  refine P_seqN (iff_ok (bool_ok (bin_ok rfl rfl rfl))) ?_
  refine P_seqN (iff_ok (bool_ok (bin_ok rfl rfl rfl))) ?_
  refine P_seqN (iff_ok (bool_ok (bin_ok rfl rfl rfl))) ?_
  refine P_seqN (iff_ok (bool_ok (bin_ok rfl rfl rfl))) ?_
  exact P_seqX ((if_t (bool_ok (bin_ok rfl rfl rfl))).trans (retX (call2x rfl rfl h))) ⟨rfl, rfl⟩
theorem act5 (h : m_quotient_of [.d x, .d y] = .raise e none) : m__law_act [.d (.int 5), .d x, .d y] = .raise e none := by
  unfold m__law_act
  refine P_raise (def_P ?_)
  simp only [pad, List.map_cons, List.map_nil, List.length_cons, List.length_nil, Nat.reduceAdd, Nat.reduceSub, List.cons_append, List.nil_append, List.replicate]
  refine P_seqN (iff_ok (bool_ok (bin_ok rfl rfl rfl))) ?_
  refine P_seqN (iff_ok (bool_ok (bin_ok rfl rfl rfl))) ?_
  refine P_seqN (iff_ok (bool_ok (bin_ok rfl rfl rfl))) ?_
  refine P_seqN (iff_ok (bool_ok (bin_ok rfl rfl rfl))) ?_
  refine P_seqN (iff_ok (bool_ok (bin_ok rfl rfl rfl))) ?_
  exact P_seqX ((if_t (bool_ok (bin_ok rfl rfl rfl))).trans (retX (call2x rfl rfl h))) ⟨rfl, rfl⟩
theorem act6 (h : m_row_plus [.d x, .d y] = .raise e none) : m__law_act [.d (.int 6), .d x, .d y] = .raise e none := by
  unfold m__law_act
  refine P_raise (def_P ?_)
  simp only [pad, List.map_cons, List.map_nil, List.length_cons, List.length_nil, Nat.reduceAdd, Nat.reduceSub, List.cons_append, List.nil_append, List.replicate]
  refine P_seqN (iff_ok (bool_ok (bin_ok rfl rfl rfl))) ?_
  refine P_seqN (iff_ok (bool_ok (bin_ok rfl rfl rfl))) ?_
  refine P_seqN (iff_ok (bool_ok (bin_ok rfl rfl rfl))) ?_
  refine P_seqN (iff_ok (bool_ok (bin_ok rfl rfl rfl))) ?_
  refine P_seqN (iff_ok (bool_ok (bin_ok rfl rfl rfl))) ?_
  refine P_seqN (iff_ok (bool_ok (bin_ok rfl rfl rfl))) ?_
  exact P_seqX ((if_t (bool_ok (bin_ok rfl rfl rfl))).trans (retX (call2x rfl rfl h))) ⟨rfl, rfl⟩
theorem act7 (h : m_row_times [.d x, .d y] = .raise e none) : m__law_act [.d (.int 7), .d x, .d y] = .raise e none := by
  unfold m__law_act
  refine P_raise (def_P ?_)
  simp only [pad, List.map_cons, List.map_nil, List.length_cons, List.length_nil, Nat.reduceAdd, Nat.reduceSub, List.cons_append, List.nil_append, List.replicate]
  refine P_seqN (iff_ok (bool_ok (bin_ok rfl rfl rfl))) ?_
  refine P_seqN (iff_ok (bool_ok (bin_ok rfl rfl rfl))) ?_
  refine P_seqN (iff_ok (bool_ok (bin_ok rfl rfl rfl))) ?_
  refine P_seqN (iff_ok (bool_ok (bin_ok rfl rfl rfl))) ?_
  refine P_seqN (iff_ok (bool_ok (bin_ok rfl rfl rfl))) ?_
  refine P_seqN (iff_ok (bool_ok (bin_ok rfl rfl rfl))) ?_
  refine P_seqN (iff_ok (bool_ok (bin_ok rfl rfl rfl))) ?_
  exact P_seqX ((if_t (bool_ok (bin_ok rfl rfl rfl))).trans (retX (call2x rfl rfl h))) ⟨rfl, rfl⟩
theorem act8 (h : m_row_at [.d x, .d y] = .raise e none) : m__law_act [.d (.int 8), .d x, .d y] = .raise e none := by
  unfold m__law_act
  refine P_raise (def_P ?_)
  simp only [pad, List.map_cons, List.map_nil, List.length_cons, List.length_nil, Nat.reduceAdd, Nat.reduceSub, List.cons_append, List.nil_append, List.replicate]
  refine P_seqN (iff_ok (bool_ok (bin_ok rfl rfl rfl))) ?_
  refine P_seqN (iff_ok (bool_ok (bin_ok rfl rfl rfl))) ?_
  refine P_seqN (iff_ok (bool_ok (bin_ok rfl rfl rfl))) ?_
  refine P_seqN (iff_ok (bool_ok (bin_ok rfl rfl rfl))) ?_
  refine P_seqN (iff_ok (bool_ok (bin_ok rfl rfl rfl))) ?_
  refine P_seqN (iff_ok (bool_ok (bin_ok rfl rfl rfl))) ?_
  refine P_seqN (iff_ok (bool_ok (bin_ok rfl rfl rfl))) ?_
  refine P_seqN (iff_ok (bool_ok (bin_ok rfl rfl rfl))) ?_
  exact P_seqX ((if_t (bool_ok (bin_ok rfl rfl rfl))).trans (retX (call2x rfl rfl h))) ⟨rfl, rfl⟩
theorem act9 (h : m_row_moved [.d x, .d y] = .raise e none) : m__law_act [.d (.int 9), .d x, .d y] = .raise e none := by
  unfold m__law_act
  refine P_raise (def_P ?_)
  simp only [pad, List.map_cons, List.map_nil, List.length_cons, List.length_nil, Nat.reduceAdd, Nat.reduceSub, List.cons_append, List.nil_append, List.replicate]
  refine P_seqN (iff_ok (bool_ok (bin_ok rfl rfl rfl))) ?_
  refine P_seqN (iff_ok (bool_ok (bin_ok rfl rfl rfl))) ?_
  refine P_seqN (iff_ok (bool_ok (bin_ok rfl rfl rfl))) ?_
  refine P_seqN (iff_ok (bool_ok (bin_ok rfl rfl rfl))) ?_
  refine P_seqN (iff_ok (bool_ok (bin_ok rfl rfl rfl))) ?_
  refine P_seqN (iff_ok (bool_ok (bin_ok rfl rfl rfl))) ?_
  refine P_seqN (iff_ok (bool_ok (bin_ok rfl rfl rfl))) ?_
  refine P_seqN (iff_ok (bool_ok (bin_ok rfl rfl rfl))) ?_
  refine P_seqN (iff_ok (bool_ok (bin_ok rfl rfl rfl))) ?_
  exact P_seqX ((if_t (bool_ok (bin_ok rfl rfl rfl))).trans (retX (call2x rfl rfl h))) ⟨rfl, rfl⟩
theorem act10 (h : m_row_of [.d y] = .raise e none) : m__law_act [.d (.int 10), .d x, .d y] = .raise e none := by
  unfold m__law_act
  refine P_raise (def_P ?_)
  simp only [pad, List.map_cons, List.map_nil, List.length_cons, List.length_nil, Nat.reduceAdd, Nat.reduceSub, List.cons_append, List.nil_append, List.replicate]
  refine P_seqN (iff_ok (bool_ok (bin_ok rfl rfl rfl))) ?_
  refine P_seqN (iff_ok (bool_ok (bin_ok rfl rfl rfl))) ?_
  refine P_seqN (iff_ok (bool_ok (bin_ok rfl rfl rfl))) ?_
  refine P_seqN (iff_ok (bool_ok (bin_ok rfl rfl rfl))) ?_
  refine P_seqN (iff_ok (bool_ok (bin_ok rfl rfl rfl))) ?_
  refine P_seqN (iff_ok (bool_ok (bin_ok rfl rfl rfl))) ?_
  refine P_seqN (iff_ok (bool_ok (bin_ok rfl rfl rfl))) ?_
  refine P_seqN (iff_ok (bool_ok (bin_ok rfl rfl rfl))) ?_
  refine P_seqN (iff_ok (bool_ok (bin_ok rfl rfl rfl))) ?_
  refine P_seqN (iff_ok (bool_ok (bin_ok rfl rfl rfl))) ?_
  exact P_rs (retX (call1x rfl h)) ⟨rfl, rfl⟩
end
theorem same_sw (w : Str) (k : Int) : m__law_same 8 [.d (.tuple [.str w, .int k]), .d (.tuple [.str w, .int k])] = .ret (.d (.bool true)) none := by
  have := same_tup 6 (.str w) (.int k) (.str w) (.int k) _ _ (same_str 6 w) (same_int 6 (.int k) k)
  have e : isI k (.int k) = true := decide_eq_true rfl
  rw [e] at this
  exact this
theorem refuses_ok {k x y : D} {w : Str} (h : m__law_act [.d k, .d x, .d y] = .raise (nu w) none) : m__law_refuses [.d k, .d x, .d y, .d (.str w)] = .ret (.d (.bool true)) none := by
  have hc : (nu w).c = "NotUsable" := rfl
  have hs := same_sw w (-1)
  unfold m__law_refuses
  refine P_eq (def_P ?_)
  refine P_seq fun K hK => ?_
  clear hK
  have e : ∀ su, sTryAs (sExpr (asD (mCall 3 m__law_act none (gConsD (mVar 0) (gConsD (mVar 1) (gConsD (mVar 2) gNilA)))))) "NotUsable" [] 4 su (pad 5 [.d k, .d x, .d y, .d (.str w)])
      = (su [some (.d k), some (.d x), some (.d y), some (.d (.str w)), some (.e (nu w).fs)]).behind 4 := fun su => by
    unfold sTryAs
    simp only [pad, List.map_cons, List.map_nil, List.length_cons, List.length_nil, Nat.reduceAdd, Nat.reduceSub, List.cons_append, List.nil_append, List.replicate]
    have hx : sExpr (asD (mCall 3 m__law_act none (gConsD (mVar 0) (gConsD (mVar 1) (gConsD (mVar 2) gNilA))))) [some (.d k), some (.d x), some (.d y), some (.d (.str w)), none] = .rs (nu w) [some (.d k), some (.d x), some (.d y), some (.d (.str w)), none] := exprX (call3x rfl rfl rfl h)
    rw [hx]
    show (if (nu w).c = "NotUsable" then _ else _) = _
    rw [if_pos hc, if_pos (by simp)]
    rfl
  rw [e]
  have f1 : (nu w).fs.lookup ("word" : Str) = some (.str w) := rfl
  have f2 : (nu w).fs.lookup ("at" : Str) = some (.int (-1)) := rfl
  generalize (nu w).fs = fs at *
  simp only [sSeq, SR.andThen, sIf, sSet_ap, sSetO, sAsg, pName_ap, pTup, pCons, pNil, Option.bind_some, Option.map_some, ofS, sPut, sExpr, sRet, sRetO, sRetV, sRetN, sSkip, sBreak, sPar, mBool, mBin, mUn, mCB, mCBL, mCons, mNil_ap, mPure, mVar, mOwn, mOwn1, mOwnR, mNot, mAnd, mOr, mAndV, mOrV, mIf, mOfB, mTruD, truD, mTup, mLst, mCold, mMut, mMut0, mMove, mCall, mKw, asD, asO, gConsD, gConsS, gNilA_ap, callRes, lvsOf, toLV, refsOf, slotL, slotO, mSeq, mBinO, mPart, mSl, ER.bind, ER.toS, ofO, dropS, List.foldr_cons, List.foldr_nil, List.getElem?_cons_zero, List.getElem?_cons_succ, List.set_cons_zero, List.set_cons_succ, List.length_cons, List.length_nil, List.map_cons, List.map_nil, Nat.reduceAdd, Nat.reduceSub, if_true, if_false, Bool.false_eq_true, Bool.not_true, Bool.not_false, eq_self, decide_true, decide_false, Nat.reduceLeDiff, Nat.reduceEqDiff, reduceCtorEq, add_f, sub_f, neg_f, int_f, intb_f, abs_f, lenl_f, lent_f, lt_f, le_f, gt_f, ge_f, eq_f, ne_f, permL1, permL2, isTup_t, tup0, tup1, PNx, PRt, PRs, PBk, PCt, mExc, mFld, f1, f2, hs, SR.behind]
  exact ⟨trivial, rfl⟩
end pw_threadsround_k01_whole_quotients_and_rowG

set_option Elab.async false
set_option linter.all false
set_option maxRecDepth 100000
set_option maxHeartbeats 400000
namespace pw_threadsround_k01_whole_quotients_and_rowG
open PySem PySem.Spec L2 Pu
def smB : D → Bool | .tuple xs => decide (xs.length ≤ 1000) | _ => true
theorem smB_e {d : D} (h : smB d = true) : Sm d := fun xs e => by subst e; exact of_decide_eq_true h
def odds12 : List D := [.tuple [.int 2, .int 4], .tuple [.int 1, .int 0], .tuple [.int 1, .int (-1)], .tuple [.bool true, .int 1], .tuple [.int 1, .bool true], .list [.int 1, .int 2], .tuple [.int 1], .tuple [.int 1, .int 2, .int 3], .none, .int 5, .str "12", .tuple [.tuple [.int 1, .int 2], .int 1]]
def odds4 : List D := [.tuple [.int 0, .int 2], .tuple [.int (-2), .int 2], .tuple [.bool false, .int 1], .tuple []]
def odds16 : List D := odds12 ++ odds4
def odds7 : List D := [.bool true, .none, .str "3", .tuple [.int 1], .list [], .bool false, .list [.int 1]]
def odds11 : List D := [.tuple [.int 0], .tuple [.int 1, .int 0], .list [.int 1], .tuple [.bool true], .tuple [.int 1, .bool true], .none, .int 3, .str "1", .tuple [.tuple [.int 1]], .tuple [.str "1"], .tuple [.int 1, .none, .int 2]]
theorem pick (xs : List D) (p : D → Bool) (h : xs.all p = true) (r : Int) (h0 : 0 ≤ r) (h1 : r < xs.length) : ∃ d, fIx (.list xs) (.int r) = some d ∧ p d = true := by
  have hr : r.toNat < xs.length := by omega
  refine ⟨xs[r.toNat], ?_, List.all_eq_true.mp h _ (List.getElem_mem hr)⟩
  have := ixl_f (xs := xs) (i := r.toNat) (List.getElem?_eq_getElem hr)
  rw [show ((r.toNat : Nat) : Int) = r from by omega] at this
  exact this
theorem pick16 (r : Int) (h0 : 0 ≤ r) (h1 : r < 16) : ∃ d, fIx (.list odds16) (.int r) = some d ∧ quotZ d = false ∧ Sm d := by
  obtain ⟨d, e, h⟩ := pick odds16 (fun d => !quotZ d && smB d) (by decide +kernel) r h0 h1
  have h := Bool.and_eq_true_iff.mp h
  exact ⟨d, e, by simpa using h.1, smB_e h.2⟩
theorem pick7 (r : Int) (h0 : 0 ≤ r) (h1 : r < 7) : ∃ d, fIx (.list odds7) (.int r) = some d ∧ isZ d = false := by
  obtain ⟨d, e, h⟩ := pick odds7 (fun d => !isZ d) (by decide +kernel) r h0 h1
  exact ⟨d, e, by simpa using h⟩
theorem pick11 (r : Int) (h0 : 0 ≤ r) (h1 : r < 11) : ∃ d, fIx (.list odds11) (.int r) = some d ∧ rowZ d = false ∧ Sm d := by
  obtain ⟨d, e, h⟩ := pick odds11 (fun d => !rowZ d && smB d) (by decide +kernel) r h0 h1
  have h := Bool.and_eq_true_iff.mp h
  exact ⟨d, e, by simpa using h.1, smB_e h.2⟩
theorem pick9 (r : Int) (h0 : 0 ≤ r) (h1 : r < 9) : ∃ d, fIx (.list odds11) (.int (2 + r)) = some d ∧ flatZ d = false ∧ Sm d := by
  have hr : (2 + r.toNat) < 11 := by omega
  have he : fIx (.list odds11) (.int ((2 + r.toNat : Nat) : Int)) = some (odds11[2 + r.toNat]'hr) := ixl_f (List.getElem?_eq_getElem hr)
  rw [show ((2 + r.toNat : Nat) : Int) = 2 + r from by omega] at he
  refine ⟨_, he, ?_⟩
  have hm : odds11[2 + r.toNat]'hr ∈ odds11.drop 2 := by
    have := List.getElem_mem (l := odds11.drop 2) (n := r.toNat) (by show _ < 9; omega)
    rw [List.getElem_drop] at this
    exact this
  have ha : (odds11.drop 2).all (fun d => !flatZ d && smB d) = true := by decide +kernel
  have h := Bool.and_eq_true_iff.mp (List.all_eq_true.mp ha _ hm)
  exact ⟨by simpa using h.1, smB_e h.2⟩
theorem acts {k : Int} (h0 : 0 ≤ k) (h1 : k < 5) {x y : D} {e : Ex} (h : m_need_two [.d x, .d y] = .raise e none) : m__law_act [.d (.int k), .d x, .d y] = .raise e none := by
  have : k = 0 ∨ k = 1 ∨ k = 2 ∨ k = 3 ∨ k = 4 := by omega
  rcases this with rfl | rfl | rfl | rfl | rfl
  · exact act0 (plus_x h)
  · exact act1 (minus_x h)
  · exact act2 (times_x h)
  · exact act3 (over_x h)
  · exact act4 (is_less_x h)
theorem e__law_refusals (F : Fe) (hF : F.ok) (p q : Int) (g : GQ p q) (a : List Int) : ∃ F', m__law_refusals [.o F.oo, .d (qt p q), .d (tu a)] = .ret (.d (.bool true)) (some (Fe.oo F')) ∧ F'.ok := by
  have key := P_ex (r := m__law_refusals [.o F.oo, .d (qt p q), .d (tu a)]) (Φ := fun v o => ∃ F' : Fe, v = .d (.bool true) ∧ o = some (Fe.oo F') ∧ F'.ok) fun R X hR => by
    have hT : TakeOk m__law_take := e_take
    unfold m__law_refusals
    refine def_P ?_
    have hz := qt0 p q
    have two2 : ∀ {d : D}, quotZ d = false → Sm d → m_need_two [.d (qt p q), .d d] = .raise (nu "other") none := fun h1 h2 => two_2 sm_qt h2 (quot_t g) h1
    have ov0 := refuses_ok (act3 (e_over_0 g))
    generalize tu a = A at *
    generalize qt p q = L at *
    simp only [pad, List.map_cons, List.map_nil, List.length_cons, List.length_nil, Nat.reduceAdd, Nat.reduceSub, List.cons_append, List.nil_append, List.replicate]
    refine P_seqN (set_okE (d := .list odds12) rfl rfl) ?_
    refine P_seqN (set_okE (d := .list odds16) rfl rfl) ?_
    simp only [List.set_cons_zero, List.set_cons_succ]
    have hr := range1_ok (n := 5) (ms := mCons (mPure (.int 5)) mNil) (σ := [some (.o F.oo), some (.d L), some (.d A), some (.d (.list odds16)), none, none]) (σ1 := [some (.o F.oo), some (.d L), some (.d A), some (.d (.list odds16)), none, none]) rfl (by decide) (by decide)
    refine P_seq' (P_for hr (fun _ σ => ∃ (F : Fe) (u v : Option LV), F.ok ∧ σ = [some (.o F.oo), some (.d L), some (.d A), some (.d (.list odds16)), u, v]) ⟨F, _, _, hF, rfl⟩ (fun k d σ hx hI => ?_) fun σ hI => ?_)
    · obtain ⟨F1, u, v, h1, rfl⟩ := hI
      obtain ⟨hk, rfl⟩ := rangeD_get hx
      have hk5 : k < 5 := hk
      refine ⟨_, rfl, ?_⟩
      obtain ⟨r, F2, e2, r0, r1, h2⟩ := hT F1 h1 16 (by decide) (by decide)
      obtain ⟨d, ed, hd, sd⟩ := pick16 r r0 r1
      have k0 : (0 : Int) ≤ 0 + (k : Nat) := by omega
      have k1 : (0 : Int) + (k : Nat) < 5 := by omega
      have x1 := refuses_ok (acts k0 k1 (two_1 (y := L) sd hd))
      have x2 := refuses_ok (acts k0 k1 (two_1 (y := .none) sd hd))
      have x3 := refuses_ok (acts k0 k1 (two2 hd sd))
      generalize PyData.int (0 + (k : Nat)) = kd at *
      refine P_seqN (set_okE (bin_ok rfl (takeR e2) ed) rfl) ?_
      simp only [List.set_cons_zero, List.set_cons_succ]
      refine P_seqN (iff_ok (or2_ok (call4 rfl rfl rfl rfl x1) (call4 rfl rfl rfl rfl x2))) ?_
      have hn : sIf (mNot (mTruD (asD (mCall 4 m__law_refuses none (gConsD (mVar 4) (gConsD (mVar 1) (gConsD (mVar 5) (gConsD (mPure (.str "other")) gNilA)))))))) (sRet (mPure (.bool false))) sSkip [some (.o F2.oo), some (.d L), some (.d A), some (.d (.list odds16)), some (.d kd), some (.d d)] = .nx [some (.o F2.oo), some (.d L), some (.d A), some (.d (.list odds16)), some (.d kd), some (.d d)] :=
        ifn_ok (call4 rfl rfl rfl rfl x3)
      rw [hn, PNx]
      exact ⟨F2, _, _, h2, rfl⟩
    · obtain ⟨F1, u, v, h1, rfl⟩ := hI
      obtain ⟨r, F2, e2, r0, r1, h2⟩ := hT F1 h1 16 (by decide) (by decide)
      obtain ⟨d, ed, hd, sd⟩ := pick16 r r0 r1
      have x1 := refuses_ok (act8 (row_at_x (x := A) sd hd))
      refine P_seqN (iff_ok (or2_ok (call4 rfl rfl (bin_ok rfl (takeR e2) ed) rfl x1) (call4 rfl rfl (mtup2 rfl rfl) rfl ov0))) ?_
      obtain ⟨r', F3, e3, r0', r1', h3⟩ := hT F2 h2 7 (by decide) (by decide)
      obtain ⟨d', ed', hd'⟩ := pick7 r' r0' r1'
      refine P_seqN (set_okE (bin_ok (x := .list odds7) rfl (takeR e3) ed') rfl) ?_
      simp only [List.set_cons_zero, List.set_cons_succ]
      have x2 := refuses_ok (act5 (quotient_of_1 (y := .int 0) hd'))
      have x3 := refuses_ok (act5 (quotient_of_2 (a := 3) hd'))
      refine P_seqN (iff_ok (or2_ok (call4 rfl rfl rfl rfl x2) (call4 rfl rfl rfl rfl x3))) ?_
      have x4 := refuses_ok (act5 (quotient_of_0 (a := p)))
      have x5 := refuses_ok (act9 (row_moved_x (x := A) hd'))
      refine P_seqN (iff_ok (or2_ok (call4 rfl (bin_ok rfl rfl hz) rfl rfl x4) (call4 rfl rfl rfl rfl x5))) ?_
      refine P_seqN (set_okE (d := .list odds11) rfl rfl) ?_
      simp only [List.set_cons_zero, List.set_cons_succ]
      obtain ⟨r4, F4, e4, r40, r41, h4⟩ := hT F3 h3 11 (by decide) (by decide)
      obtain ⟨d4, ed4, hd4, sd4⟩ := pick11 r4 r40 r41
      refine P_seqN (set_okE (bin_ok rfl (takeR e4) ed4) rfl) ?_
      simp only [List.set_cons_zero, List.set_cons_succ]
      have x6 := refuses_ok (act6 (row_plus_x (x := A) sd4 hd4))
      have x7 := refuses_ok (act7 (row_times_x (x := A) sd4 hd4))
      refine P_seqN (iff_ok (or2_ok (call4 rfl rfl rfl rfl x6) (call4 rfl rfl rfl rfl x7))) ?_
      obtain ⟨r5, F5, e5, r50, r51, h5⟩ := hT F4 h4 9 (by decide) (by decide)
      obtain ⟨d5, ed5, hd5, sd5⟩ := pick9 r5 r50 r51
      have x8 := refuses_ok (act10 (x := .int 0) (row_of_x sd5 hd5))
      refine P_retN (call4 rfl rfl (bin_ok rfl (bin_ok rfl (takeR e5) add_f) ed5) rfl x8) ?_
      exact outP_s (x := F5.oo) rfl (hR _ _ ⟨F5, rfl, rfl, h5⟩)
  obtain ⟨v, o, e, F', rfl, rfl, h⟩ := key
  exact ⟨F', e, h⟩
end pw_threadsround_k01_whole_quotients_and_rowG

set_option Elab.async false
set_option linter.all false
set_option maxRecDepth 100000
set_option maxHeartbeats 400000
namespace Pu
open PySem PySem.Spec L2
theorem kw_ok {T : Fd} {n : Nat} {is : List Nat} {ms : M (List D)} {ds es : List D} {σ σ1 : Loc} {r : D} (hm : ms σ = .ok ds σ1) (hp : permL is ds = es) (hn : es.length = n) (hT : T (es.map LV.d) = .ret (.d r) none) : asD (mKw n T is ms) σ = .ok r σ1 := by
  have h1 : ∀ ds : List D, lvsOf σ1 (ds.map Ag.d) = some (ds.map LV.d) := fun ds => by
    induction ds with
    | nil => rfl
    | cons d l ih => rw [List.map_cons, lvsOf, ih]; rfl
  have h2 : ∀ (ds : List D) (k : Nat), refsOf k (ds.map Ag.d) = [] := fun ds => by
    induction ds with
    | nil => intro k; rfl
    | cons d l ih => intro k; rw [List.map_cons, refsOf, ih]
  unfold asD mKw
  rw [hm]
  show ER.bind (if (permL is ds).length = n then _ else _) _ = _
  rw [hp, if_pos hn]
  unfold callRes
  rw [h1, h2]
  show ER.bind (match T (es.map LV.d) with | .ret v _ => _ | .raise x _ => _ | .stuck => _) _ = _
  rw [hT]
  rfl
theorem kw2 {T : Fd} {a b : M D} {σ σ1 σ2 : Loc} {x y r : D} (ha : a σ = .ok x σ1) (hb : b σ1 = .ok y σ2) (hT : T [.d y, .d x] = .ret (.d r) none) : asD (mKw 2 T [1, 0] (mCons a (mCons b mNil))) σ = .ok r σ2 :=
  kw_ok (ds := [x, y]) (es := [y, x]) (cons_ok ha (cons_ok hb rfl)) rfl rfl hT
theorem kw1 {T : Fd} {a : M D} {σ σ1 : Loc} {x r : D} (ha : a σ = .ok x σ1) (hT : T [.d x] = .ret (.d r) none) : asD (mKw 1 T [0] (mCons a mNil)) σ = .ok r σ1 :=
  kw_ok (ds := [x]) (es := [x]) (cons_ok ha rfl) rfl rfl hT
end Pu
namespace pw_threadsround_k01_whole_quotients_and_rowG
open PySem PySem.Spec L2 Pu
theorem same_i8 (c : Int) : m__law_same 8 [.d (.int c), .d (.int c)] = .ret (.d (.bool true)) none := by
  rw [same_int 7 (.int c) c]
  show CRes.ret (.d (.bool (decide (c = c)))) none = _
  rw [decide_eq_true rfl]
theorem e__law_by_name (p q p' q' : Int) (a b : List Int) (g : GQ p q) (g' : GQ p' q') (s1 : Sz 98 p) (s2 : Sz 99 q) (s3 : Sz 98 p') (s4 : Sz 99 q') (ha : Poly a) (hb : Poly b) : m__law_by_name [.d (qt p q), .d (qt p' q'), .d (tu a), .d (tu b)] = .ret (.d (.bool true)) none := by
  have s1' := s1.mono (show 98 ≤ 300 by decide)
  have s2' := s2.mono (show 99 ≤ 300 by decide)
  have s3' := s3.mono (show 98 ≤ 300 by decide)
  have s4' := s4.mono (show 99 ≤ 300 by decide)
  have hal := ha.len
  have hbl := hb.len
  have hq' : q' ≠ 0 := by have := g'.pos; omega
  have f1 := e_quotient_of (t := p') hq' s4' (by decide)
  obtain ⟨u1, u2⟩ := red_uniq (t := p') (b := q') hq' g' rfl
  rw [← u1, ← u2] at f1
  have f2 := e_plus (n := 300) g g' s1' s2' s3' s4' (by decide)
  have f3 := e_minus (n := 300) g g' s1' s2' s3' s4' (by decide)
  have f4 := e_times (n := 300) g g' s1' s2' s3' s4' (by decide)
  have f5 := e_is_less (n := 300) g g' s1' s2' s3' s4' (by decide)
  obtain ⟨r7, f7, g7⟩ := e_row_plus a b (by omega) (by omega) hb.row
  obtain ⟨r8, f8, g8⟩ := e_row_times a b 960 (by omega) (by omega) ha.sz hb.sz (by decide) hb.row
  obtain ⟨P, Q, f9, _⟩ := e_row_at a p q g s1 s2 hal ha.sz
  obtain ⟨rb, f10, g10⟩ := e_row_of b (by omega)
  have hrb : rb = b := trim_eq g10 hb.row fun _ _ => rfl
  subst hrb
  obtain ⟨rm, f11, g11, _⟩ := e_row_moved a p 960 98 ha.row hal ha.sz s1 (by decide)
  obtain ⟨bs, eb, lb⟩ := signs_of a
  have f12 := e_sign_changes a (by omega) bs eb lb
  have y7 := same_rows r7 (by have := g7.len; omega)
  have y8 := same_rows r8 (by have := g8.len; omega)
  have y10 := same_rows rb (by omega)
  have y11 := same_rows rm (by have := g11.len; omega)
  have q0 := qt0 p q
  have q0' := qt0 p' q'
  have q1' := qt1 p' q'
  have y1 := same_qt p' q'
  have y2 := same_qt (redP (p * q' + p' * q) (q * q')) (redQ (p * q' + p' * q) (q * q'))
  have y3 := same_qt (redP (p * q' - p' * q) (q * q')) (redQ (p * q' - p' * q) (q * q'))
  have y4 := same_qt (redP (p * p') (q * q')) (redQ (p * p') (q * q'))
  have y9 := same_qt P Q
  have f6 : p' ≠ 0 → m_over [.d (qt p q), .d (qt p' q')] = .ret (.d (qt (redP (p * q') (q * p')) (redQ (p * q') (q * p')))) none := fun h0 => e_over (n := 300) g g' h0 s1' s2' s3' s4' (by decide)
  have y6 := same_qt (redP (p * q') (q * p')) (redQ (p * q') (q * p'))
  unfold m__law_by_name
  generalize tu a = A at *
  generalize tu rb = B at *
  generalize qt p q = L at *
  generalize qt p' q' = L' at *
  refine P_eq (def_P ?_)
  simp only [pad, List.map_cons, List.map_nil, List.length_cons, List.length_nil, Nat.reduceAdd, Nat.reduceSub, List.cons_append, List.nil_append, List.replicate]
  refine P_seqN (ifn_ok (call2 (kw2 (bin_ok rfl rfl q1') (bin_ok rfl rfl q0') f1) rfl y1)) ?_
  refine P_seqN (ifn_ok (call2 (kw2 rfl rfl f2) (call2 rfl rfl f2) y2)) ?_
  refine P_seqN (ifn_ok (call2 (kw2 rfl rfl f3) (call2 rfl rfl f3) y3)) ?_
  refine P_seqN (ifn_ok (call2 (kw2 rfl rfl f4) (call2 rfl rfl f4) y4)) ?_
  refine P_seqN (ifn_ok (call2 (kw2 rfl rfl f5) (call2 rfl rfl f5) (same_b8 _))) ?_
  refine P_seqN (σ1 := [some (.d L), some (.d L'), some (.d A), some (.d B)]) (iff_ok ?_) ?_
  · by_cases h0 : p' = 0
    · exact and_fk (bool_ok (bin_ok (bin_ok rfl rfl q0') rfl (by rw [ne_f, decide_eq_true h0]; rfl)))
    · refine and_tk (bool_ok (bin_ok (bin_ok rfl rfl q0') rfl (by rw [ne_f, decide_eq_false h0]; rfl))) ?_
      exact notT_ok (call2 (kw2 rfl rfl (f6 h0)) (call2 rfl rfl (f6 h0)) y6)
  refine P_seqN (ifn_ok (call2 (kw2 rfl rfl f7) (call2 rfl rfl f7) y7)) ?_
  refine P_seqN (ifn_ok (call2 (kw2 rfl rfl f8) (call2 rfl rfl f8) y8)) ?_
  refine P_seqN (iff_ok (or2_ok (call2 (kw2 rfl rfl f9) (call2 rfl rfl f9) y9) (call2 (kw1 rfl f10) rfl y10))) ?_
  refine P_seqN (ifn_ok (call2 (kw2 (bin_ok rfl rfl q0) rfl f11) (call2 rfl (bin_ok rfl rfl q0) f11) y11)) ?_
  refine P_retN (call2 (kw1 rfl f12) (call1 rfl f12) (same_i8 _)) ?_
  exact ⟨rfl, rfl⟩
end pw_threadsround_k01_whole_quotients_and_rowG

set_option Elab.async false
set_option linter.all false
set_option maxRecDepth 100000
set_option maxHeartbeats 400000
namespace Pu
open PySem PySem.Spec L2
theorem intR {T : Fd} {F F' : OO} {r : D} {σ : Loc} (h : T [.o F] = .ret (.d r) (some F')) : asD (mCall 1 T (some 0) (gConsS 0 gNilA)) (some (.o F) :: σ) = .ok r (some (.o F') :: σ) := by
  simp only [asD, mCall, gConsS, gNilA_ap, slotO, List.getElem?_cons_zero, ER.bind, List.length_cons, List.length_nil, Nat.reduceAdd, if_true, callRes, lvsOf, toLV, refsOf, Option.bind_some, Option.map_some, h, List.set_cons_zero]
theorem binO_ok {f : D → D → Option (List D)} {a b : M D} {σ σ1 σ2 : Loc} {x y : D} {c : List D} (ha : a σ = .ok x σ1) (hb : b σ1 = .ok y σ2) (hf : f x y = some c) : mBinO f a b σ = .ok (.lst c) σ2 := by
  unfold mBinO; rw [ha]; show ER.bind (b σ1) _ = _; rw [hb]; show ofO ((f x y).map OO.lst) σ2 = _; rw [hf]; rfl
theorem andV_ok {a b : M D} {σ σ1 : Loc} {r : ER D} (ha : a σ = .ok (.bool true) σ1) (hb : b σ1 = r) : mAndV a b σ = r := by
  unfold mAndV; rw [ha]; exact hb
end Pu
namespace pw_threadsround_k01_whole_quotients_and_rowG
open PySem PySem.Spec L2 Pu
theorem row_neg {a : List Int} (h : Row a) : Row (a.map fun k => -k) := by
  rcases List.eq_nil_or_concat a with e | ⟨A, z, e⟩
  · subst e; exact row_n
  · rw [List.concat_eq_append] at e
    subst e
    rw [List.map_append]
    show Pu.Row (_ ++ [-z])
    exact row_c (by have := row_last h; omega)
def nf : D → D | .int i => .int (-i) | _ => .none
theorem nf_map (a : List Int) : (a.map PyData.int).map nf = (a.map fun k => -k).map PyData.int := by rw [List.map_map, List.map_map]; rfl
theorem filt_of (g : D → Bool) (a : List Int) : ∃ ns : List Int, ((a.map PyData.int).filter g).map id = ns.map PyData.int ∧ ns.length ≤ a.length := by
  induction a with
  | nil => exact ⟨[], rfl, Nat.le_refl _⟩
  | cons c r ih =>
    obtain ⟨ns, e, h⟩ := ih
    rw [List.map_cons, List.filter_cons]
    cases hc : g (.int c) with
    | false => rw [if_neg (by simp)]; exact ⟨ns, e, by rw [List.length_cons]; omega⟩
    | true => rw [if_pos rfl]; exact ⟨c :: ns, by rw [List.map_cons, e]; rfl, by rw [List.length_cons, List.length_cons]; omega⟩
theorem cut5 (xs : List D) : cutD xs none (some 5) = xs.take 5 := by
  unfold cutD
  rw [HT.sIx_none, show HT.sIx xs.length xs.length (some 5) = min 5 xs.length from HT.sIx_nat xs.length _ 5, List.drop_zero, Nat.sub_zero]
  rw [List.take_eq_take_iff]
  omega
theorem cut1 (xs : List D) : cutD xs (some 1) none = xs.drop 1 := by
  unfold cutD
  rw [HT.sIx_none, show HT.sIx xs.length 0 (some 1) = min 1 xs.length from HT.sIx_nat xs.length _ 1]
  have h1 : xs.drop (min 1 xs.length) = xs.drop 1 := by
    cases xs with
    | nil => rfl
    | cons a r => rw [Nat.min_eq_left (by rw [List.length_cons]; omega)]
  rw [h1, List.take_of_length_le (by rw [List.length_drop]; omega)]
def looseE : M D := mCB gTuple (mCons (mCold (mBinO fCatL (mCold (mComp (mSeq (mSl (mVar 1) (mPure none) (mPart (mPure (.int 5))))) (pName 8) (mBool (mBin fLt (mCB gAbs (mCons (mVar 8) mNil)) (mBin fPow (mPure (.int 10)) (mPure (.int 60))))) (mVar 8) [8])) (mCold (mBinO fRepL (mCold (mLst (mCons (mPure (.int 0)) mNil))) (asD (mCall 2 m__law_take (some 0) (gConsS 0 (gConsD (mPure (.int 4)) gNilA)))))))) mNil)
theorem loose_ok (F : Fe) (hF : F.ok) (a : List Int) (hl : a.length ≤ 8) (B P : D) (t : Pu.Loc) (ht : t = [some (.d B), some (.d P)]) (m : D) : ∃ (c : List Int) (F' : Fe), looseE [some (.o F.oo), some (.d (tu a)), some (.d B), some (.d P), some (.d m), none, none, none, none] = .ok (tu c) [some (.o F'.oo), some (.d (tu a)), some (.d B), some (.d P), some (.d m), none, none, none, none] ∧ F'.ok ∧ c.length ≤ 100 := by
  have hT : TakeOk m__law_take := e_take
  obtain ⟨r, F1, e1, r0, r1, h1⟩ := hT F hF 4 (by decide) (by decide)
  have hp := c10
  obtain ⟨W, hW⟩ : ∃ W : Int, W = 10 ^ 60 := ⟨_, rfl⟩
  rw [← hW] at hp
  let g : D → Bool := fun | .int z => decide (((z.natAbs : Nat) : Int) < W) | _ => false
  obtain ⟨ns, en, ln⟩ := filt_of g (a.take 5)
  obtain ⟨σ, hσ⟩ : ∃ σ : Pu.Loc, σ = [some (.o F.oo), some (.d (tu a)), some (.d B), some (.d P), some (.d m), none, none, none, none] := ⟨_, rfl⟩
  have hs : mSeq (mSl (mVar 1) (mPure none) (mPart (mPure (.int 5)))) σ = .ok ((a.take 5).map PyData.int) σ := by
    refine seqT_ok ?_
    subst hσ
    show ER.ok (PyData.tuple (cutD (a.map PyData.int) none (some 5))) _ = _
    rw [cut5, List.map_take]
  have hcomp := comp_filter (pt := pName 8) (t := mBool (mBin fLt (mCB gAbs (mCons (mVar 8) mNil)) (mBin fPow (mPure (.int 10)) (mPure (.int 60))))) (me := mVar 8) (vs := [8]) (σ := σ) g id ((a.take 5).map PyData.int) [] fun d hd => by
    obtain ⟨i, _, rfl⟩ := List.mem_map.mp hd
    subst hσ
    have hg : g (.int i) = decide (((i.natAbs : Nat) : Int) < W) := rfl
    rw [hg]
    generalize tu a = A at *
    refine ⟨[some (.o F.oo), some (.d A), some (.d B), some (.d P), some (.d m), none, none, none, some (.d (.int i))], [some (.o F.oo), some (.d A), some (.d B), some (.d P), some (.d m), none, none, none, some (.d (.int i))], rfl, ?_, fun _ => rfl, fun _ => ⟨[some (.o F.oo), some (.d A), some (.d B), some (.d P), some (.d m), none, none, none, some (.d (.int i))], rfl, rfl⟩⟩
    exact bool_ok (bin_ok (cb_ok (cons_ok rfl rfl) (by rw [abs_f, abs_na])) (bin_ok rfl rfl hp) lt_f)
  have hc := cold_ok (comp_eq hs (by rw [List.length_map, List.length_take]; omega) (σ2 := σ) (by subst hσ; rfl) hcomp)
  rw [List.nil_append, en] at hc
  refine ⟨ns ++ List.replicate r.toNat 0, F1, ?_, h1, ?_⟩
  · rw [← hσ]
    unfold looseE
    refine cb_ok (ds := [.list ((ns ++ List.replicate r.toNat 0).map PyData.int)]) (cons_ok (cold_ok (binO_ok (y := .list ((List.replicate r.toNat (0 : Int)).map PyData.int)) hc ?_ ?_)) rfl) rfl
    · subst hσ
      refine cold_ok (binO_ok rfl (takeR e1) ?_)
      rw [List.map_replicate, ← rep1 r.toNat (.int 0) (by omega)]
      congr 2
      omega
    · rw [List.map_append]
      refine cat_ok ?_
      rw [List.length_map, List.length_map, List.length_replicate]
      rw [List.length_take] at ln
      omega
  · rw [List.length_append, List.length_replicate]
    rw [List.length_take] at ln
    omega
theorem hi_sz {p q : Int} (sp : Sz 98 p) (sq : Sz 99 q) : ∀ (l : List Int), (∀ y ∈ l, Sz 960 y) → Sz (1061 + 100 * l.length) (hi p q l) ∧ Sz (1 + 99 * l.length) (q ^ l.length)
  | [], _ => ⟨Sz.zero, by show Sz _ (q ^ 0); rw [Int.pow_zero]; exact (Sz.one (n := 0)).mono (by omega)⟩
  | c :: r, h => by
    obtain ⟨h1, h2⟩ := hi_sz sp sq r fun y hy => h y (List.mem_cons_of_mem _ hy)
    have hc := h c (List.mem_cons_self ..)
    constructor
    · show Sz _ (hi p q r * p + c * q ^ r.length)
      rw [List.length_cons]
      exact Sz.max (h1.mul sp) (hc.mul h2) (by omega) (by omega)
    · rw [List.length_cons, Int.pow_succ]
      exact (h2.mul sq).mono (by omega)
theorem e__law_rows (F : Fe) (hF : F.ok) (a b : List Int) (p q : Int) (ha : Poly a) (hb : Poly b) (g : GQ p q) (sp : Sz 98 p) (sq' : Sz 99 q) : ∃ F', m__law_rows [.o F.oo, .d (tu a), .d (tu b), .d (qt p q)] = .ret (.d (.bool true)) (some (Fe.oo F')) ∧ F'.ok := by
  have key := P_ex (r := m__law_rows [.o F.oo, .d (tu a), .d (tu b), .d (qt p q)]) (Φ := fun v o => ∃ F' : Fe, v = .d (.bool true) ∧ o = some (Fe.oo F') ∧ F'.ok) fun R X hR => by
    have hI : IntOk m__law_integer := e__law_integer
    have hal := ha.len
    have hbl := hb.len
    obtain ⟨r1, f1, g1⟩ := e_row_plus a b (by omega) (by omega) hb.row
    obtain ⟨r1', f1', h1r, h1e⟩ := e__law_sum_row a b (by omega) (by omega)
    have e1 : r1 = r1' := sum_eq g1 h1r fun x _ => h1e x
    subst e1
    have y1 := same_rows r1 (by have := g1.len; omega)
    obtain ⟨na, hna⟩ : ∃ na : List Int, na = a.map fun k => -k := ⟨_, rfl⟩
    have nal : na.length = a.length := by rw [hna, List.length_map]
    obtain ⟨r2, f2, g2⟩ := e_row_plus a na (by omega) (by omega) (by rw [hna]; exact row_neg ha.row)
    have e2 : r2 = [] := sum_eq g2 row_n fun x _ => by rw [hna, ev_neg]; show 0 = _; omega
    subst e2
    obtain ⟨r3, f3, g3⟩ := e_row_plus a [] (by omega) (by simp) row_n
    have e3 : r3 = a := sum_eq g3 ha.row fun x _ => by show _ = _ + 0; omega
    subst e3
    have y0 := same_rows [] (by simp)
    have y3 := same_rows r3 (by omega)
    obtain ⟨r4, f4, g4⟩ := e_row_times r3 b 960 (by omega) (by omega) ha.sz hb.sz (by decide) hb.row
    have y4 := e__law_product r3 b r4 ha hb g4
    obtain ⟨r5, f5, g5⟩ := e_row_times [] r3 960 (by simp) (by omega) (fun y h => by cases h) ha.sz (by decide) ha.row
    have e5 : r5 = [] := ev_uniq r5 [] 1 (by decide) g5.row row_n fun x _ => by rw [g5.ev]; show 0 * _ = 0; omega
    subst e5
    have hLoose := loose_ok
    obtain ⟨P, Q, f8, g8, zP, zQ, h8⟩ := e_row_at r3 p q g sp sq' hal ha.sz
    obtain ⟨zh, zl⟩ := hi_sz sp sq' r3 ha.sz
    have m8 := mulS zh sq' (by omega)
    have y8 := e__law_stands (n := 3000) (hi := hi p q r3 * q) (lo := q ^ r3.length) g8 (zP.mono (by decide)) (zQ.mono (by decide)) ((zh.mul sq').mono (by omega)) (zl.mono (by omega)) (by decide) h8
    have hMv := fun m sm => e__law_moved r3 m ha sm
    obtain ⟨bs, eb, lb⟩ := signs_of r3
    have f12 := e_sign_changes r3 (by omega) bs eb lb
    have f13 := e__law_changes r3 (by omega) bs eb lb
    have q0 := qt0 p q
    have q1 := qt1 p q
    have l1 : gLen [tu r3] = some (.int (r3.length : Nat)) := by rw [lent_f, List.length_map]
    have hcm : ∀ (B P : D) (σ : Pu.Loc), σ = [some (.o F.oo), some (.d (tu r3)), some (.d B), some (.d P), none, none, none, none, none] → mCB gTuple (mCons (mCold (mComp (mSeq (mVar 1)) (pName 8) (mPure true) (mUn fNeg (mVar 8)) [8])) mNil) σ = .ok (tu na) σ := fun B P σ hσ => by
      have hs : mSeq (mVar 1) σ = .ok (r3.map PyData.int) σ := by subst hσ; rfl
      have hk := comp_map (pt := pName 8) (t := mPure true) (me := mUn fNeg (mVar 8)) (vs := [8]) (σ := σ) nf (r3.map PyData.int) [] fun d hd => by
        obtain ⟨i, _, rfl⟩ := List.mem_map.mp hd
        subst hσ
        generalize tu r3 = A at *
        refine ⟨[some (.o F.oo), some (.d A), some (.d B), some (.d P), none, none, none, none, some (.d (.int i))], _, [some (.o F.oo), some (.d A), some (.d B), some (.d P), none, none, none, none, some (.d (.int i))], rfl, rfl, ?_, rfl⟩
        exact un_ok rfl neg_f
      rw [nf_map, ← hna, List.nil_append] at hk
      exact cb_ok (cons_ok (cold_ok (comp_eq hs (by rw [List.length_map]; omega) (by subst hσ; rfl) hk)) rfl) rfl
    have hone : 1 < r3.length → ∃ c : List Int, tu c = .tuple (PyData.int (1 - r3.headD 0) :: (na.map PyData.int).drop 1) ∧ m_row_plus [.d (tu c), .d (tu r3)] = .ret (.d (tu [1])) none := fun h => by
      refine ⟨(1 - r3.headD 0) :: na.drop 1, by unfold tu; rw [List.map_cons, List.map_drop], ?_⟩
      obtain ⟨r, f, gg⟩ := e_row_plus ((1 - r3.headD 0) :: na.drop 1) r3 (by rw [List.length_cons, List.length_drop]; omega) (by omega) ha.row
      have : r = [1] := sum_eq gg (row_c (A := []) (by decide)) fun x _ => by
        subst hna
        cases r3 with
        | nil => simp at h
        | cons c s =>
          show 1 + x * 0 = (1 - c) + x * ev (s.map fun k => -k) x + (c + x * ev s x)
          rw [ev_neg, Int.mul_neg]
          omega
      rw [this] at f
      exact f
    have hhd : 0 < r3.length → fIx (tu r3) (.int 0) = some (.int (r3.headD 0)) := fun h => by
      cases r3 with
      | nil => simp at h
      | cons c s =>
        show fIx _ (.int ((0 : Nat) : Int)) = _
        exact ixt_f rfl
    have hRo : ∀ c : List Int, c.length ≤ 100 → ∃ r, m_row_of [.d (tu c)] = .ret (.d (tu r)) none ∧ m__law_stripped [.d (tu c)] = .ret (.d (tu r)) none ∧ m__law_same 8 [.d (tu r), .d (tu r)] = .ret (.d (.bool true)) none := fun c hc => by
      obtain ⟨r, f, gg⟩ := e_row_of c (by omega)
      obtain ⟨r', f', gg'⟩ := e__law_stripped false c (by omega)
      have : r = r' := trim_eq gg gg'.row fun x _ => gg'.ev x
      subst this
      exact ⟨r, f, f', same_rows r (by have := gg.len; omega)⟩
    unfold m__law_rows
    have hcat : fCatT (.tuple [.int (1 - r3.headD 0)]) (.tuple ((na.map PyData.int).drop 1)) = some (.tuple (PyData.int (1 - r3.headD 0) :: (na.map PyData.int).drop 1)) := by
      unfold fCatT
      exact if_pos (by rw [List.length_drop, List.length_map]; show 1 + (na.length - 1) ≤ sizeLine; exact Nat.le_trans (show 1 + (na.length - 1) ≤ 100 by omega) (by decide))
    have hsl : ∀ σ : Pu.Loc, mVar 4 σ = .ok (tu na) σ → mSl (mVar 4) (mPart (mPure (.int 1))) (mPure none) σ = .ok (.tuple ((na.map PyData.int).drop 1)) σ := fun σ h => by
      unfold mSl
      rw [h]
      show ER.ok (PyData.tuple (cutD (na.map PyData.int) (some 1) none)) σ = _
      rw [cut1]
    have hrv : ∀ B P m l h w u, mSeq (mUn fRev (mVar 1)) [some (.o F.oo), some (.d (tu r3)), some (.d B), some (.d P), m, l, h, w, u] = .ok (r3.map PyData.int).reverse [some (.o F.oo), some (.d (tu r3)), some (.d B), some (.d P), m, l, h, w, u] := fun _ _ _ _ _ _ _ => rfl
    have hrv : ∀ (F : OO) B P m l h w u, mSeq (mUn fRev (mVar 1)) [some (.o F), some (.d (tu r3)), some (.d B), some (.d P), m, l, h, w, u] = .ok (r3.map PyData.int).reverse [some (.o F), some (.d (tu r3)), some (.d B), some (.d P), m, l, h, w, u] := fun _ _ _ _ _ _ _ _ => rfl
    have hLo := fun (F : Fe) (hF : F.ok) B P m => loose_ok F hF r3 hal B P _ rfl m
    generalize tu r3 = A at *
    generalize tu b = B at *
    generalize qt p q = L at *
    refine def_P ?_
    simp only [pad, List.map_cons, List.map_nil, List.length_cons, List.length_nil, Nat.reduceAdd, Nat.reduceSub, List.cons_append, List.nil_append, List.replicate]
    refine P_seqN (ifn_ok (call2 (call2 rfl rfl f1) (call2 rfl rfl f1') y1)) ?_
    refine P_seqN (set_okE (hcm B L _ rfl) rfl) ?_
    simp only [List.set_cons_zero, List.set_cons_succ]
    refine P_seqN (iff_ok (or2_ok (call2 (call2 rfl rfl f2) (tup_ok rfl (by simp)) y0) (call2 (call2 rfl (tup_ok rfl (by simp)) f3) rfl y3))) ?_
    refine P_seq' (P_mono (N := fun σ => ∃ m : D, σ = [some (.o F.oo), some (.d A), some (.d B), some (.d L), some (.d m), none, none, none, none]) (T := fun _ _ => False) (X := fun _ _ => False) (B := fun _ => False) (C := fun _ => False) ?_ ?_ (fun _ _ h => h.elim) (fun _ _ h => h.elim) (fun _ h => h.elim) (fun _ h => h.elim))
    · by_cases hl : 1 < r3.length
      · have d1 : decide ((1 : Int) < (r3.length : Nat)) = true := decide_eq_true (by omega)
        obtain ⟨c, ec, fc⟩ := hone hl
        refine P_if (bool_ok (bin_ok (cb_ok (cons_ok rfl rfl) l1) rfl (by rw [gt_f, d1]))) (fun _ => ?_) (fun h => by cases h)
        refine P_seqN (set_okE (bin_ok (mtup1 (bin_ok rfl (bin_ok rfl rfl (hhd (by omega))) sub_f)) (hsl _ rfl) hcat) rfl) ?_
        simp only [List.set_cons_zero, List.set_cons_succ]
        rw [← ec]
        have hn : sIf (mNot (mTruD (asD (mCall 2 (m__law_same 8) none (gConsD (asD (mCall 2 m_row_plus none (gConsD (mVar 4) (gConsD (mVar 1) gNilA)))) (gConsD (mTup (mCons (mPure (.int 1)) mNil)) gNilA)))))) (sRet (mPure (.bool false))) sSkip [some (.o F.oo), some (.d A), some (.d B), some (.d L), some (.d (tu c)), none, none, none, none] = .nx [some (.o F.oo), some (.d A), some (.d B), some (.d L), some (.d (tu c)), none, none, none, none] :=
          ifn_ok (call2 (call2 rfl rfl fc) (mtup1 rfl) (same_rows [1] (by simp)))
        rw [hn, PNx]
        exact ⟨_, rfl⟩
      · have d1 : decide ((1 : Int) < (r3.length : Nat)) = false := decide_eq_false (by omega)
        refine P_if (bool_ok (bin_ok (cb_ok (cons_ok rfl rfl) l1) rfl (by rw [gt_f, d1]))) (fun h => by cases h) (fun _ => ?_)
        show SR.P (.nx _) _
        rw [PNx]
        exact ⟨_, rfl⟩
    rintro σ ⟨m, rfl⟩
    refine P_seqN (iff_ok (or2_ok (call3 (call2 rfl rfl f4) rfl rfl y4) (call2 (call2 (tup_ok rfl (by simp)) rfl f5) (tup_ok rfl (by simp)) y0))) ?_
    obtain ⟨c, F1, ec, hF1, lc⟩ := hLo F hF B L m
    refine P_seqN (set_okE ec rfl) ?_
    simp only [List.set_cons_zero, List.set_cons_succ]
    obtain ⟨rc, fc1, fc2, fc3⟩ := hRo c lc
    refine P_seqN (ifn_ok (call2 (call1 rfl fc1) (call1 rfl fc2) fc3)) ?_
    refine P_seqN (set_okE (d := .int 0) rfl rfl) ?_
    refine P_seqN (set_okE (d := .int 1) rfl rfl) ?_
    simp only [List.set_cons_zero, List.set_cons_succ]
    refine P_seq' (P_for (hrv _ _ _ _ _ _ _ _) (fun j σ => ∃ u : Option LV, σ = [some (.o F1.oo), some (.d A), some (.d B), some (.d L), some (.d m), some (.d (tu c)), some (.d (.int (hi p q (r3.drop (r3.length - j))))), some (.d (.int (q ^ j))), u]) ⟨none, by rw [Nat.sub_zero, List.drop_length, Int.pow_zero]; rfl⟩ (fun j d σ hd hI => ?_) fun σ hI => ?_)
    · obtain ⟨u, rfl⟩ := hI
      obtain ⟨hj, rfl⟩ := rev_get hd
      refine ⟨_, rfl, ?_⟩
      have hc := ha.sz _ (List.getElem_mem (show r3.length - 1 - j < r3.length by omega))
      have hld := last_drop hj
      have zz := hi_sz sp sq' (r3.drop (r3.length - j)) fun y hy => ha.sz y (List.mem_of_mem_drop hy)
      rw [List.length_drop, show r3.length - (r3.length - j) = j from by omega] at zz
      have hnew : hi p q (r3.drop (r3.length - (j + 1))) = hi p q (r3.drop (r3.length - j)) * p + r3[r3.length - 1 - j]'(by omega) * q ^ j := by
        rw [hld]
        show _ * p + _ * q ^ (r3.drop (r3.length - j)).length = _
        rw [List.length_drop, show r3.length - (r3.length - j) = j from by omega]
      rw [hnew]
      generalize r3[r3.length - 1 - j]'(by omega) = k at *
      have mA := mulS zz.1 sp (by omega)
      have mB := mulS hc zz.2 (by omega)
      have mC := mulS zz.2 sq' (by omega)
      rw [← Int.pow_succ] at mC
      generalize hi p q (r3.drop (r3.length - j)) = H at *
      generalize q ^ j = W at *
      generalize q ^ (j + 1) = W1 at *
      show SR.P (sSeq _ _ [some (.o F1.oo), some (.d A), some (.d B), some (.d L), some (.d m), some (.d (tu c)), some (.d (.int H)), some (.d (.int W)), some (.d (.int k))]) _
      refine P_seqN (set_okE (bin_ok (bin_ok rfl (bin_ok rfl rfl q0) mA) (bin_ok rfl rfl mB) add_f) rfl) ?_
      simp only [List.set_cons_zero, List.set_cons_succ]
      have hn : sSet 7 (mBin fMul (mVar 7) (mBin fIx (mVar 3) (mPure (.int 1)))) [some (.o F1.oo), some (.d A), some (.d B), some (.d L), some (.d m), some (.d (tu c)), some (.d (.int (H * p + k * W))), some (.d (.int W)), some (.d (.int k))] = .nx [some (.o F1.oo), some (.d A), some (.d B), some (.d L), some (.d m), some (.d (tu c)), some (.d (.int (H * p + k * W))), some (.d (.int W1)), some (.d (.int k))] :=
        set_okE (bin_ok rfl (bin_ok rfl rfl q1) mC) rfl
      rw [hn, PNx]
      exact ⟨_, rfl⟩
    · obtain ⟨u, rfl⟩ := hI
      rw [List.length_reverse, List.length_map, Nat.sub_self, List.drop_zero]
      refine P_seqN (ifn_ok (call3 (call2 rfl rfl f8) (bin_ok rfl (bin_ok rfl rfl q1) m8) rfl y8)) ?_
      obtain ⟨x, F2, e9, z9, h9⟩ := hI F1 hF1
      refine P_retN (andV_ok (call2 rfl (intR e9) (hMv x z9)) (call2 (call1 rfl f12) (call1 rfl f13) (same_i8 _))) ?_
      exact outP_s (x := F2.oo) rfl (hR _ _ ⟨F2, rfl, rfl, h9⟩)
  obtain ⟨v, o, e, F', rfl, rfl, h⟩ := key
  exact ⟨F', e, h⟩
end pw_threadsround_k01_whole_quotients_and_rowG

set_option Elab.async false
set_option linter.all false
set_option maxRecDepth 100000
set_option maxHeartbeats 1000000
namespace pw_threadsround_k01_whole_quotients_and_rowG
open PySem PySem.Spec L2 Pu
theorem e_feed (ns : List Int) : m__law_feed [.d (.list (ns.map PyData.int))] = .ret (.o (Fe.oo ⟨ns, 0, 0, 1109⟩)) none := rfl
theorem law_true (ns : List Int) : m_law [.d (.list (ns.map PyData.int))] = .ret (.d (.bool true)) none := by
  have ef := e_feed ns
  have h0 : Fe.ok ⟨ns, 0, 0, 1109⟩ := ⟨Int.le_refl 0, ⟨by show (0 : Int) ≤ 1109; decide, by show (1109 : Int) < 2147483647; decide⟩, Int.le_refl 0⟩
  generalize (⟨ns, 0, 0, 1109⟩ : Fe) = F0 at *
  obtain ⟨p, q, F1, e1, g1, s1, t1, h1⟩ := e__law_quotient F0 h0
  obtain ⟨p', q', F2, e2, g2, s2, t2, h2⟩ := e__law_quotient F1 h1
  obtain ⟨r, F3, e3, r0, r1, h3⟩ := e_take F2 h2 8 (by decide) (by decide)
  obtain ⟨a, F4, e4, pa, h4⟩ := e__law_poly F3 h3 (decide (r = 5))
  obtain ⟨b, F5, e5, pb, h5⟩ := e__law_poly F4 h4 false
  obtain ⟨F6, e6, h6⟩ := e__law_quotients F5 h5 p q p' q' g1 g2 s1 t1 s2 t2
  obtain ⟨F7, e7, h7⟩ := e__law_quotients F6 h6 p' q' p q g2 g1 s2 t2 s1 t1
  obtain ⟨F8, e8, h8⟩ := e__law_rows F7 h7 a b p q pa pb g1 s1 t1
  obtain ⟨F9, e9, h9⟩ := e__law_rows F8 h8 b a p' q' pb pa g2 s2 t2
  obtain ⟨F10, e10, h10⟩ := e__law_refusals F9 h9 p q g1 a
  have e11 := e__law_by_name p q p' q' a b g1 g2 s1 t1 s2 t2 pa pb
  obtain ⟨F12, e12, h12⟩ := e__law_rows F10 h10 a b p' q' pa pb g2 s2 t2
  unfold m_law
  generalize m__law_feed = T0 at *
  generalize m__law_quotient = T1 at *
  generalize m__law_take = T2 at *
  generalize m__law_poly = T3 at *
  generalize m__law_quotients = T4 at *
  generalize m__law_rows = T5 at *
  generalize m__law_refusals = T6 at *
  generalize m__law_by_name = T7 at *
  refine P_eq (def_P ?_)
  generalize PyData.list (ns.map PyData.int) = d0 at *
  have e4 : T3 [.o F3.oo, .d (.bool (decide (r = 5)))] = .ret (.d (tu a)) (some F4.oo) := e4
  have e5 : T3 [.o F4.oo, .d (.bool false)] = .ret (.d (tu b)) (some F5.oo) := e5
  generalize tu a = A at *
  generalize tu b = B at *
  generalize qt p q = L at *
  generalize qt p' q' = L' at *
  simp only [pad, List.map_cons, List.map_nil, List.length_cons, List.length_nil, Nat.reduceAdd, Nat.reduceSub, List.cons_append, List.nil_append, List.replicate]
  refine P_seq fun K hK => ?_
  simp only [sSeq, SR.andThen, sIf, sSet_ap, sSetO, sAsg, pName_ap, pTup, pCons, pNil, Option.bind_some, Option.map_some, ofS, sPut, sExpr, sRet, sRetO, sRetV, sRetN, sSkip, sBreak, sPar, mBool, mBin, mUn, mCB, mCBL, mCons, mNil_ap, mPure, mVar, mOwn, mOwn1, mOwnR, mNot, mAnd, mOr, mAndV, mOrV, mIf, mOfB, mTruD, truD, mTup, mLst, mCold, mMut, mMut0, mMove, mCall, mKw, asD, asO, gConsD, gConsS, gNilA_ap, callRes, lvsOf, toLV, refsOf, slotL, slotO, mSeq, mBinO, mPart, mSl, ER.bind, ER.toS, ofO, dropS, List.foldr_cons, List.foldr_nil, List.getElem?_cons_zero, List.getElem?_cons_succ, List.set_cons_zero, List.set_cons_succ, List.length_cons, List.length_nil, List.map_cons, List.map_nil, Nat.reduceAdd, Nat.reduceSub, if_true, if_false, Bool.false_eq_true, Bool.not_true, Bool.not_false, eq_self, decide_true, decide_false, Nat.reduceLeDiff, Nat.reduceEqDiff, reduceCtorEq, add_f, sub_f, neg_f, int_f, intb_f, abs_f, lenl_f, lent_f, lt_f, le_f, gt_f, ge_f, eq_f, ne_f, permL1, permL2, isTup_t, tup0, tup1, PNx, PRt, PRs, PBk, PCt, ef]
  refine hK _ ?_
  clear hK K
  refine P_seq fun K hK => ?_
  simp only [sSeq, SR.andThen, sIf, sSet_ap, sSetO, sAsg, pName_ap, pTup, pCons, pNil, Option.bind_some, Option.map_some, ofS, sPut, sExpr, sRet, sRetO, sRetV, sRetN, sSkip, sBreak, sPar, mBool, mBin, mUn, mCB, mCBL, mCons, mNil_ap, mPure, mVar, mOwn, mOwn1, mOwnR, mNot, mAnd, mOr, mAndV, mOrV, mIf, mOfB, mTruD, truD, mTup, mLst, mCold, mMut, mMut0, mMove, mCall, mKw, asD, asO, gConsD, gConsS, gNilA_ap, callRes, lvsOf, toLV, refsOf, slotL, slotO, mSeq, mBinO, mPart, mSl, ER.bind, ER.toS, ofO, dropS, List.foldr_cons, List.foldr_nil, List.getElem?_cons_zero, List.getElem?_cons_succ, List.set_cons_zero, List.set_cons_succ, List.length_cons, List.length_nil, List.map_cons, List.map_nil, Nat.reduceAdd, Nat.reduceSub, if_true, if_false, Bool.false_eq_true, Bool.not_true, Bool.not_false, eq_self, decide_true, decide_false, Nat.reduceLeDiff, Nat.reduceEqDiff, reduceCtorEq, add_f, sub_f, neg_f, int_f, intb_f, abs_f, lenl_f, lent_f, lt_f, le_f, gt_f, ge_f, eq_f, ne_f, permL1, permL2, isTup_t, tup0, tup1, PNx, PRt, PRs, PBk, PCt, e1]
  refine hK _ ?_
  clear hK K
  refine P_seq fun K hK => ?_
  simp only [sSeq, SR.andThen, sIf, sSet_ap, sSetO, sAsg, pName_ap, pTup, pCons, pNil, Option.bind_some, Option.map_some, ofS, sPut, sExpr, sRet, sRetO, sRetV, sRetN, sSkip, sBreak, sPar, mBool, mBin, mUn, mCB, mCBL, mCons, mNil_ap, mPure, mVar, mOwn, mOwn1, mOwnR, mNot, mAnd, mOr, mAndV, mOrV, mIf, mOfB, mTruD, truD, mTup, mLst, mCold, mMut, mMut0, mMove, mCall, mKw, asD, asO, gConsD, gConsS, gNilA_ap, callRes, lvsOf, toLV, refsOf, slotL, slotO, mSeq, mBinO, mPart, mSl, ER.bind, ER.toS, ofO, dropS, List.foldr_cons, List.foldr_nil, List.getElem?_cons_zero, List.getElem?_cons_succ, List.set_cons_zero, List.set_cons_succ, List.length_cons, List.length_nil, List.map_cons, List.map_nil, Nat.reduceAdd, Nat.reduceSub, if_true, if_false, Bool.false_eq_true, Bool.not_true, Bool.not_false, eq_self, decide_true, decide_false, Nat.reduceLeDiff, Nat.reduceEqDiff, reduceCtorEq, add_f, sub_f, neg_f, int_f, intb_f, abs_f, lenl_f, lent_f, lt_f, le_f, gt_f, ge_f, eq_f, ne_f, permL1, permL2, isTup_t, tup0, tup1, PNx, PRt, PRs, PBk, PCt, e2]
  refine hK _ ?_
  clear hK K
  refine P_seq fun K hK => ?_
  simp only [sSeq, SR.andThen, sIf, sSet_ap, sSetO, sAsg, pName_ap, pTup, pCons, pNil, Option.bind_some, Option.map_some, ofS, sPut, sExpr, sRet, sRetO, sRetV, sRetN, sSkip, sBreak, sPar, mBool, mBin, mUn, mCB, mCBL, mCons, mNil_ap, mPure, mVar, mOwn, mOwn1, mOwnR, mNot, mAnd, mOr, mAndV, mOrV, mIf, mOfB, mTruD, truD, mTup, mLst, mCold, mMut, mMut0, mMove, mCall, mKw, asD, asO, gConsD, gConsS, gNilA_ap, callRes, lvsOf, toLV, refsOf, slotL, slotO, mSeq, mBinO, mPart, mSl, ER.bind, ER.toS, ofO, dropS, List.foldr_cons, List.foldr_nil, List.getElem?_cons_zero, List.getElem?_cons_succ, List.set_cons_zero, List.set_cons_succ, List.length_cons, List.length_nil, List.map_cons, List.map_nil, Nat.reduceAdd, Nat.reduceSub, if_true, if_false, Bool.false_eq_true, Bool.not_true, Bool.not_false, eq_self, decide_true, decide_false, Nat.reduceLeDiff, Nat.reduceEqDiff, reduceCtorEq, add_f, sub_f, neg_f, int_f, intb_f, abs_f, lenl_f, lent_f, lt_f, le_f, gt_f, ge_f, eq_f, ne_f, permL1, permL2, isTup_t, tup0, tup1, PNx, PRt, PRs, PBk, PCt, e3]
  refine hK _ ?_
  clear hK K
  refine P_seq fun K hK => ?_
  simp only [sSeq, SR.andThen, sIf, sSet_ap, sSetO, sAsg, pName_ap, pTup, pCons, pNil, Option.bind_some, Option.map_some, ofS, sPut, sExpr, sRet, sRetO, sRetV, sRetN, sSkip, sBreak, sPar, mBool, mBin, mUn, mCB, mCBL, mCons, mNil_ap, mPure, mVar, mOwn, mOwn1, mOwnR, mNot, mAnd, mOr, mAndV, mOrV, mIf, mOfB, mTruD, truD, mTup, mLst, mCold, mMut, mMut0, mMove, mCall, mKw, asD, asO, gConsD, gConsS, gNilA_ap, callRes, lvsOf, toLV, refsOf, slotL, slotO, mSeq, mBinO, mPart, mSl, ER.bind, ER.toS, ofO, dropS, List.foldr_cons, List.foldr_nil, List.getElem?_cons_zero, List.getElem?_cons_succ, List.set_cons_zero, List.set_cons_succ, List.length_cons, List.length_nil, List.map_cons, List.map_nil, Nat.reduceAdd, Nat.reduceSub, if_true, if_false, Bool.false_eq_true, Bool.not_true, Bool.not_false, eq_self, decide_true, decide_false, Nat.reduceLeDiff, Nat.reduceEqDiff, reduceCtorEq, add_f, sub_f, neg_f, int_f, intb_f, abs_f, lenl_f, lent_f, lt_f, le_f, gt_f, ge_f, eq_f, ne_f, permL1, permL2, isTup_t, tup0, tup1, PNx, PRt, PRs, PBk, PCt, e4]
  refine hK _ ?_
  clear hK K
  refine P_seq fun K hK => ?_
  simp only [sSeq, SR.andThen, sIf, sSet_ap, sSetO, sAsg, pName_ap, pTup, pCons, pNil, Option.bind_some, Option.map_some, ofS, sPut, sExpr, sRet, sRetO, sRetV, sRetN, sSkip, sBreak, sPar, mBool, mBin, mUn, mCB, mCBL, mCons, mNil_ap, mPure, mVar, mOwn, mOwn1, mOwnR, mNot, mAnd, mOr, mAndV, mOrV, mIf, mOfB, mTruD, truD, mTup, mLst, mCold, mMut, mMut0, mMove, mCall, mKw, asD, asO, gConsD, gConsS, gNilA_ap, callRes, lvsOf, toLV, refsOf, slotL, slotO, mSeq, mBinO, mPart, mSl, ER.bind, ER.toS, ofO, dropS, List.foldr_cons, List.foldr_nil, List.getElem?_cons_zero, List.getElem?_cons_succ, List.set_cons_zero, List.set_cons_succ, List.length_cons, List.length_nil, List.map_cons, List.map_nil, Nat.reduceAdd, Nat.reduceSub, if_true, if_false, Bool.false_eq_true, Bool.not_true, Bool.not_false, eq_self, decide_true, decide_false, Nat.reduceLeDiff, Nat.reduceEqDiff, reduceCtorEq, add_f, sub_f, neg_f, int_f, intb_f, abs_f, lenl_f, lent_f, lt_f, le_f, gt_f, ge_f, eq_f, ne_f, permL1, permL2, isTup_t, tup0, tup1, PNx, PRt, PRs, PBk, PCt, e5]
  refine hK _ ?_
  clear hK K
  refine P_seq fun K hK => ?_
  simp only [sSeq, SR.andThen, sIf, sSet_ap, sSetO, sAsg, pName_ap, pTup, pCons, pNil, Option.bind_some, Option.map_some, ofS, sPut, sExpr, sRet, sRetO, sRetV, sRetN, sSkip, sBreak, sPar, mBool, mBin, mUn, mCB, mCBL, mCons, mNil_ap, mPure, mVar, mOwn, mOwn1, mOwnR, mNot, mAnd, mOr, mAndV, mOrV, mIf, mOfB, mTruD, truD, mTup, mLst, mCold, mMut, mMut0, mMove, mCall, mKw, asD, asO, gConsD, gConsS, gNilA_ap, callRes, lvsOf, toLV, refsOf, slotL, slotO, mSeq, mBinO, mPart, mSl, ER.bind, ER.toS, ofO, dropS, List.foldr_cons, List.foldr_nil, List.getElem?_cons_zero, List.getElem?_cons_succ, List.set_cons_zero, List.set_cons_succ, List.length_cons, List.length_nil, List.map_cons, List.map_nil, Nat.reduceAdd, Nat.reduceSub, if_true, if_false, Bool.false_eq_true, Bool.not_true, Bool.not_false, eq_self, decide_true, decide_false, Nat.reduceLeDiff, Nat.reduceEqDiff, reduceCtorEq, add_f, sub_f, neg_f, int_f, intb_f, abs_f, lenl_f, lent_f, lt_f, le_f, gt_f, ge_f, eq_f, ne_f, permL1, permL2, isTup_t, tup0, tup1, PNx, PRt, PRs, PBk, PCt, e6, e7]
  refine hK _ ?_
  clear hK K
  refine P_seq fun K hK => ?_
  simp only [sSeq, SR.andThen, sIf, sSet_ap, sSetO, sAsg, pName_ap, pTup, pCons, pNil, Option.bind_some, Option.map_some, ofS, sPut, sExpr, sRet, sRetO, sRetV, sRetN, sSkip, sBreak, sPar, mBool, mBin, mUn, mCB, mCBL, mCons, mNil_ap, mPure, mVar, mOwn, mOwn1, mOwnR, mNot, mAnd, mOr, mAndV, mOrV, mIf, mOfB, mTruD, truD, mTup, mLst, mCold, mMut, mMut0, mMove, mCall, mKw, asD, asO, gConsD, gConsS, gNilA_ap, callRes, lvsOf, toLV, refsOf, slotL, slotO, mSeq, mBinO, mPart, mSl, ER.bind, ER.toS, ofO, dropS, List.foldr_cons, List.foldr_nil, List.getElem?_cons_zero, List.getElem?_cons_succ, List.set_cons_zero, List.set_cons_succ, List.length_cons, List.length_nil, List.map_cons, List.map_nil, Nat.reduceAdd, Nat.reduceSub, if_true, if_false, Bool.false_eq_true, Bool.not_true, Bool.not_false, eq_self, decide_true, decide_false, Nat.reduceLeDiff, Nat.reduceEqDiff, reduceCtorEq, add_f, sub_f, neg_f, int_f, intb_f, abs_f, lenl_f, lent_f, lt_f, le_f, gt_f, ge_f, eq_f, ne_f, permL1, permL2, isTup_t, tup0, tup1, PNx, PRt, PRs, PBk, PCt, e8, e9]
  refine hK _ ?_
  clear hK K
  refine P_seq fun K hK => ?_
  simp only [sSeq, SR.andThen, sIf, sSet_ap, sSetO, sAsg, pName_ap, pTup, pCons, pNil, Option.bind_some, Option.map_some, ofS, sPut, sExpr, sRet, sRetO, sRetV, sRetN, sSkip, sBreak, sPar, mBool, mBin, mUn, mCB, mCBL, mCons, mNil_ap, mPure, mVar, mOwn, mOwn1, mOwnR, mNot, mAnd, mOr, mAndV, mOrV, mIf, mOfB, mTruD, truD, mTup, mLst, mCold, mMut, mMut0, mMove, mCall, mKw, asD, asO, gConsD, gConsS, gNilA_ap, callRes, lvsOf, toLV, refsOf, slotL, slotO, mSeq, mBinO, mPart, mSl, ER.bind, ER.toS, ofO, dropS, List.foldr_cons, List.foldr_nil, List.getElem?_cons_zero, List.getElem?_cons_succ, List.set_cons_zero, List.set_cons_succ, List.length_cons, List.length_nil, List.map_cons, List.map_nil, Nat.reduceAdd, Nat.reduceSub, if_true, if_false, Bool.false_eq_true, Bool.not_true, Bool.not_false, eq_self, decide_true, decide_false, Nat.reduceLeDiff, Nat.reduceEqDiff, reduceCtorEq, add_f, sub_f, neg_f, int_f, intb_f, abs_f, lenl_f, lent_f, lt_f, le_f, gt_f, ge_f, eq_f, ne_f, permL1, permL2, isTup_t, tup0, tup1, PNx, PRt, PRs, PBk, PCt, e10, e11]
  refine hK _ ?_
  clear hK K
  (simp only [sSeq, SR.andThen, sIf, sSet_ap, sSetO, sAsg, pName_ap, pTup, pCons, pNil, Option.bind_some, Option.map_some, ofS, sPut, sExpr, sRet, sRetO, sRetV, sRetN, sSkip, sBreak, sPar, mBool, mBin, mUn, mCB, mCBL, mCons, mNil_ap, mPure, mVar, mOwn, mOwn1, mOwnR, mNot, mAnd, mOr, mAndV, mOrV, mIf, mOfB, mTruD, truD, mTup, mLst, mCold, mMut, mMut0, mMove, mCall, mKw, asD, asO, gConsD, gConsS, gNilA_ap, callRes, lvsOf, toLV, refsOf, slotL, slotO, mSeq, mBinO, mPart, mSl, ER.bind, ER.toS, ofO, dropS, List.foldr_cons, List.foldr_nil, List.getElem?_cons_zero, List.getElem?_cons_succ, List.set_cons_zero, List.set_cons_succ, List.length_cons, List.length_nil, List.map_cons, List.map_nil, Nat.reduceAdd, Nat.reduceSub, if_true, if_false, Bool.false_eq_true, Bool.not_true, Bool.not_false, eq_self, decide_true, decide_false, Nat.reduceLeDiff, Nat.reduceEqDiff, reduceCtorEq, add_f, sub_f, neg_f, int_f, intb_f, abs_f, lenl_f, lent_f, lt_f, le_f, gt_f, ge_f, eq_f, ne_f, permL1, permL2, isTup_t, tup0, tup1, PNx, PRt, PRs, PBk, PCt, e12]; first | done | exact ⟨rfl, rfl⟩ | exact ⟨trivial, rfl⟩ | trivial)
end pw_threadsround_k01_whole_quotients_and_rowG

set_option Elab.async false
set_option linter.all false
set_option maxRecDepth 100000
set_option maxHeartbeats 0
namespace pw_threadsround_k01_whole_quotients_and_rowG
open PySem PySem.Spec L2 Pu PyProof.Rows
theorem bo_is_integer : BindE "is_integer" "is_integer" (top 2) ["thing"] := fun _ _ _ _ _ _ us hl => match us, hl with | [_], _ => rfl
theorem bo_is_integer_tuple : BindE "is_integer_tuple" "is_integer_tuple" (top 3) ["thing"] := fun _ _ _ _ _ _ us hl => match us, hl with | [_], _ => rfl
theorem bo_is_integer_pair : BindE "is_integer_pair" "is_integer_pair" (top 4) ["thing"] := fun _ _ _ _ _ _ us hl => match us, hl with | [_], _ => rfl
theorem bo_is_quotient : BindE "is_quotient" "is_quotient" (top 5) ["thing"] := fun _ _ _ _ _ _ us hl => match us, hl with | [_], _ => rfl
theorem bo_is_row : BindE "is_row" "is_row" (top 6) ["thing"] := fun _ _ _ _ _ _ us hl => match us, hl with | [_], _ => rfl
theorem bo_need : BindE "need" "need" (top 15) ["good", "name"] := fun _ _ _ _ _ _ us hl => match us, hl with | [_, _], _ => rfl
theorem bo_lowest : BindE "lowest" "lowest" (top 17) ["top", "bottom"] := fun _ _ _ _ _ _ us hl => match us, hl with | [_, _], _ => rfl
theorem bo_need_two : BindE "need_two" "need_two" (top 18) ["one", "other"] := fun _ _ _ _ _ _ us hl => match us, hl with | [_, _], _ => rfl
theorem bo_quotient_of : BindE "quotient_of" "quotient_of" (top 19) ["top", "bottom"] := fun _ _ _ _ _ _ us hl => match us, hl with | [_, _], _ => rfl
theorem bo_plus : BindE "plus" "plus" (top 20) ["one", "other"] := fun _ _ _ _ _ _ us hl => match us, hl with | [_, _], _ => rfl
theorem bo_minus : BindE "minus" "minus" (top 21) ["one", "other"] := fun _ _ _ _ _ _ us hl => match us, hl with | [_, _], _ => rfl
theorem bo_times : BindE "times" "times" (top 22) ["one", "other"] := fun _ _ _ _ _ _ us hl => match us, hl with | [_, _], _ => rfl
theorem bo_over : BindE "over" "over" (top 23) ["one", "other"] := fun _ _ _ _ _ _ us hl => match us, hl with | [_, _], _ => rfl
theorem bo_is_less : BindE "is_less" "is_less" (top 24) ["one", "other"] := fun _ _ _ _ _ _ us hl => match us, hl with | [_, _], _ => rfl
theorem bo_trimmed : BindE "trimmed" "trimmed" (top 26) ["numbers"] := fun _ _ _ _ _ _ us hl => match us, hl with | [_], _ => rfl
theorem bo_added : BindE "added" "added" (top 27) ["one", "other"] := fun _ _ _ _ _ _ us hl => match us, hl with | [_, _], _ => rfl
theorem bo_multiplied : BindE "multiplied" "multiplied" (top 28) ["one", "other"] := fun _ _ _ _ _ _ us hl => match us, hl with | [_, _], _ => rfl
theorem bo_row_of : BindE "row_of" "row_of" (top 29) ["numbers"] := fun _ _ _ _ _ _ us hl => match us, hl with | [_], _ => rfl
theorem bo_row_plus : BindE "row_plus" "row_plus" (top 30) ["row", "other"] := fun _ _ _ _ _ _ us hl => match us, hl with | [_, _], _ => rfl
theorem bo_row_times : BindE "row_times" "row_times" (top 31) ["row", "other"] := fun _ _ _ _ _ _ us hl => match us, hl with | [_, _], _ => rfl
theorem bo_row_at : BindE "row_at" "row_at" (top 32) ["row", "value"] := fun _ _ _ _ _ _ us hl => match us, hl with | [_, _], _ => rfl
theorem bo_row_moved : BindE "row_moved" "row_moved" (top 33) ["row", "by"] := fun _ _ _ _ _ _ us hl => match us, hl with | [_, _], _ => rfl
theorem bo_sign_changes : BindE "sign_changes" "sign_changes" (top 34) ["row"] := fun _ _ _ _ _ _ us hl => match us, hl with | [_], _ => rfl
theorem bo__law_feed : BindE "_law_feed" "_law_feed" (top 36) ["_law_script"] := fun _ _ _ _ _ _ us hl => match us, hl with | [_], _ => rfl
theorem bo__law_take : BindE "_law_take" "_law_take" (top 37) ["_law_feed_here", "_law_many"] := fun _ _ _ _ _ _ us hl => match us, hl with | [_, _], _ => rfl
theorem bo__law_same : BindE "_law_same" "_law_same" (top 38) ["_law_got", "_law_due"] := fun _ _ _ _ _ _ us hl => match us, hl with | [_, _], _ => rfl
theorem bo__law_integer : BindE "_law_integer" "_law_integer" (top 39) ["_law_feed_here"] := fun _ _ _ _ _ _ us hl => match us, hl with | [_], _ => rfl
theorem bo__law_common : BindE "_law_common" "_law_common" (top 40) ["_law_left", "_law_right"] := fun _ _ _ _ _ _ us hl => match us, hl with | [_, _], _ => rfl
theorem bo__law_lowest : BindE "_law_lowest" "_law_lowest" (top 41) ["_law_high", "_law_low"] := fun _ _ _ _ _ _ us hl => match us, hl with | [_, _], _ => rfl
theorem bo__law_quotient : BindE "_law_quotient" "_law_quotient" (top 42) ["_law_feed_here"] := fun _ _ _ _ _ _ us hl => match us, hl with | [_], _ => rfl
theorem bo__law_is_integer : BindE "_law_is_integer" "_law_is_integer" (top 43) ["_law_got"] := fun _ _ _ _ _ _ us hl => match us, hl with | [_], _ => rfl
theorem bo__law_is_row : BindE "_law_is_row" "_law_is_row" (top 44) ["_law_got"] := fun _ _ _ _ _ _ us hl => match us, hl with | [_], _ => rfl
theorem bo__law_stands : BindE "_law_stands" "_law_stands" (top 45) ["_law_got", "_law_high", "_law_low"] := fun _ _ _ _ _ _ us hl => match us, hl with | [_, _, _], _ => rfl
theorem bo__law_poly : BindE "_law_poly" "_law_poly" (top 46) ["_law_feed_here", "_law_great"] := fun _ _ _ _ _ _ us hl => match us, hl with | [_, _], _ => rfl
theorem bo__law_at : BindE "_law_at" "_law_at" (top 47) ["_law_parts", "_law_spot"] := fun _ _ _ _ _ _ us hl => match us, hl with | [_, _], _ => rfl
theorem bo__law_stripped : BindE "_law_stripped" "_law_stripped" (top 48) ["_law_parts"] := fun _ _ _ _ _ _ us hl => match us, hl with | [_], _ => rfl
theorem bo__law_sum_row : BindE "_law_sum_row" "_law_sum_row" (top 49) ["_law_left", "_law_right"] := fun _ _ _ _ _ _ us hl => match us, hl with | [_, _], _ => rfl
theorem bo__law_product : BindE "_law_product" "_law_product" (top 50) ["_law_got", "_law_left", "_law_right"] := fun _ _ _ _ _ _ us hl => match us, hl with | [_, _, _], _ => rfl
theorem bo__law_moved : BindE "_law_moved" "_law_moved" (top 51) ["_law_left", "_law_shift"] := fun _ _ _ _ _ _ us hl => match us, hl with | [_, _], _ => rfl
theorem bo__law_changes : BindE "_law_changes" "_law_changes" (top 52) ["_law_left"] := fun _ _ _ _ _ _ us hl => match us, hl with | [_], _ => rfl
theorem bo__law_quotients : BindE "_law_quotients" "_law_quotients" (top 53) ["_law_feed_here", "_law_left", "_law_right"] := fun _ _ _ _ _ _ us hl => match us, hl with | [_, _, _], _ => rfl
theorem bo__law_rows : BindE "_law_rows" "_law_rows" (top 54) ["_law_feed_here", "_law_left", "_law_right", "_law_part"] := fun _ _ _ _ _ _ us hl => match us, hl with | [_, _, _, _], _ => rfl
theorem bo__law_act : BindE "_law_act" "_law_act" (top 55) ["_law_kind", "_law_left", "_law_right"] := fun _ _ _ _ _ _ us hl => match us, hl with | [_, _, _], _ => rfl
theorem bo__law_refuses : BindE "_law_refuses" "_law_refuses" (top 56) ["_law_kind", "_law_left", "_law_right", "_law_due"] := fun _ _ _ _ _ _ us hl => match us, hl with | [_, _, _, _], _ => rfl
theorem bo__law_refusals : BindE "_law_refusals" "_law_refusals" (top 57) ["_law_feed_here", "_law_left", "_law_poly_here"] := fun _ _ _ _ _ _ us hl => match us, hl with | [_, _, _], _ => rfl
theorem bo__law_by_name : BindE "_law_by_name" "_law_by_name" (top 58) ["_law_left", "_law_near", "_law_poly_here", "_law_pair"] := fun _ _ _ _ _ _ us hl => match us, hl with | [_, _, _, _], _ => rfl
theorem bo_law : BindE "law" "law" (top 59) ["_law_script"] := fun _ _ _ _ _ _ us hl => match us, hl with | [_], _ => rfl
theorem boi_NotUsable : BindE "__init__" "NotUsable.__init__" (inClass (top 13) 0) ["self", "word", "at"] := fun _ _ _ _ _ _ us hl => match us, hl with | [_, _, _], _ => rfl
theorem bo_all : ∀ d ∈ txE.fn, BindE d.x d.x d.st d.ps := (List.forall_mem_cons.mpr ⟨bo_is_integer, (List.forall_mem_cons.mpr ⟨bo_is_integer_tuple, (List.forall_mem_cons.mpr ⟨bo_is_integer_pair, (List.forall_mem_cons.mpr ⟨bo_is_quotient, (List.forall_mem_cons.mpr ⟨bo_is_row, (List.forall_mem_cons.mpr ⟨bo_need, (List.forall_mem_cons.mpr ⟨bo_lowest, (List.forall_mem_cons.mpr ⟨bo_need_two, (List.forall_mem_cons.mpr ⟨bo_quotient_of, (List.forall_mem_cons.mpr ⟨bo_plus, (List.forall_mem_cons.mpr ⟨bo_minus, (List.forall_mem_cons.mpr ⟨bo_times, (List.forall_mem_cons.mpr ⟨bo_over, (List.forall_mem_cons.mpr ⟨bo_is_less, (List.forall_mem_cons.mpr ⟨bo_trimmed, (List.forall_mem_cons.mpr ⟨bo_added, (List.forall_mem_cons.mpr ⟨bo_multiplied, (List.forall_mem_cons.mpr ⟨bo_row_of, (List.forall_mem_cons.mpr ⟨bo_row_plus, (List.forall_mem_cons.mpr ⟨bo_row_times, (List.forall_mem_cons.mpr ⟨bo_row_at, (List.forall_mem_cons.mpr ⟨bo_row_moved, (List.forall_mem_cons.mpr ⟨bo_sign_changes, (List.forall_mem_cons.mpr ⟨bo__law_feed, (List.forall_mem_cons.mpr ⟨bo__law_take, (List.forall_mem_cons.mpr ⟨bo__law_same, (List.forall_mem_cons.mpr ⟨bo__law_integer, (List.forall_mem_cons.mpr ⟨bo__law_common, (List.forall_mem_cons.mpr ⟨bo__law_lowest, (List.forall_mem_cons.mpr ⟨bo__law_quotient, (List.forall_mem_cons.mpr ⟨bo__law_is_integer, (List.forall_mem_cons.mpr ⟨bo__law_is_row, (List.forall_mem_cons.mpr ⟨bo__law_stands, (List.forall_mem_cons.mpr ⟨bo__law_poly, (List.forall_mem_cons.mpr ⟨bo__law_at, (List.forall_mem_cons.mpr ⟨bo__law_stripped, (List.forall_mem_cons.mpr ⟨bo__law_sum_row, (List.forall_mem_cons.mpr ⟨bo__law_product, (List.forall_mem_cons.mpr ⟨bo__law_moved, (List.forall_mem_cons.mpr ⟨bo__law_changes, (List.forall_mem_cons.mpr ⟨bo__law_quotients, (List.forall_mem_cons.mpr ⟨bo__law_rows, (List.forall_mem_cons.mpr ⟨bo__law_act, (List.forall_mem_cons.mpr ⟨bo__law_refuses, (List.forall_mem_cons.mpr ⟨bo__law_refusals, (List.forall_mem_cons.mpr ⟨bo__law_by_name, (List.forall_mem_cons.mpr ⟨bo_law, (fun _ h => by cases h)⟩)⟩)⟩)⟩)⟩)⟩)⟩)⟩)⟩)⟩)⟩)⟩)⟩)⟩)⟩)⟩)⟩)⟩)⟩)⟩)⟩)⟩)⟩)⟩)⟩)⟩)⟩)⟩)⟩)⟩)⟩)⟩)⟩)⟩)⟩)⟩)⟩)⟩)⟩)⟩)⟩)⟩)⟩)⟩)⟩)⟩)⟩)
theorem boi_all : ∀ c ∈ txE.ec, BindE "__init__" c.q c.ini c.ps := (List.forall_mem_cons.mpr ⟨boi_NotUsable, (fun _ h => by cases h)⟩)
def lo0 : List PySem.Str := ["is_integer", "is_integer_tuple", "is_integer_pair", "is_quotient", "is_row", "ThreadError", "PaperError", "PatternError", "LiveError", "TextError", "NotUsable", "need"]
def lo1 : List PySem.Str := ["lowest", "need_two", "quotient_of", "plus", "minus", "times", "over", "is_less", "trimmed", "added", "multiplied", "row_of"]
def lo2 : List PySem.Str := ["row_plus", "row_times", "row_at", "row_moved", "sign_changes", "_law_feed", "_law_take", "_law_same", "_law_integer", "_law_common", "_law_lowest", "_law_quotient"]
def lo3 : List PySem.Str := ["_law_is_integer", "_law_is_row", "_law_stands", "_law_poly", "_law_at", "_law_stripped", "_law_sum_row", "_law_product", "_law_moved", "_law_changes", "_law_quotients", "_law_rows"]
def lo4 : List PySem.Str := ["_law_act", "_law_refuses", "_law_refusals", "_law_by_name"]
def loE : List PySem.Str := lo0 ++ lo1 ++ lo2 ++ lo3 ++ lo4
abbrev RR : PySem.W.OpenRow := PySem.W.OpenLaw.row PySem.Challenge.rw_threadsround_k01_whole_quotients_and_row
abbrev hk : PySem.W.Hook := He.hookX 5 (faT txE) (fnT txE) [] [] (moreB txE)
def ob (s : PySem.W.SharedT) : He.AlX := He.obsX 5 (faT txE) (fnT txE) [] [] (moreB txE) (HandSHeadRun.getT s)
theorem ob_eq (s : PySem.W.SharedT) : ob s = hk.obs s.abs := He.obsX_eq (HandSHeadRun.getT_eq s)
abbrev qv : Program := PySem.W.view RR.prog [0, 59]
theorem run (w : World) : HandSHeadRun.RunEqI RR qv hk ob 8000 loE w := by
  unfold HandSHeadRun.RunEqI
  kernel_rfl
theorem facts {P : Program} {w : World} {K : PySem.W.Frag} {h : Heap} {mg : Str → Option Value} {f : Addr} (X : K.In h) (G : h.Ns mainGlobals mg) (hfa : mg ("law" : Str) = some (.ref f)) (c : He.SaysX (faT txE) (fnT txE) [] [] (moreB txE) w h K) :
    ∃ fd : FuncData, (∀ (s : Shared) (v : Value), BindsTo s fd ⟨[v], []⟩ [("_law_script", v)]) ∧ ∀ base : Heap, FnOk P w K mg base (L2N.CX P w) 11 f fd ["_law_script"] (spOf K (cAd K) 1 none m_law) := by
  have Z := cz_of X G c.t.d c.more bo_all boi_all (by decide +kernel)
  have e := hfa.symm.trans (g_law Z)
  cases e
  exact ⟨_, fun s v => binds_any (F_law Z) bo_law s [v] rfl, fun base => ok_law Z⟩
theorem facts2 (hlaw : ∀ ns : List Int, ns.length ≤ 63 → m_law [.d (.list (ns.map PyData.int))] = .ret (.d (.bool true)) none) : PySem.W.WalkO qv loE (PySem.W.XL qv []) hk.says RR.toRowW (HandSHeadRun.topDef RR.prog 59) [] (fun f vs => PySem.call f vs) := by
  refine walk_w (l := PySem.Challenge.rw_threadsround_k01_whole_quotients_and_row) (n := 63) (k := 11) (x := "_law_script") (CX := L2N.CX PySem.Challenge.pw_threadsround_k01_whole_quotients_and_row) rfl (by decide) (by kernel_rfl) ⟨rfl, by decide, by decide⟩ ?F (fun _ _ _ _ _ z => cx_noneN z)
  intro w mg fa h Y G hmg0
  obtain ⟨K, KX, c⟩ := Y
  have hmg : mg ("law" : PySem.Str) = some (.ref fa) := by
    have e : (HandSHeadRun.topDef RR.prog 59).name = ("law" : PySem.Str) := by kernel_rfl
    rw [← e]
    exact hmg0
  obtain ⟨fd, hb, hF⟩ := facts (P := PySem.Challenge.pw_threadsround_k01_whole_quotients_and_row) (w := w) KX G hmg c
  exact ⟨K, fd, spOf K (cAd K) 1 none m_law, KX, hb, fun H a ns hl _ hS => sp_law hS (hlaw ns hl), fun base _ _ => hF base⟩
end pw_threadsround_k01_whole_quotients_and_rowG
open PySem PySem.W PySem.Calls PyProof.Rows
theorem pw_threadsround_k01_whole_quotients_and_row_holds_if (hlaw : ∀ ns : List Int, ns.length ≤ 63 → pw_threadsround_k01_whole_quotients_and_rowG.m_law [.d (.list (ns.map PyData.int))] = .ret (.d (.bool true)) none) : PySem.Challenge.rw_threadsround_k01_whole_quotients_and_row.Holds := by
  w_on; o_law
  refine HandSHeadRun.head_imp (r := OpenLaw.row PySem.Challenge.rw_threadsround_k01_whole_quotients_and_row) (q := pw_threadsround_k01_whole_quotients_and_rowG.qv) (H := pw_threadsround_k01_whole_quotients_and_rowG.hk) (ob := pw_threadsround_k01_whole_quotients_and_rowG.ob) (M := 8000) (loose := pw_threadsround_k01_whole_quotients_and_rowG.loE) (d := HandSHeadRun.topDef (OpenLaw.row PySem.Challenge.rw_threadsround_k01_whole_quotients_and_row).prog 59) (kwd := []) pw_threadsround_k01_whole_quotients_and_rowG.ob_eq
    pw_threadsround_k01_whole_quotients_and_rowG.run (by kernel_rfl) (by kernel_rfl) (by kernel_rfl) (by rfl) (by first | assumption | decide +kernel) (by decide +kernel) ⟨rfl, rfl, rfl, rfl, rfl, by decide +kernel⟩ ?hw ?hc
  case hw => w_witness2
  case hc => exact pw_threadsround_k01_whole_quotients_and_rowG.facts2 hlaw

set_option Elab.async false
set_option maxRecDepth 100000 in
set_option maxHeartbeats 8000000 in
theorem PySem.Challenge.cw_threadsround_k01_whole_quotients_and_row_holds : PySem.Challenge.rw_threadsround_k01_whole_quotients_and_row.Holds := by
  exact pw_threadsround_k01_whole_quotients_and_row_holds_if fun ns _ => pw_threadsround_k01_whole_quotients_and_rowG.law_true ns
