import PyProof.Rows.All
import Wide.All
import OpenK.AllK
import Wide.FinOn
import HandS.ForMost
import HandS.ForExc
import HandS.TupAny
import HandS.TupMul
import HandS.IsInst
import HandS.SortInts
import HandS.Conv
import HandS.Deep
import HandS.Zip
import HandS.RaiseMore
import HandS.ExcInit
import HandS.CallSlots
import PyProof.ReprRoads
import KE.KExcInit
import HandS.ExcField
import HandS.ExcIs
import KE.KExcIs
import HandS.MakeKw
import PySem.Challenge.RW_idlewishes_k80_errors_of_the_third_part
set_option Elab.async false
set_option linter.all false
set_option maxRecDepth 100000
set_option maxHeartbeats 4000000
/-! An engine over the layer: what a def does to plain data, told by a Lean function (Mo) over slots, and once for each construct that the layer's reading follows from it. -/
namespace EG
open PySem PySem.Spec PyProof.Rows L2

/-! ### data that lie in the heap -/
/-- a list, a tuple that is read and no longer changed: its address is not among those that may change -/
def SL (K : PySem.W.Frag) (M : List Addr) (H : Hp) (a : Addr) (xs : List V) : Prop := (Rd H a (.lst xs) ∧ a ∉ M) ∨ SqL K (fun _ => none) a xs
def ST (K : PySem.W.Frag) (M : List Addr) (H : Hp) (a : Addr) (xs : List V) : Prop := (Rd H a (.tup xs) ∧ a ∉ M) ∨ SqT K (fun _ => none) a xs
def kD : Key → PyData
  | .inl i => .int i
  | .inr s => .str s
mutual
inductive Dt (K : PySem.W.Frag) (M : List Addr) (H : Hp) : V → PyData → Prop
  | non : Dt K M H .non .none
  | bl (b : Bool) : Dt K M H (.bl b) (.bool b)
  | int (i : Int) : Dt K M H (.int i) (.int i)
  | str (x : Str) : Dt K M H (.str x) (.str x)
  | lst {a : Addr} {xs : List V} {ds : List PyData} : H a = some (.lst xs) → a ∉ M → DtA K M H xs ds → Dt K M H (.ref a) (.list ds)
  | tup {a : Addr} {xs : List V} {ds : List PyData} : ST K M H a xs → DtA K M H xs ds → Dt K M H (.ref a) (.tuple ds)
  | dic {a : Addr} {kvs : List (Key × V)} {ds : List (PyData × PyData)} : H a = some (.dK kvs) → a ∉ M → DtK K M H kvs ds → Dt K M H (.ref a) (.dict ds)
inductive DtA (K : PySem.W.Frag) (M : List Addr) (H : Hp) : List V → List PyData → Prop
  | nil : DtA K M H [] []
  | cons {v : V} {vs : List V} {d : PyData} {ds : List PyData} : Dt K M H v d → DtA K M H vs ds → DtA K M H (v :: vs) (d :: ds)
inductive DtK (K : PySem.W.Frag) (M : List Addr) (H : Hp) : List (Key × V) → List (PyData × PyData) → Prop
  | nil : DtK K M H [] []
  | cons {k : Key} {v : V} {r : List (Key × V)} {d : PyData} {ds : List (PyData × PyData)} : Dt K M H v d → DtK K M H r ds → DtK K M H ((k, v) :: r) ((kD k, d) :: ds)
end

/-- from one state to a later one: what was not open to change is as it was, and is not open now -/
def Go (M : List Addr) (H : Hp) (M' : List Addr) (H' : Hp) : Prop := ∀ b o, b ∉ M → H b = some o → H' b = some o ∧ b ∉ M'
theorem Go.refl (M : List Addr) (H : Hp) : Go M H M H := fun _ _ n h => ⟨h, n⟩
theorem Go.trans {M M1 M2 : List Addr} {H H1 H2 : Hp} (a : Go M H M1 H1) (b : Go M1 H1 M2 H2) : Go M H M2 H2 := fun c o n h => by
  obtain ⟨h1, n1⟩ := a c o n h
  exact b c o n1 h1
/-- a new object -/
theorem Go.new {M : List Addr} {H : Hp} {p : Addr} {o : HO} (hp : H p = none) : Go M H M (upd H p o) := fun b u n h => ⟨by rw [upd_ne (ne_of_none h hp)]; exact h, n⟩
/-- a new object that may change -/
theorem Go.newM {M : List Addr} {H : Hp} {p : Addr} {o : HO} (hp : H p = none) : Go M H (p :: M) (upd H p o) := fun b u n h => by
  have e := ne_of_none h hp
  refine ⟨by rw [upd_ne e]; exact h, fun z => ?_⟩
  rcases List.mem_cons.mp z with z | z
  · exact e z
  · exact n z
/-- an object that may change is changed -/
theorem Go.write {M : List Addr} {H : Hp} {p : Addr} {o : HO} (hp : p ∈ M) : Go M H M (upd H p o) := fun b u n h => ⟨by rw [upd_ne (fun z => n (by rw [z]; exact hp))]; exact h, n⟩
theorem Go.less {M M' : List Addr} {H : Hp} (h : ∀ b, b ∈ M' → b ∈ M) : Go M H M' H := fun b _ n e => ⟨e, fun z => n (h b z)⟩

section
variable {K : PySem.W.Frag} {M M' : List Addr} {H H' : Hp}
theorem SL.go {a : Addr} {xs : List V} (g : Go M H M' H') (h : SL K M H a xs) : SL K M' H' a xs := by
  rcases h with ⟨h, n⟩ | h
  · rcases h with h | ⟨o, h⟩
    · obtain ⟨h1, n1⟩ := g _ _ n h
      exact .inl ⟨.inl h1, n1⟩
    · obtain ⟨h1, n1⟩ := g _ _ n h
      exact .inl ⟨.inr ⟨o, h1⟩, n1⟩
  · exact .inr h
theorem ST.go {a : Addr} {xs : List V} (g : Go M H M' H') (h : ST K M H a xs) : ST K M' H' a xs := by
  rcases h with ⟨h, n⟩ | h
  · rcases h with h | ⟨o, h⟩
    · obtain ⟨h1, n1⟩ := g _ _ n h
      exact .inl ⟨.inl h1, n1⟩
    · obtain ⟨h1, n1⟩ := g _ _ n h
      exact .inl ⟨.inr ⟨o, h1⟩, n1⟩
  · exact .inr h
theorem noRd {a : Addr} {u : HO} : ¬ Rd (fun _ => none) a u := fun h => by
  rcases h with h | ⟨o, h⟩
  · cases h
  · cases h
theorem SL.sq {a : Addr} {xs : List V} (h : SL K M H a xs) : SqL K H a xs := by
  rcases h with ⟨h, _⟩ | h | h
  · exact .inl h
  · exact (noRd h).elim
  · exact .inr h
theorem ST.sq {a : Addr} {xs : List V} (h : ST K M H a xs) : SqT K H a xs := by
  rcases h with ⟨h, _⟩ | h | h
  · exact .inl h
  · exact (noRd h).elim
  · exact .inr h
mutual
theorem Dt.go (g : Go M H M' H') : ∀ {v : V} {d : PyData}, Dt K M H v d → Dt K M' H' v d
  | _, _, .non => .non
  | _, _, .bl b => .bl b
  | _, _, .int i => .int i
  | _, _, .str x => .str x
  | _, _, .lst h n q => .lst (g _ _ n h).1 (g _ _ n h).2 (DtA.go g q)
  | _, _, .tup h q => .tup (h.go g) (DtA.go g q)
  | _, _, .dic h n q => .dic (g _ _ n h).1 (g _ _ n h).2 (DtK.go g q)
theorem DtA.go (g : Go M H M' H') : ∀ {vs : List V} {ds : List PyData}, DtA K M H vs ds → DtA K M' H' vs ds
  | _, _, .nil => .nil
  | _, _, .cons h q => .cons (Dt.go g h) (DtA.go g q)
theorem DtK.go (g : Go M H M' H') : ∀ {vs : List (Key × V)} {ds : List (PyData × PyData)}, DtK K M H vs ds → DtK K M' H' vs ds
  | _, _, .nil => .nil
  | _, _, .cons h q => .cons (Dt.go g h) (DtK.go g q)
end
theorem DtA.length : ∀ {vs : List V} {ds : List PyData}, DtA K M H vs ds → vs.length = ds.length
  | _, _, .nil => rfl
  | _, _, .cons _ q => congrArg (· + 1) q.length
theorem DtA.get : ∀ {vs : List V} {ds : List PyData} {i : Nat} {v : V}, DtA K M H vs ds → vs[i]? = some v → ∃ d, ds[i]? = some d ∧ Dt K M H v d
  | _, _, _, _, .nil, e => by simp at e
  | _, _, 0, _, .cons h _, e => by
    cases (Option.some.inj e)
    exact ⟨_, rfl, h⟩
  | _, _, i + 1, v, .cons _ q, e => by
    obtain ⟨d, h1, h2⟩ := DtA.get (i := i) q (by simpa using e)
    exact ⟨d, by simpa using h1, h2⟩
theorem DtA.getD : ∀ {vs : List V} {ds : List PyData} {i : Nat} {d : PyData}, DtA K M H vs ds → ds[i]? = some d → ∃ v, vs[i]? = some v ∧ Dt K M H v d
  | _, _, _, _, .nil, e => by simp at e
  | _, _, 0, _, .cons h _, e => by
    cases (Option.some.inj e)
    exact ⟨_, rfl, h⟩
  | _, _, i + 1, v, .cons _ q, e => by
    obtain ⟨d, h1, h2⟩ := DtA.getD (i := i) q (by simpa using e)
    exact ⟨d, by simpa using h1, h2⟩
theorem DtA.app : ∀ {vs ws : List V} {ds es : List PyData}, DtA K M H vs ds → DtA K M H ws es → DtA K M H (vs ++ ws) (ds ++ es)
  | _, _, _, _, .nil, q => q
  | _, _, _, _, .cons h r, q => .cons h (r.app q)
theorem DtA.take : ∀ {vs : List V} {ds : List PyData} (n : Nat), DtA K M H vs ds → DtA K M H (vs.take n) (ds.take n)
  | _, _, 0, _ => .nil
  | _, _, _ + 1, .nil => .nil
  | _, _, n + 1, .cons h r => .cons h (r.take n)
theorem DtA.drop : ∀ {vs : List V} {ds : List PyData} (n : Nat), DtA K M H vs ds → DtA K M H (vs.drop n) (ds.drop n)
  | _, _, 0, r => r
  | _, _, _ + 1, .nil => .nil
  | _, _, n + 1, .cons _ r => r.drop n
theorem DtA.set {v : V} {d : PyData} (hv : Dt K M H v d) : ∀ {vs : List V} {ds : List PyData} (i : Nat), DtA K M H vs ds → DtA K M H (vs.set i v) (ds.set i d)
  | _, _, _, .nil => .nil
  | _, _, 0, .cons _ r => .cons hv r
  | _, _, i + 1, .cons h r => .cons h (r.set hv i)
theorem DtA.rev : ∀ {vs : List V} {ds : List PyData}, DtA K M H vs ds → DtA K M H vs.reverse ds.reverse
  | _, _, .nil => .nil
  | _, _, .cons h r => by
    rw [List.reverse_cons, List.reverse_cons]
    exact r.rev.app (.cons h .nil)
theorem DtA.ints : ∀ ns : List Int, DtA K M H (ns.map V.int) (ns.map PyData.int)
  | [] => .nil
  | n :: r => .cons (.int n) (DtA.ints r)
theorem DtA.of_ints : ∀ {ns : List Int} {vs : List V}, DtA K M H vs (ns.map PyData.int) → vs = ns.map V.int
  | [], _, .nil => rfl
  | n :: r, _, .cons h q => by
    cases h
    rw [DtA.of_ints q]
    rfl
theorem DtA.pop {vs : List V} {ds : List PyData} (h : DtA K M H vs ds) : DtA K M H vs.dropLast ds.dropLast := by
  rw [List.dropLast_eq_take, List.dropLast_eq_take, h.length]
  exact h.take _
end

/-! ### the store: what may change -/
inductive SO where
  | lst (xs : List PyData)
  | dic (kvs : List (Key × PyData))
  | draw (cs gs : List Int) (n : Int)
  | dead
/-- an exception's class, its fields -/
abbrev ExV := Addr × List (Str × PyData)
abbrev Sto := List SO
inductive SV where
  | dat (d : PyData)
  | obj (n : Nat)
  /-- the script -/
  | scr (ns : List Int)
  /-- an exception object; a list of such -/
  | exc (c : ExV)
  | excs (l : List ExV)
  /-- the inner list of a draw -/
  | drg (n : Nat)
def footOf : List Addr → SO → List Addr
  | _, .dead => []
  | l, _ => l
/-- the addresses that may change -/
def mz : List (List Addr) → Sto → List Addr
  | l :: ls, o :: os => footOf l o ++ mz ls os
  | _, _ => []
def SOk (K : PySem.W.Frag) (M : List Addr) (H : Hp) : List Addr → SO → Prop
  | l, .lst ds => ∃ a vs, l = [a] ∧ H a = some (.lst vs) ∧ DtA K M H vs ds
  | l, .dic ds => ∃ a kvs, l = [a] ∧ H a = some (.dK kvs) ∧ (kvs.map (·.1)) = ds.map (·.1) ∧ DtA K M H (kvs.map (·.2)) (ds.map (·.2))
  | l, .draw cs gs n => ∃ a b c, l = [a, c] ∧ H a = some (.dK [(Sum.inr "cells", .ref b), (Sum.inr "great", .ref c), (Sum.inr "spot", .int n)]) ∧ (H b = some (.lst (cs.map V.int)) ∧ b ∉ M) ∧ H c = some (.lst (gs.map V.int))
  | _, .dead => True
structure SRel (K : PySem.W.Frag) (ι : List (List Addr)) (w : Sto) (H : Hp) : Prop where
  len : ι.length = w.length
  ok : ∀ (n : Nat) (l : List Addr) (o : SO), ι[n]? = some l → w[n]? = some o → SOk K (mz ι w) H l o
  nd : (mz ι w).Nodup
/-- an exception that stands still, its fields plain data -/
def ExR (K : PySem.W.Frag) (M : List Addr) (H : Hp) (v : V) (c : ExV) : Prop := ∃ (a dx : Addr) (gs : List (Str × V)), v = .ref a ∧ H a = some (exo a c.1 (some dx)) ∧ a ∉ M ∧ H dx = some (exd dx gs) ∧ dx ∉ M ∧ gs.map (·.1) = c.2.map (·.1) ∧ DtA K M H (gs.map (·.2)) (c.2.map (·.2))
inductive ExA (K : PySem.W.Frag) (M : List Addr) (H : Hp) : List V → List ExV → Prop
  | nil : ExA K M H [] []
  | cons {v : V} {vs : List V} {c : ExV} {cs : List ExV} : ExR K M H v c → ExA K M H vs cs → ExA K M H (v :: vs) (c :: cs)
theorem ExR.go {K : PySem.W.Frag} {M M' : List Addr} {H H' : Hp} (g : Go M H M' H') {v : V} {c : ExV} (h : ExR K M H v c) : ExR K M' H' v c := by
  obtain ⟨a, dx, gs, e, h1, n1, h2, n2, h3, h4⟩ := h
  exact ⟨a, dx, gs, e, (g _ _ n1 h1).1, (g _ _ n1 h1).2, (g _ _ n2 h2).1, (g _ _ n2 h2).2, h3, h4.go g⟩
theorem ExA.go {K : PySem.W.Frag} {M M' : List Addr} {H H' : Hp} (g : Go M H M' H') : ∀ {vs : List V} {cs : List ExV}, ExA K M H vs cs → ExA K M' H' vs cs
  | _, _, .nil => .nil
  | _, _, .cons h r => .cons (h.go g) (r.go g)
theorem ExA.length {K : PySem.W.Frag} {M : List Addr} {H : Hp} : ∀ {vs : List V} {cs : List ExV}, ExA K M H vs cs → vs.length = cs.length
  | _, _, .nil => rfl
  | _, _, .cons _ r => congrArg (· + 1) r.length
theorem ExA.getD {K : PySem.W.Frag} {M : List Addr} {H : Hp} : ∀ {vs : List V} {cs : List ExV} {i : Nat} {c : ExV}, ExA K M H vs cs → cs[i]? = some c → ∃ v, vs[i]? = some v ∧ ExR K M H v c
  | _, _, _, _, .nil, e => by simp at e
  | _, _, 0, _, .cons h _, e => by
    cases (Option.some.inj e)
    exact ⟨_, rfl, h⟩
  | _, _, i + 1, c, .cons _ q, e => by
    obtain ⟨v, h1, h2⟩ := ExA.getD (i := i) q (by simpa using e)
    exact ⟨v, by simpa using h1, h2⟩
def VRel (K : PySem.W.Frag) (ι : List (List Addr)) (M : List Addr) (H : Hp) (v : V) : SV → Prop
  | .dat d => Dt K M H v d
  | .obj n => ∃ a l, ι[n]? = some (a :: l) ∧ v = .ref a
  | .scr ns => ∃ a, v = .ref a ∧ SL K M H a (ns.map V.int)
  | .exc c => ExR K M H v c
  | .excs l => ∃ a vs, v = .ref a ∧ H a = some (.lst vs) ∧ a ∉ M ∧ ExA K M H vs l
  | .drg n => ∃ a c, ι[n]? = some [a, c] ∧ v = .ref c
structure Stp (K : PySem.W.Frag) (ι : List (List Addr)) (w : Sto) (H : Hp) (ι' : List (List Addr)) (w' : Sto) (H' : Hp) : Prop where
  pre : ι <+: ι'
  go : Go (mz ι w) H (mz ι' w') H'
  rel : SRel K ι' w' H'
section
variable {K : PySem.W.Frag} {ι ι1 ι2 : List (List Addr)} {w w1 w2 : Sto} {H H1 H2 : Hp}
theorem Stp.refl (h : SRel K ι w H) : Stp K ι w H ι w H := ⟨List.prefix_rfl, Go.refl _ _, h⟩
theorem Stp.trans (a : Stp K ι w H ι1 w1 H1) (b : Stp K ι1 w1 H1 ι2 w2 H2) : Stp K ι w H ι2 w2 H2 := ⟨a.pre.trans b.pre, a.go.trans b.go, b.rel⟩
theorem VRel.stp (s : Stp K ι w H ι1 w1 H1) {v : V} {x : SV} (h : VRel K ι (mz ι w) H v x) : VRel K ι1 (mz ι1 w1) H1 v x := by
  cases x with
  | dat d => exact Dt.go s.go h
  | obj n =>
    obtain ⟨a, l, e, q⟩ := h
    refine ⟨a, l, ?_, q⟩
    obtain ⟨t, rfl⟩ := s.pre
    rw [List.getElem?_append_left (List.getElem?_eq_some_iff.mp e).1]
    exact e
  | scr ns =>
    obtain ⟨a, e, q⟩ := h
    exact ⟨a, e, q.go s.go⟩
  | exc c => exact ExR.go s.go h
  | excs l =>
    obtain ⟨a, vs, e, h1, n1, q⟩ := h
    exact ⟨a, vs, e, (s.go _ _ n1 h1).1, (s.go _ _ n1 h1).2, q.go s.go⟩
  | drg n =>
    obtain ⟨a, c, e, q⟩ := h
    refine ⟨a, c, ?_, q⟩
    obtain ⟨t, rfl⟩ := s.pre
    rw [List.getElem?_append_left (List.getElem?_eq_some_iff.mp e).1]
    exact e
end
/-! the store's relation under single changes -/
theorem mz_app : ∀ {ι : List (List Addr)} {w : Sto} {κ : List (List Addr)} {u : Sto}, ι.length = w.length → mz (ι ++ κ) (w ++ u) = mz ι w ++ mz κ u
  | [], [], _, _, _ => rfl
  | l :: ls, o :: os, κ, u, h => by
    show footOf l o ++ mz (ls ++ κ) (os ++ u) = (footOf l o ++ mz ls os) ++ mz κ u
    rw [mz_app (by simpa using h), List.append_assoc]
theorem mem_mz : ∀ {ι : List (List Addr)} {w : Sto} {n : Nat} {l : List Addr} {o : SO} {b : Addr}, ι[n]? = some l → w[n]? = some o → b ∈ footOf l o → b ∈ mz ι w
  | [], _, _, _, _, _, h, _, _ => by simp at h
  | _ :: _, [], _, _, _, _, _, h, _ => by simp at h
  | l :: ls, o :: os, 0, _, _, b, h1, h2, hb => by
    cases (Option.some.inj h1)
    cases (Option.some.inj h2)
    exact List.mem_append_left _ hb
  | l :: ls, o :: os, n + 1, _, _, b, h1, h2, hb => List.mem_append_right _ (mem_mz (n := n) (by simpa using h1) (by simpa using h2) hb)
theorem of_mz : ∀ {ι : List (List Addr)} {w : Sto} {b : Addr}, b ∈ mz ι w → ∃ (n : Nat) (l : List Addr) (o : SO), ι[n]? = some l ∧ w[n]? = some o ∧ b ∈ footOf l o
  | [], _, _, h => by simp [mz] at h
  | _ :: _, [], _, h => by simp [mz] at h
  | l :: ls, o :: os, b, h => by
    rcases List.mem_append.mp h with h | h
    · exact ⟨0, l, o, rfl, rfl, h⟩
    · obtain ⟨n, l', o', h1, h2, h3⟩ := of_mz h
      exact ⟨n + 1, l', o', by simpa using h1, by simpa using h2, h3⟩
/-- the store at n replaced: who may change stays (another content), or less -/
theorem mz_set : ∀ {ι : List (List Addr)} {w : Sto} {n : Nat} {l : List Addr} {o u : SO}, ι[n]? = some l → w[n]? = some o → footOf l o = footOf l u → mz ι (w.set n u) = mz ι w
  | [], _, _, _, _, _, h, _, _ => by simp at h
  | _ :: _, [], _, _, _, _, _, h, _ => by simp at h
  | l :: ls, o :: os, 0, _, _, u, h1, h2, e => by
    cases (Option.some.inj h1)
    cases (Option.some.inj h2)
    show footOf l u ++ mz ls os = footOf l o ++ mz ls os
    rw [e]
  | l :: ls, o :: os, n + 1, _, _, u, h1, h2, e => by
    show footOf l o ++ mz ls (os.set n u) = footOf l o ++ mz ls os
    rw [mz_set (n := n) (by simpa using h1) (by simpa using h2) e]
theorem mz_dead : ∀ {ι : List (List Addr)} {w : Sto} {n : Nat}, (mz ι (w.set n .dead)).Sublist (mz ι w)
  | [], w, _ => by cases w <;> exact List.Sublist.refl _
  | _ :: _, [], n => by cases n <;> exact List.Sublist.refl _
  | l :: ls, o :: os, 0 => by
    show (footOf l .dead ++ mz ls os).Sublist (footOf l o ++ mz ls os)
    exact List.sublist_append_right _ _
  | l :: ls, o :: os, n + 1 => by
    show (footOf l o ++ mz ls (os.set n .dead)).Sublist (footOf l o ++ mz ls os)
    exact List.Sublist.append (List.Sublist.refl _) mz_dead
/-- two objects of the store stand apart -/
theorem mz_apart {ι : List (List Addr)} {w : Sto} (nd : (mz ι w).Nodup) : ∀ {n m : Nat} {l k : List Addr} {o u : SO} {b : Addr}, ι[n]? = some l → w[n]? = some o → b ∈ footOf l o → ι[m]? = some k → w[m]? = some u → b ∈ footOf k u → n = m := by
  induction ι generalizing w with
  | nil => intro n m l k o u b h; simp at h
  | cons a as ih =>
    cases w with
    | nil => intro n m l k o u b _ h; simp at h
    | cons x xs =>
      intro n m l k o u b h1 h2 hb g1 g2 gb
      have nd' : (footOf a x ++ mz as xs).Nodup := nd
      obtain ⟨_, nd2, dj⟩ := List.nodup_append.mp nd'
      cases n with
      | zero =>
        cases m with
        | zero => rfl
        | succ m =>
          cases (Option.some.inj h1)
          cases (Option.some.inj h2)
          exact absurd rfl (dj b hb b (mem_mz (n := m) (by simpa using g1) (by simpa using g2) gb))
      | succ n =>
        cases m with
        | zero =>
          cases (Option.some.inj g1)
          cases (Option.some.inj g2)
          exact absurd rfl (dj b gb b (mem_mz (n := n) (by simpa using h1) (by simpa using h2) hb))
        | succ m =>
          rw [ih nd2 (n := n) (m := m) (by simpa using h1) (by simpa using h2) hb (by simpa using g1) (by simpa using g2) gb]
end EG


set_option Elab.async false
set_option linter.all false
set_option maxRecDepth 100000
set_option maxHeartbeats 4000000
namespace EG
open PySem PySem.Spec PyProof.Rows L2

section
variable {K : PySem.W.Frag} {ι ι1 ι2 : List (List Addr)} {w w1 w2 : Sto} {H H1 H2 : Hp}
theorem SOk.go {M M' : List Addr} {l : List Addr} {o : SO} (g : Go M H M' H1) (st : ∀ b ∈ footOf l o, H1 b = H b) (h : SOk K M H l o) : SOk K M' H1 l o := by
  cases o with
  | lst ds =>
    obtain ⟨a, vs, rfl, e, q⟩ := h
    exact ⟨a, vs, rfl, by rw [st a (by simp [footOf])]; exact e, q.go g⟩
  | dic ds =>
    obtain ⟨a, kvs, rfl, e, q1, q2⟩ := h
    exact ⟨a, kvs, rfl, by rw [st a (by simp [footOf])]; exact e, q1, q2.go g⟩
  | draw cs gs n =>
    obtain ⟨a, b, c, rfl, e1, ⟨e2, n2⟩, e3⟩ := h
    exact ⟨a, b, c, rfl, by rw [st a (by simp [footOf])]; exact e1, g _ _ n2 e2, by rw [st c (by simp [footOf])]; exact e3⟩
  | dead => exact True.intro
/-- what stands in the store is tracked -/
theorem SOk.there {M : List Addr} {l : List Addr} {o : SO} {b : Addr} (h : SOk K M H l o) (hb : b ∈ footOf l o) : ∃ u, H b = some u := by
  cases o with
  | lst ds =>
    obtain ⟨a, vs, rfl, e, q⟩ := h
    have : b = a := by simpa [footOf] using hb
    exact ⟨_, by rw [this]; exact e⟩
  | dic ds =>
    obtain ⟨a, kvs, rfl, e, q1, q2⟩ := h
    have : b = a := by simpa [footOf] using hb
    exact ⟨_, by rw [this]; exact e⟩
  | draw cs gs n =>
    obtain ⟨a, b', c, rfl, e1, e2, e3⟩ := h
    have : b = a ∨ b = c := by simpa [footOf] using hb
    rcases this with z | z
    · exact ⟨_, by rw [z]; exact e1⟩
    · exact ⟨_, by rw [z]; exact e3⟩
  | dead => exact absurd (show b ∈ ([] : List Addr) from hb) (by simp)
theorem SRel.there (r : SRel K ι w H) {b : Addr} (hb : b ∈ mz ι w) : ∃ u, H b = some u := by
  obtain ⟨n, l, o, h1, h2, h3⟩ := of_mz hb
  exact (r.ok n l o h1 h2).there h3
theorem SRel.ne (r : SRel K ι w H) {b p : Addr} (hb : b ∈ mz ι w) (hp : H p = none) : b ≠ p := fun e => by
  obtain ⟨u, z⟩ := r.there hb
  rw [e, hp] at z
  cases z
/-- a new object that is not of the store -/
theorem SRel.new (r : SRel K ι w H) {p : Addr} {o : HO} (hp : H p = none) : SRel K ι w (upd H p o) :=
  ⟨r.len, fun n l u h1 h2 => (r.ok n l u h1 h2).go (Go.new hp) (fun b hb => upd_ne (r.ne (mem_mz h1 h2 hb) hp)), r.nd⟩
theorem Stp.new (r : SRel K ι w H) {p : Addr} {o : HO} (hp : H p = none) : Stp K ι w H ι w (upd H p o) := ⟨List.prefix_rfl, Go.new hp, r.new hp⟩
/-- a new object of the store -/
theorem Stp.alloc (r : SRel K ι w H) {p : Addr} {o : HO} {u : SO} (hp : H p = none) (hf : footOf [p] u = [p]) (ok : ∀ M, (∀ b, b ∈ M → b = p ∨ b ∈ mz ι w) → SOk K M (upd H p o) [p] u) : Stp K ι w H (ι ++ [[p]]) (w ++ [u]) (upd H p o) := by
  have em : mz (ι ++ [[p]]) (w ++ [u]) = mz ι w ++ [p] := by
    rw [mz_app r.len]
    show mz ι w ++ (footOf [p] u ++ mz [] []) = _
    rw [hf]
    rfl
  have np : p ∉ mz ι w := fun z => r.ne z hp rfl
  have g : Go (mz ι w) H (mz (ι ++ [[p]]) (w ++ [u])) (upd H p o) := fun b x n e => by
    have nb := ne_of_none e hp
    refine ⟨by rw [upd_ne nb]; exact e, fun z => ?_⟩
    rw [em] at z
    rcases List.mem_append.mp z with z | z
    · exact n z
    · exact nb (by simpa using z)
  refine ⟨List.prefix_append _ _, g, ⟨by simp [r.len], fun n l x h1 h2 => ?_, ?_⟩⟩
  · by_cases hn : n < ι.length
    · rw [List.getElem?_append_left hn] at h1
      rw [List.getElem?_append_left (by rw [← r.len]; exact hn)] at h2
      exact (r.ok n l x h1 h2).go g (fun b hb => upd_ne (r.ne (mem_mz h1 h2 hb) hp))
    · have hlt : n < (ι ++ [[p]]).length := (List.getElem?_eq_some_iff.mp h1).1
      rw [List.length_append, List.length_singleton] at hlt
      have e : n = ι.length := by omega
      subst e
      rw [List.getElem?_append_right (Nat.le_refl _), Nat.sub_self] at h1
      rw [List.getElem?_append_right (by rw [r.len]; exact Nat.le_refl _), r.len, Nat.sub_self] at h2
      cases (Option.some.inj h1)
      cases (Option.some.inj h2)
      refine ok _ fun b hb => ?_
      rw [em] at hb
      rcases List.mem_append.mp hb with z | z
      · exact .inr z
      · exact .inl (by simpa using z)
  · rw [em, List.nodup_append]
    exact ⟨r.nd, by simp, fun a ha b hb z => np (by
      have : b = p := by simpa using hb
      rw [← this, ← z]; exact ha)⟩
/-- one object of the store is written: its footprint stays -/
theorem Stp.write (r : SRel K ι w H) {n : Nat} {l : List Addr} {o u : SO} (h1 : ι[n]? = some l) (h2 : w[n]? = some o) (hf : footOf l o = footOf l u) (hg : ∀ b x, b ∉ footOf l o → H b = some x → H1 b = some x)
    (hn : ∀ b, b ∉ footOf l o → H b = none → H1 b = none ∨ True) (ok : SOk K (mz ι w) H1 l u) : Stp K ι w H ι (w.set n u) H1 := by
  have em : mz ι (w.set n u) = mz ι w := mz_set h1 h2 hf
  have g : Go (mz ι w) H (mz ι w) H1 := fun b x nb e => ⟨hg b x (fun z => nb (mem_mz h1 h2 z)) e, nb⟩
  refine ⟨List.prefix_rfl, by rw [em]; exact g, ⟨by simp [r.len], fun m k x g1 g2 => ?_, by rw [em]; exact r.nd⟩⟩
  rw [em]
  by_cases hm : m = n
  · subst hm
    rw [h1] at g1
    cases g1
    rw [List.getElem?_set_self (List.getElem?_eq_some_iff.mp h2).1] at g2
    cases g2
    exact ok
  · rw [List.getElem?_set_ne (Ne.symm hm)] at g2
    have q := r.ok m k x g1 g2
    refine q.go g fun b hb => ?_
    obtain ⟨y, hy⟩ := q.there hb
    rw [hy]
    exact hg b y (fun z => hm (mz_apart r.nd g1 g2 hb h1 h2 z)) hy
/-- an object of the store is given up: it changes no longer -/
theorem Stp.kill (r : SRel K ι w H) (n : Nat) : Stp K ι w H ι (w.set n .dead) H := by
  have sub : ∀ b, b ∈ mz ι (w.set n .dead) → b ∈ mz ι w := fun b hb => mz_dead.subset hb
  have g : Go (mz ι w) H (mz ι (w.set n .dead)) H := Go.less sub
  refine ⟨List.prefix_rfl, g, ⟨by simp [r.len], fun m k x g1 g2 => ?_, r.nd.sublist mz_dead⟩⟩
  by_cases hm : m = n
  · subst hm
    have hl : m < w.length := by
      have := (List.getElem?_eq_some_iff.mp g2).1
      rw [List.length_set] at this
      exact this
    rw [List.getElem?_set_self hl] at g2
    cases g2
    exact True.intro
  · rw [List.getElem?_set_ne (Ne.symm hm)] at g2
    exact (r.ok m k x g1 g2).go g fun _ _ => rfl
end

/-! ### what a def does: Mo -/
inductive Res (α : Type) where
  | ok (a : α)
  | err (c : Nat) (fs : List PyData)
abbrev Mo (α : Type) := Sto → Option (Res α × Sto)
def mPure {α : Type} (a : α) : Mo α := fun w => some (.ok a, w)
def mFail {α : Type} : Mo α := fun _ => none
def mBind {α β : Type} (m : Mo α) (f : α → Mo β) : Mo β := fun w => match m w with
  | none => none
  | some (.err c fs, w') => some (.err c fs, w')
  | some (.ok a, w') => f a w'
abbrev Env := List (Option SV)
/-- how an error that is raised lies: its class, its fields; class and dict; the heap -/
abbrev EAt := List Addr → Hp → Nat → List PyData → Value → Option Addr → Prop
def Hyp {α : Type} (K : PySem.W.Frag) (EA : EAt) (ι : List (List Addr)) (w : Sto) (H : Hp) (r : Option (Res α × Sto)) (P : α → List (List Addr) → Sto → Hp → Prop) (W : Value → Option Addr → Hp → Prop) : Prop :=
  match r with
  | none => False
  | some (.ok a, w') => ∀ ι' H', Stp K ι w H ι' w' H' → P a ι' w' H'
  | some (.err c fs, w') => ∀ ι' H' cls d, Stp K ι w H ι' w' H' → EA (mz ι' w') H' c fs cls d → W cls d H'
section
variable {α β : Type} {K : PySem.W.Frag} {EA : EAt} {ι ι1 : List (List Addr)} {w w1 : Sto} {H H1 : Hp} {P : α → List (List Addr) → Sto → Hp → Prop} {W : Value → Option Addr → Hp → Prop}
theorem Hyp.on {r : Option (Res α × Sto)} (h : Hyp K EA ι w H r P W) (s : Stp K ι w H ι1 w1 H1) : Hyp K EA ι1 w1 H1 r P W := by
  match r, h with
  | some (.ok a, w'), h => exact fun ι' H' t => h ι' H' (s.trans t)
  | some (.err c fs, w'), h => exact fun ι' H' cls d t e => h ι' H' cls d (s.trans t) e
theorem Hyp.imp {r : Option (Res α × Sto)} {P' : α → List (List Addr) → Sto → Hp → Prop} (h : Hyp K EA ι w H r P W) (q : ∀ a ι' w' H', Stp K ι w H ι' w' H' → P a ι' w' H' → P' a ι' w' H') : Hyp K EA ι w H r P' W := by
  match r, h with
  | some (.ok a, w'), h => exact fun ι' H' t => q a ι' w' H' t (h ι' H' t)
  | some (.err c fs, w'), h => exact h
theorem Hyp.bind {m : Mo α} {f : α → Mo β} {P : β → List (List Addr) → Sto → Hp → Prop} (h : Hyp K EA ι w H (mBind m f w) P W) : Hyp K EA ι w H (m w) (fun a ι1 w1 H1 => Hyp K EA ι1 w1 H1 (f a w1) P W) W := by
  unfold mBind at h
  cases e : m w with
  | none => rw [e] at h; exact h
  | some q =>
    obtain ⟨r, w'⟩ := q
    cases r with
    | err c fs => rw [e] at h; exact h
    | ok a =>
      rw [e] at h
      exact fun ι' H' t => Hyp.on h t
theorem Hyp.here {a : α} (h : Hyp K EA ι w H (some (.ok a, w)) P W) (r : SRel K ι w H) : P a ι w H := h ι H (Stp.refl r)
theorem Hyp.pure {a : α} (h : Hyp K EA ι w H (mPure a w) P W) (r : SRel K ι w H) : P a ι w H := h ι H (Stp.refl r)
theorem Hyp.nil {a : Prop} (h : Hyp K EA ι w H (none : Option (Res α × Sto)) P W) : a := h.elim
end

/-! ### the judgements -/
def EnvR (K : PySem.W.Frag) (ι : List (List Addr)) (M : List Addr) (H : Hp) (σ : L2.St) (ρ : Env) : Prop := σ.length = ρ.length ∧ ∀ (i : Nat) (v : SV), ρ[i]? = some (some v) → ∃ V, σ[i]? = some (some V) ∧ VRel K ι M H V v
theorem EnvR.stp {K : PySem.W.Frag} {ι ι1 : List (List Addr)} {w w1 : Sto} {H H1 : Hp} {σ : L2.St} {ρ : Env} (s : Stp K ι w H ι1 w1 H1) (e : EnvR K ι (mz ι w) H σ ρ) : EnvR K ι1 (mz ι1 w1) H1 σ ρ :=
  ⟨e.1, fun i v h => let ⟨V, h1, h2⟩ := e.2 i v h; ⟨V, h1, h2.stp s⟩⟩
theorem EnvR.set {K : PySem.W.Frag} {ι : List (List Addr)} {M : List Addr} {H : Hp} {σ : L2.St} {ρ : Env} {i : Nat} {V : L2.V} {v : SV} (e : EnvR K ι M H σ ρ) (h : VRel K ι M H V v) : EnvR K ι M H (σ.set i (some V)) (ρ.set i (some v)) := by
  refine ⟨by simp [e.1], fun j x hj => ?_⟩
  by_cases hij : i = j
  · subst hij
    have hl : i < ρ.length := by
      have := (List.getElem?_eq_some_iff.mp hj).1
      simpa using this
    rw [List.getElem?_set_self hl] at hj
    cases hj
    exact ⟨V, List.getElem?_set_self (by rw [e.1]; exact hl), h⟩
  · rw [List.getElem?_set_ne hij] at hj ⊢
    exact e.2 j x hj

def PV (Q : VK) : SV → List (List Addr) → PySem.W.Frag → Sto → Hp → Prop := fun v ι' K w' H' => ∀ V, VRel K ι' (mz ι' w') H' V v → Q V H'
/-- an expression, a test, arguments, a statement, a block -/
structure DE (X : Cx) (EA : EAt) (W : WX) (e : Expr) (m : Env → Mo SV) : Prop where
  ex : ∃ t : TE, PE X e t ∧ ∀ ι w σ H ρ Q, SRel X.K ι w H → EnvR X.K ι (mz ι w) H σ ρ → Hyp X.K EA ι w H (m ρ w) (fun v ι' w' H' => ∀ V, VRel X.K ι' (mz ι' w') H' V v → Q V H') (fun cls d H' => W cls d σ H') → t σ H Q
structure DT (X : Cx) (EA : EAt) (W : WX) (e : Expr) (m : Env → Mo Bool) : Prop where
  ex : ∃ t : TT, PT X e t ∧ ∀ ι w σ H ρ Q, SRel X.K ι w H → EnvR X.K ι (mz ι w) H σ ρ → Hyp X.K EA ι w H (m ρ w) (fun b _ _ H' => Q b H') (fun cls d H' => W cls d σ H') → t σ H Q
structure DWt (X : Cx) (EA : EAt) (W : WX) (e : Expr) (m : Env → Mo Bool) : Prop where
  ex : ∃ t : TT, PW X e t ∧ ∀ ι w σ H ρ Q, SRel X.K ι w H → EnvR X.K ι (mz ι w) H σ ρ → Hyp X.K EA ι w H (m ρ w) (fun b _ _ H' => Q b H') (fun cls d H' => W cls d σ H') → t σ H Q
inductive VsR (K : PySem.W.Frag) (ι : List (List Addr)) (M : List Addr) (H : Hp) : List V → List SV → Prop
  | nil : VsR K ι M H [] []
  | cons {v : V} {x : SV} {vs : List V} {xs : List SV} : VRel K ι M H v x → VsR K ι M H vs xs → VsR K ι M H (v :: vs) (x :: xs)
theorem VsR.stp {K : PySem.W.Frag} {ι ι1 : List (List Addr)} {w w1 : Sto} {H H1 : Hp} (s : Stp K ι w H ι1 w1 H1) : ∀ {vs : List V} {xs : List SV}, VsR K ι (mz ι w) H vs xs → VsR K ι1 (mz ι1 w1) H1 vs xs
  | _, _, .nil => .nil
  | _, _, .cons h r => .cons (h.stp s) (r.stp s)
theorem VsR.length {K : PySem.W.Frag} {ι : List (List Addr)} {M : List Addr} {H : Hp} : ∀ {vs : List V} {xs : List SV}, VsR K ι M H vs xs → vs.length = xs.length
  | _, _, .nil => rfl
  | _, _, .cons _ r => congrArg (· + 1) r.length
structure DA (X : Cx) (EA : EAt) (W : WX) (es : List Expr) (m : Env → Mo (List SV)) : Prop where
  ex : ∃ t : TA, PA X es t ∧ ∀ ι w σ H ρ Q, SRel X.K ι w H → EnvR X.K ι (mz ι w) H σ ρ → Hyp X.K EA ι w H (m ρ w) (fun xs ι' w' H' => ∀ Vs, VsR X.K ι' (mz ι' w') H' Vs xs → Q Vs H') (fun cls d H' => W cls d σ H') → t σ H Q
inductive Out where
  | nx (ρ : Env)
  | rt (v : SV)
  | bk (ρ : Env)
  | ct (ρ : Env)
def OutP (X : Cx) (D : Ends) : Out → List (List Addr) → Sto → Hp → Prop
  | .nx ρ, ι, w, H => ∀ σ, EnvR X.K ι (mz ι w) H σ ρ → D.nx σ H
  | .rt v, ι, w, H => ∀ V, VRel X.K ι (mz ι w) H V v → D.rt V H
  | .bk ρ, ι, w, H => ∀ σ, EnvR X.K ι (mz ι w) H σ ρ → D.bk σ H
  | .ct ρ, ι, w, H => ∀ σ, EnvR X.K ι (mz ι w) H σ ρ → D.ct σ H
def WE' (W : WX) : Value → Option Addr → Hp → Prop := fun cls d H' => ∀ σ, W cls d σ H'
/-- the wish of an error does not look at the slots -/
structure DS (X : Cx) (EA : EAt) (W : WX) (st : Stmt) (m : Env → Mo Out) : Prop where
  ex : ∃ t : TS, PS X st t ∧ ∀ ι w σ H ρ D, SRel X.K ι w H → EnvR X.K ι (mz ι w) H σ ρ → Hyp X.K EA ι w H (m ρ w) (OutP X D) (WE' W) → t D σ H
structure DSs (X : Cx) (EA : EAt) (W : WX) (st : List Stmt) (m : Env → Mo Out) : Prop where
  ex : ∃ t : TS, PSs X st t ∧ ∀ ι w σ H ρ D, SRel X.K ι w H → EnvR X.K ι (mz ι w) H σ ρ → Hyp X.K EA ι w H (m ρ w) (OutP X D) (WE' W) → t D σ H
theorem Hyp.wE {α : Type} {K : PySem.W.Frag} {EA : EAt} {ι : List (List Addr)} {w : Sto} {H : Hp} {r : Option (Res α × Sto)} {P : α → List (List Addr) → Sto → Hp → Prop} {W : WX} (h : Hyp K EA ι w H r P (WE' W)) (σ : L2.St) : Hyp K EA ι w H r P (fun cls d H' => W cls d σ H') := by
  match r, h with
  | some (.ok a, w'), h => exact h
  | some (.err c fs, w'), h => exact fun ι' H' cls d s e => h ι' H' cls d s e σ

/-! ### what data an operand holds -/
def kvD (p : Key × PyData) : PyData × PyData := (kD p.1, p.2)
/-- the data that an operand holds now: of the store's own, its content -/
def toD (w : Sto) : SV → Option PyData
  | .dat d => some d
  | .obj n => match w[n]? with
    | some (.lst xs) => some (.list xs)
    | some (.dic kvs) => some (.dict (kvs.map kvD))
    | _ => none
  | .scr ns => some (.list (ns.map .int))
  | .drg n => match w[n]? with
    | some (.draw _ gs _) => some (.list (gs.map .int))
    | _ => none
  | _ => none
/-- a list that stands by itself -/
def toL (w : Sto) : SV → Option (List PyData)
  | .dat (.list ds) => some ds
  | .obj n => match w[n]? with
    | some (.lst xs) => some xs
    | _ => none
  | _ => none
/-- data whose own object may be one that changes -/
def DtP (K : PySem.W.Frag) (M : List Addr) (H : Hp) (v : V) : PyData → Prop
  | .list ds => ∃ a vs, v = .ref a ∧ SqL K H a vs ∧ DtA K M H vs ds
  | .tuple ds => ∃ a vs, v = .ref a ∧ SqT K H a vs ∧ DtA K M H vs ds
  | .dict ds => ∃ a kvs, v = .ref a ∧ H a = some (.dK kvs) ∧ DtK K M H kvs ds
  | .none => v = .non
  | .bool b => v = .bl b
  | .int i => v = .int i
  | .str x => v = .str x
section
variable {K : PySem.W.Frag} {ι : List (List Addr)} {M : List Addr} {w : Sto} {H : Hp} {v : V}
theorem Dt.p : ∀ {d : PyData}, Dt K M H v d → DtP K M H v d
  | .none, h => by cases h; rfl
  | .bool _, h => by cases h; rfl
  | .int _, h => by cases h; rfl
  | .str _, h => by cases h; rfl
  | .list _, h => by
    cases h with
    | lst h n q => exact ⟨_, _, rfl, SqL.of h, q⟩
  | .tuple _, h => by
    cases h with
    | tup h q => exact ⟨_, _, rfl, h.sq, q⟩
  | .dict _, h => by
    cases h with
    | dic h n q => exact ⟨_, _, rfl, h, q⟩
theorem DtK.of : ∀ {kvs : List (Key × V)} {ds : List (Key × PyData)}, kvs.map (·.1) = ds.map (·.1) → DtA K M H (kvs.map (·.2)) (ds.map (·.2)) → DtK K M H kvs (ds.map kvD)
  | [], [], _, _ => .nil
  | [], _ :: _, h, _ => by simp at h
  | _ :: _, [], h, _ => by simp at h
  | (k, v) :: r, (l, d) :: s, h, q => by
    have h' : k = l ∧ r.map (·.1) = s.map (·.1) := by simpa using h
    cases q with
    | cons q1 q2 =>
      obtain ⟨rfl, h2⟩ := h'
      exact .cons q1 (DtK.of h2 q2)
theorem VRel.p {x : SV} {d : PyData} (r : SRel K ι w H) (h : VRel K ι (mz ι w) H v x) (e : toD w x = some d) : DtP K (mz ι w) H v d := by
  cases x with
  | dat y =>
    cases (Option.some.inj e)
    exact Dt.p h
  | obj n =>
    obtain ⟨a, l, h1, rfl⟩ := h
    unfold toD at e
    cases hw : w[n]? with
    | none => simp [hw] at e
    | some o =>
      cases o with
      | lst xs =>
        simp [hw] at e
        subst e
        obtain ⟨b, vs, e1, e2, e3⟩ := r.ok n _ _ h1 hw
        injection e1 with e1 _
        subst e1
        exact ⟨a, vs, rfl, SqL.of e2, e3⟩
      | dic kvs =>
        simp [hw] at e
        subst e
        obtain ⟨b, vs, e1, e2, e3, e4⟩ := r.ok n _ _ h1 hw
        injection e1 with e1 _
        subst e1
        exact ⟨a, vs, rfl, e2, DtK.of e3 e4⟩
      | draw _ _ _ => simp [hw] at e
      | dead => simp [hw] at e
  | scr ns =>
    cases (Option.some.inj e)
    obtain ⟨a, rfl, q⟩ := h
    exact ⟨a, _, rfl, q.sq, DtA.ints ns⟩
  | exc _ => cases e
  | excs _ => cases e
  | drg n =>
    obtain ⟨a, c, h1, rfl⟩ := h
    unfold toD at e
    cases hw : w[n]? with
    | none => simp [hw] at e
    | some o =>
      cases o with
      | draw cs gs k =>
        simp [hw] at e
        subst e
        obtain ⟨a', b', c', e1, e2, e3, e4⟩ := r.ok n _ _ h1 hw
        injection e1 with e1 e5
        injection e5 with e5 _
        subst e1 e5
        exact ⟨c, _, rfl, SqL.of e4, DtA.ints gs⟩
      | _ => simp [hw] at e
theorem VRel.l {x : SV} {ds : List PyData} (r : SRel K ι w H) (h : VRel K ι (mz ι w) H v x) (e : toL w x = some ds) : ∃ a vs, v = .ref a ∧ H a = some (.lst vs) ∧ DtA K (mz ι w) H vs ds := by
  cases x with
  | dat y =>
    cases y with
    | list es =>
      cases (Option.some.inj e)
      cases h with
      | lst h n q => exact ⟨_, _, rfl, h, q⟩
    | _ => cases e
  | obj n =>
    obtain ⟨a, l, h1, rfl⟩ := h
    unfold toL at e
    cases hw : w[n]? with
    | none => simp [hw] at e
    | some o =>
      cases o with
      | lst xs =>
        simp [hw] at e
        subst e
        obtain ⟨b, vs, e1, e2, e3⟩ := r.ok n _ _ h1 hw
        injection e1 with e1 _
        subst e1
        exact ⟨a, vs, rfl, e2, e3⟩
      | _ => simp [hw] at e
  | scr ns => cases e
  | exc _ => cases e
  | excs _ => cases e
  | drg _ => cases e
end
end EG


set_option Elab.async false
set_option linter.all false
set_option maxRecDepth 100000
set_option maxHeartbeats 4000000
namespace EG
open PySem PySem.Spec PyProof.Rows L2

/-! ### the words of Mo -/
def mV (i : Nat) : Env → Mo SV := fun ρ w => match ρ[i]? with
  | some (some v) => some (.ok v, w)
  | _ => none
def mC (d : PyData) : Env → Mo SV := fun _ => mPure (.dat d)
abbrev Op2 := SV → SV → Sto → Option SV
def mBin (ma mb : Env → Mo SV) (g : Op2) : Env → Mo SV := fun ρ => mBind (ma ρ) fun x => mBind (mb ρ) fun y w => (g x y w).map fun v => (.ok v, w)
def mUn (ma : Env → Mo SV) (g : SV → Sto → Option SV) : Env → Mo SV := fun ρ => mBind (ma ρ) fun x w => (g x w).map fun v => (.ok v, w)
/-- a value as a test: a bool | by its truth -/
def mTB (m : Env → Mo SV) : Env → Mo Bool := fun ρ => mBind (m ρ) fun x w => match x with
  | .dat (.bool b) => some (.ok b, w)
  | _ => none
def truD : PyData → Bool
  | .none => false
  | .bool b => b
  | .int i => i != 0
  | .str x => x.length != 0
  | .list xs => !xs.isEmpty
  | .tuple xs => !xs.isEmpty
  | .dict xs => !xs.isEmpty
def shortD : PyData → Bool
  | .str x => decide (x.length ≤ sizeLine)
  | _ => true
def mTr (m : Env → Mo SV) : Env → Mo Bool := fun ρ => mBind (m ρ) fun x w => match toD w x with
  | some d => if shortD d then some (.ok (truD d), w) else none
  | none => none
def mAnd (a b : Env → Mo Bool) : Env → Mo Bool := fun ρ => mBind (a ρ) fun c => if c then b ρ else mPure false
def mOr (a b : Env → Mo Bool) : Env → Mo Bool := fun ρ => mBind (a ρ) fun c => if c then mPure true else b ρ
def mNot (a : Env → Mo Bool) : Env → Mo Bool := fun ρ => mBind (a ρ) fun c => mPure (!c)
def mIf (c : Env → Mo Bool) (a b : Env → Mo SV) : Env → Mo SV := fun ρ => mBind (c ρ) fun k => if k then a ρ else b ρ
/-- x and y, x or y, not x as values, the first a bool -/
def mAndV (a b : Env → Mo SV) : Env → Mo SV := fun ρ => mBind (mTB a ρ) fun c => if c then b ρ else mPure (.dat (.bool false))
def mOrV (a b : Env → Mo SV) : Env → Mo SV := fun ρ => mBind (mTB a ρ) fun c => if c then mPure (.dat (.bool true)) else b ρ
def mNotV (a : Env → Mo SV) : Env → Mo SV := fun ρ => mBind (mTB a ρ) fun c => mPure (.dat (.bool (!c)))
def mNil : Env → Mo (List SV) := fun _ => mPure []
def mCons (a : Env → Mo SV) (r : Env → Mo (List SV)) : Env → Mo (List SV) := fun ρ => mBind (a ρ) fun x => mBind (r ρ) fun xs => mPure (x :: xs)
/-- a op b op' c -/
def mChain (ma mb mc : Env → Mo SV) (g h : Op2) : Env → Mo SV := fun ρ => mBind (ma ρ) fun x => mBind (mb ρ) fun y w => match g x y w with
  | some (.dat (.bool true)) => mBind (mc ρ) (fun z w => (h y z w).map fun v => (.ok v, w)) w
  | some (.dat (.bool false)) => some (.ok (.dat (.bool false)), w)
  | _ => none

/-! ### what the operators do -/
def gI (f : Int → Int → Option PyData) : Op2 := fun x y _ => match x, y with
  | .dat (.int i), .dat (.int j) => (f i j).map .dat
  | _, _ => none
abbrev gAdd : Op2 := gI fun i j => some (.int (i + j))
abbrev gSub : Op2 := gI fun i j => some (.int (i - j))
abbrev gLt : Op2 := gI fun i j => some (.bool (decide (i < j)))
abbrev gLe : Op2 := gI fun i j => some (.bool (decide (i ≤ j)))
abbrev gGt : Op2 := gI fun i j => some (.bool (decide (j < i)))
abbrev gGe : Op2 := gI fun i j => some (.bool (decide (j ≤ i)))
def sm64 (i : Int) : Bool := decide (-(2 ^ 64) < i ∧ i < 2 ^ 64)
abbrev gMul : Op2 := gI fun i j => if sm64 i || sm64 j then some (.int (i * j)) else none
abbrev gMod : Op2 := gI fun i j => if 0 < j then some (.int (i % j)) else none
abbrev gFdiv : Op2 := gI fun i j => if 0 < j ∧ j < 1073741824 then some (.int (i / j)) else none
abbrev gPow : Op2 := gI fun i j => if 0 ≤ j ∧ j ≤ 1000000 ∧ i.natAbs < 2 ^ 64 then some (.int (i ^ j.toNat)) else none
/-- == of data -/
def noDict : PyData → Bool := fun d => !d.hasDict
def eqDD (d e : PyData) : Option Bool := match d, e with
  | .str a, .str b => some (decide (a = b))
  | d, e => if SeqAt.shaped d && SeqAt.shaped e then some (PyData.eqv d e) else none
def gEq : Op2 := fun x y w => match toD w x, toD w y with
  | some d, some e => (eqDD d e).map fun b => .dat (.bool b)
  | _, _ => none
def gNe : Op2 := fun x y w => match toD w x, toD w y with
  | some d, some e => (eqDD d e).map fun b => .dat (.bool (!b))
  | _, _ => none
def gIs (neg : Bool) : Op2 := fun x _ _ => match x with
  | .dat .none => some (.dat (.bool (!neg)))
  | .dat _ => some (.dat (.bool neg))
  | .obj _ => some (.dat (.bool neg))
  | .scr _ => some (.dat (.bool neg))
  | .exc _ => some (.dat (.bool neg))
  | .excs _ => some (.dat (.bool neg))
  | .drg _ => some (.dat (.bool neg))
/-- in a sequence of flat things -/
def flatD : PyData → Bool
  | .none => true
  | .bool _ => true
  | .int _ => true
  | .str _ => true
  | _ => false
def eqF : PyData → PyData → Bool
  | .none, .none => true
  | .bool a, .bool b => a == b
  | .bool a, .int b => (if a then 1 else 0) == b
  | .int a, .bool b => a == (if b then 1 else 0)
  | .int a, .int b => a == b
  | .str a, .str b => a == b
  | _, _ => false
def itemsD : PyData → Option (List PyData)
  | .list xs => some xs
  | .tuple xs => some xs
  | _ => none
def gIn (neg : Bool) : Op2 := fun x y w => match toD w x, (toD w y).bind itemsD with
  | some d, some es => if flatD d && es.all flatD then some (.dat (.bool (if neg then !es.any (fun e => eqF e d) else es.any (fun e => eqF e d)))) else none
  | _, _ => none
/-- in a list of things at any depth -/
def gInD (neg : Bool) : Op2 := fun x y w => match toD w x, toD w y with
  | some d, some (.list es) => if SeqAt.shaped d && SeqAt.shaped (.list es) then some (.dat (.bool (if neg then !es.any (fun z => PyData.eqv z d) else es.any (fun z => PyData.eqv z d)))) else none
  | _, _ => none
/-- xs[i] -/
def atD {α : Type} (xs : List α) (i : Int) : Option α := (ixN xs.length i).bind fun j => xs[j]?
def gIx : Op2 := fun x y w => match (toD w x).bind itemsD, y with
  | some ds, .dat (.int i) => (atD ds i).map .dat
  | _, _ => none
def fitsN (n : Nat) : Bool := decide (n ≤ sizeLine)
/-- t + u, xs + ys -/
def gCat : Op2 := fun x y w => match x, y with
  | .dat (.tuple a), .dat (.tuple b) => if fitsN (a.length + b.length) then some (.dat (.tuple (a ++ b))) else none
  | _, _ => match toL w x, toL w y with
    | some a, some b => if fitsN (a.length + b.length) then some (.dat (.list (a ++ b))) else none
    | _, _ => none

section
variable {X : Cx} {EA : EAt} {W : WX} {a b c : Expr} {ma mb mc : Env → Mo SV} {pos : Pos}

theorem dv (i : Nat) {x : Str} {pos : Pos} (hN : X.N[i]? = some x := by rfl) (hv : Vis X.env.scope x := by first | exact Or.inl rfl | exact Or.inr (Or.inl rfl) | exact Or.inr (Or.inr rfl)) (hd : (x == ("__debug__" : Str)) = false := by decide)
    (hcd : (x == ("__classdict__" : Str)) = false := by decide) : DE X EA W (.Name x pos) (mV i) := by
  refine ⟨tVar i, pv i hN hv hd hcd, fun ι w σ H ρ Q R E h => ?_⟩
  unfold mV at h
  cases e : ρ[i]? with
  | none => rw [e] at h; exact h.elim
  | some q =>
    cases q with
    | none => rw [e] at h; exact h.elim
    | some v =>
      rw [e] at h
      obtain ⟨V, h1, h2⟩ := E.2 i v e
      exact ⟨V, h1, Hyp.here h R V h2⟩
theorem d_int {i j pos} : DE X EA W (.Constant (.int i) j pos) (mC (.int i)) := ⟨_, pe_int, fun ι w σ H ρ Q R E h => Hyp.here h R _ (Dt.int i)⟩
theorem d_bl {i j pos} : DE X EA W (.Constant (.bool i) j pos) (mC (.bool i)) := ⟨_, pe_bl, fun ι w σ H ρ Q R E h => Hyp.here h R _ (Dt.bl i)⟩
theorem d_non {j pos} : DE X EA W (.Constant .none j pos) (mC .none) := ⟨_, pe_non, fun ι w σ H ρ Q R E h => Hyp.here h R _ Dt.non⟩
theorem d_str {i j pos} : DE X EA W (.Constant (.str i) j pos) (mC (.str i)) := ⟨_, pe_str, fun ι w σ H ρ Q R E h => Hyp.here h R _ (Dt.str i)⟩
/-- a constant of the module -/
theorem d_glob {x : Str} {pos : Pos} {v : V} {u : Value} {d : PyData} (hm : X.mg x = some u) (r : RelV v u) (hd : ∀ M H, Dt X.K M H v d) (hg : Gl X x := by rfl) (hdb : (x == ("__debug__" : Str)) = false := by decide) : DE X EA W (.Name x pos) (mC d) :=
  ⟨_, pe_glob hg hm r hdb, fun ι w σ H ρ Q R E h => Hyp.here h R _ (hd _ _)⟩

def OpS (K : PySem.W.Frag) (r : R2) (g : Op2) : Prop := ∀ ι w H vx vy x y v Q, SRel K ι w H → VRel K ι (mz ι w) H vx x → VRel K ι (mz ι w) H vy y → g x y w = some v → (∀ H', Stp K ι w H ι w H' → ∀ V, VRel K ι (mz ι w) H' V v → Q V H') → r vx vy H Q
theorem OpS.run {K : PySem.W.Frag} {r : R2} {g : Op2} (s : OpS K r g) {ι : List (List Addr)} {w : Sto} {H : Hp} {vx vy : V} {x y : SV} {Q : VK} {W : Value → Option Addr → Hp → Prop} (R : SRel K ι w H) (hx : VRel K ι (mz ι w) H vx x) (hy : VRel K ι (mz ι w) H vy y)
    (h : Hyp K EA ι w H ((g x y w).map fun v => (Res.ok v, w)) (fun v ι' w' H' => ∀ V, VRel K ι' (mz ι' w') H' V v → Q V H') W) : r vx vy H Q := by
  cases e : g x y w with
  | none => rw [e] at h; exact h.elim
  | some v =>
    rw [e] at h
    exact s ι w H vx vy x y v Q R hx hy e fun H' st V rv => h ι H' st V rv
theorem two {α : Type} {R : V → V → Hp → Prop} {ta tb : TE} {f : SV → SV → Mo α} {ι : List (List Addr)} {w : Sto} {H : Hp} {σ : L2.St} {ρ : Env} {Pf : α → List (List Addr) → Sto → Hp → Prop}
    (sa : ∀ ι w σ H ρ Q, SRel X.K ι w H → EnvR X.K ι (mz ι w) H σ ρ → Hyp X.K EA ι w H (ma ρ w) (fun v ι' w' H' => ∀ V, VRel X.K ι' (mz ι' w') H' V v → Q V H') (fun cls d H' => W cls d σ H') → ta σ H Q)
    (sb : ∀ ι w σ H ρ Q, SRel X.K ι w H → EnvR X.K ι (mz ι w) H σ ρ → Hyp X.K EA ι w H (mb ρ w) (fun v ι' w' H' => ∀ V, VRel X.K ι' (mz ι' w') H' V v → Q V H') (fun cls d H' => W cls d σ H') → tb σ H Q)
    (S : SRel X.K ι w H) (E : EnvR X.K ι (mz ι w) H σ ρ) (h : Hyp X.K EA ι w H (mBind (ma ρ) (fun x => mBind (mb ρ) fun y => f x y) w) Pf (fun cls d H' => W cls d σ H'))
    (k : ∀ ι2 w2 H2 vx vy x y, Stp X.K ι w H ι2 w2 H2 → VRel X.K ι2 (mz ι2 w2) H2 vx x → VRel X.K ι2 (mz ι2 w2) H2 vy y → Hyp X.K EA ι2 w2 H2 (f x y w2) Pf (fun cls d H' => W cls d σ H') → R vx vy H2) :
    ta σ H fun x H1 => tb σ H1 fun y H2 => R x y H2 := by
  refine sa ι w σ H ρ _ S E ((Hyp.bind h).imp fun x ι1 w1 H1 s1 h1 V1 r1 => ?_)
  refine sb ι1 w1 σ H1 ρ _ s1.rel (E.stp s1) ((Hyp.bind h1).imp fun y ι2 w2 H2 s2 h2 V2 r2 => ?_)
  exact k ι2 w2 H2 V1 V2 x y (s1.trans s2) (r1.stp s2) r2 h2
theorem de_op {op : Operator} {r : R2} {g : Op2} (ho : OpR X (binaryOp op) r) (hs : OpS X.K r g) (ha : DE X EA W a ma) (hb : DE X EA W b mb) : DE X EA W (.BinOp a op b pos) (mBin ma mb g) := by
  obtain ⟨ta, pa, sa⟩ := ha.ex
  obtain ⟨tb, pb, sb⟩ := hb.ex
  refine ⟨tOp r ta tb, pe_op ho pa pb, fun ι w σ H ρ Q R E h => ?_⟩
  exact two (R := fun x y H2 => r x y H2 Q) sa sb R E h fun ι2 w2 H2 vx vy x y s rx ry h2 => hs.run s.rel rx ry h2
theorem de_cmp {op : CmpOp} {r : R2} {g : Op2} (ho : OpR X (compareOp op) r) (hs : OpS X.K r g) (ha : DE X EA W a ma) (hb : DE X EA W b mb) (hm : behindInMarks op b = false := by first | exact nomark _ | rfl) : DE X EA W (.Compare a [op] [b] pos) (mBin ma mb g) := by
  obtain ⟨ta, pa, sa⟩ := ha.ex
  obtain ⟨tb, pb, sb⟩ := hb.ex
  refine ⟨tOp r ta tb, pe_cmpR ho pa pb hm, fun ι w σ H ρ Q R E h => ?_⟩
  exact two (R := fun x y H2 => r x y H2 Q) sa sb R E h fun ι2 w2 H2 vx vy x y s rx ry h2 => hs.run s.rel rx ry h2
theorem dt_cmp {op : CmpOp} {r : R2} {g : Op2} (ho : OpR X (compareOp op) r) (hs : OpS X.K r g) (ha : DE X EA W a ma) (hb : DE X EA W b mb) (hm : behindInMarks op b = false := by first | exact nomark _ | rfl) : DT X EA W (.Compare a [op] [b] pos) (mTB (mBin ma mb g)) := by
  obtain ⟨ta, pa, sa⟩ := ha.ex
  obtain ⟨tb, pb, sb⟩ := hb.ex
  refine ⟨tTest (tOp r ta tb), pt_cmpR ho pa pb hm, fun ι w σ H ρ Q R E h => ?_⟩
  have h' := Hyp.bind h
  exact two (R := fun x y H2 => r x y H2 fun z H3 => ∃ k, z = .bl k ∧ Q k H3) sa sb R E h' fun ι2 w2 H2 vx vy x y s rx ry h2 => hs.run (EA := EA) s.rel rx ry (h2.imp fun v ι3 w3 H3 s3 h3 V rv => by
    cases v with
    | dat d =>
      cases d with
      | bool k =>
        cases rv
        exact ⟨k, rfl, Hyp.here h3 s3.rel⟩
      | _ => exact h3.elim
    | _ => exact h3.elim)
theorem de_chain {op op' : CmpOp} {r r' : R2} {g g' : Op2} (ho : OpR X (compareOp op) r) (hs : OpS X.K r g) (ho' : OpR X (compareOp op') r') (hs' : OpS X.K r' g') (ha : DE X EA W a ma) (hb : DE X EA W b mb) (hc : DE X EA W c mc)
    (hm : lastMarks [op, op'] [b, c] = false := by with_unfolding_all rfl) : DE X EA W (.Compare a [op, op'] [b, c] pos) (mChain ma mb mc g g') := by
  obtain ⟨ta, pa, sa⟩ := ha.ex
  obtain ⟨tb, pb, sb⟩ := hb.ex
  obtain ⟨tc, pc, sc⟩ := hc.ex
  refine ⟨tChain r r' ta tb tc, pe_chain ho ho' pa pb pc hm, fun ι w σ H ρ Q R E h => ?_⟩
  refine two (R := fun x y H2 => r x y H2 fun z H3 => ∃ k, z = .bl k ∧ (if k = true then tc σ H3 fun w' H4 => r' y w' H4 Q else Q (.bl false) H3)) sa sb R E h fun ι2 w2 H2 vx vy x y s rx ry h2 => ?_
  cases e : g x y w2 with
  | none => simp only [e] at h2; exact h2.elim
  | some v =>
    refine hs _ _ _ _ _ _ _ v _ s.rel rx ry e fun H3 s3 V rv => ?_
    simp only [e] at h2
    cases v with
    | dat d =>
      cases d with
      | bool k =>
        cases rv
        refine ⟨k, rfl, ?_⟩
        cases k with
        | false =>
          refine iteF ?_
          exact (h2.on s3).here s3.rel _ (Dt.bl false)
        | true =>
          refine iteT ?_
          refine sc _ _ σ H3 ρ _ s3.rel ((E.stp s).stp s3) ((Hyp.bind (h2.on s3)).imp fun z ι4 w4 H4 s4 h4 V4 r4 => ?_)
          exact hs'.run s4.rel ((ry.stp s3).stp s4) r4 h4
      | _ => exact h2.elim
    | _ => exact h2.elim
theorem dt_chain {op op' : CmpOp} {r r' : R2} {g g' : Op2} (ho : OpR X (compareOp op) r) (hs : OpS X.K r g) (ho' : OpR X (compareOp op') r') (hs' : OpS X.K r' g') (ha : DE X EA W a ma) (hb : DE X EA W b mb) (hc : DE X EA W c mc)
    (hm : lastMarks [op, op'] [b, c] = false := by with_unfolding_all rfl) : DT X EA W (.Compare a [op, op'] [b, c] pos) (mTB (mChain ma mb mc g g')) := by
  obtain ⟨ta, pa, sa⟩ := ha.ex
  obtain ⟨tb, pb, sb⟩ := hb.ex
  obtain ⟨tc, pc, sc⟩ := hc.ex
  refine ⟨tTest (tChain r r' ta tb tc), pt_chain ho ho' pa pb pc hm, fun ι w σ H ρ Q R E h0 => ?_⟩
  have h := Hyp.bind h0
  refine two (R := fun x y H2 => r x y H2 fun z H3 => ∃ k, z = .bl k ∧ (if k = true then tc σ H3 fun w' H4 => r' y w' H4 (fun z H5 => ∃ k, z = .bl k ∧ Q k H5) else (∃ k, V.bl false = .bl k ∧ Q k H3))) sa sb R E h fun ι2 w2 H2 vx vy x y s rx ry h2 => ?_
  cases e : g x y w2 with
  | none => simp only [e] at h2; exact h2.elim
  | some v =>
    refine hs _ _ _ _ _ _ _ v _ s.rel rx ry e fun H3 s3 V rv => ?_
    simp only [e] at h2
    cases v with
    | dat d =>
      cases d with
      | bool k =>
        cases rv
        refine ⟨k, rfl, ?_⟩
        cases k with
        | false =>
          refine iteF ?_
          exact ⟨false, rfl, ((h2.on s3).here s3.rel).here s3.rel⟩
        | true =>
          refine iteT ?_
          refine sc _ _ σ H3 ρ _ s3.rel ((E.stp s).stp s3) ((Hyp.bind (h2.on s3)).imp fun z ι4 w4 H4 s4 h4 V4 r4 => ?_)
          refine hs'.run (EA := EA) s4.rel ((ry.stp s3).stp s4) r4 (h4.imp fun v ι5 w5 H5 s5 h5 V5 rv5 => ?_)
          cases v with
          | dat d =>
            cases d with
            | bool k =>
              cases rv5
              exact ⟨k, rfl, Hyp.here h5 s5.rel⟩
            | _ => exact h5.elim
          | _ => exact h5.elim
      | _ => exact h2.elim
    | _ => exact h2.elim

/-! ### the operators' rules -/
variable {K : PySem.W.Frag}
theorem os_I {C : Int → Int → Prop} {g : Int → Int → V} {f : Int → Int → Option PyData} (hf : ∀ i j d, f i j = some d → C i j ∧ ∀ M H, Dt K M H (g i j) d) : OpS K (rI C g) (gI f) := by
  intro ι w H vx vy x y v Q R rx ry e k
  cases x with
  | dat d =>
    cases d with
    | int i =>
      cases y with
      | dat d =>
        cases d with
        | int j =>
          cases rx
          cases ry
          have e' : (f i j).map SV.dat = some v := e
          cases q : f i j with
          | none => rw [q] at e'; cases e'
          | some d =>
            rw [q] at e'
            cases e'
            obtain ⟨c, r⟩ := hf i j d q
            exact ⟨i, j, rfl, rfl, c, k H (Stp.refl R) _ (r _ _)⟩
        | _ => cases e
      | _ => cases e
    | _ => cases e
  | _ => cases e
theorem os_I0 {g : Int → Int → V} {f : Int → Int → Option PyData} (hf : ∀ i j d, f i j = some d → ∀ M H, Dt K M H (g i j) d) : OpS K (rI0 g) (gI f) := by
  intro ι w H vx vy x y v Q R rx ry e k
  obtain ⟨i, j, e1, e2, _, q⟩ := os_I (C := fun _ _ => True) (g := g) (fun i j d h => ⟨True.intro, hf i j d h⟩) ι w H vx vy x y v Q R rx ry e k
  exact ⟨i, j, e1, e2, q⟩
theorem os_add : OpS K (rI0 fun i j => .int (i + j)) gAdd := os_I0 fun i j d h _ _ => by cases h; exact Dt.int _
theorem os_sub : OpS K (rI0 fun i j => .int (i - j)) gSub := os_I0 fun i j d h _ _ => by cases h; exact Dt.int _
theorem os_lt : OpS K (rI0 fun i j => .bl (decide (i < j))) gLt := os_I0 fun i j d h _ _ => by cases h; exact Dt.bl _
theorem os_le : OpS K (rI0 fun i j => .bl (decide (i ≤ j))) gLe := os_I0 fun i j d h _ _ => by cases h; exact Dt.bl _
theorem os_gt : OpS K (rI0 fun i j => .bl (decide (j < i))) gGt := os_I0 fun i j d h _ _ => by cases h; exact Dt.bl _
theorem os_ge : OpS K (rI0 fun i j => .bl (decide (j ≤ i))) gGe := os_I0 fun i j d h _ _ => by cases h; exact Dt.bl _
theorem os_mul : OpS K (rI CMul fun i j => .int (i * j)) gMul := os_I fun i j d h => by
  by_cases c : (sm64 i || sm64 j) = true
  · rw [if_pos c] at h
    cases h
    refine ⟨?_, fun _ _ => Dt.int _⟩
    rcases Bool.or_eq_true_iff.mp c with z | z
    · exact .inl (of_decide_eq_true z)
    · exact .inr (of_decide_eq_true z)
  · rw [if_neg c] at h; cases h
theorem os_mod : OpS K (rI (fun _ j => 0 < j) fun i j => .int (i % j)) gMod := os_I fun i j d h => by
  by_cases c : 0 < j
  · rw [if_pos c] at h; cases h; exact ⟨c, fun _ _ => Dt.int _⟩
  · rw [if_neg c] at h; cases h
theorem os_fdiv : OpS K (rI CDiv fun i j => .int (i / j)) gFdiv := os_I fun i j d h => by
  by_cases c : 0 < j ∧ j < 1073741824
  · rw [if_pos c] at h; cases h; exact ⟨c, fun _ _ => Dt.int _⟩
  · rw [if_neg c] at h; cases h
theorem os_pow : OpS K (rI CPow fun i j => .int (i ^ j.toNat)) gPow := os_I fun i j d h => by
  by_cases c : 0 ≤ j ∧ j ≤ 1000000 ∧ i.natAbs < 2 ^ 64
  · rw [if_pos c] at h; cases h; exact ⟨c, fun _ _ => Dt.int _⟩
  · rw [if_neg c] at h; cases h

/-! == -/
mutual
theorem dp_of {M : List Addr} {H : Hp} : ∀ {d : PyData} {v : V}, Dt K M H v d → noDict d = true → Dp K H v d
  | .none, _, h, _ => by cases h; exact .non
  | .bool b, _, h, _ => by cases h; exact .bl b
  | .int b, _, h, _ => by cases h; exact .int b
  | .str b, _, h, _ => by cases h; exact .str b
  | .list ds, _, h, n => by
    cases h with
    | lst h _ q => exact .lst (SqL.of h) (dpa_of q (by simpa [noDict, PyData.hasDict] using n))
  | .tuple ds, _, h, n => by
    cases h with
    | tup h q => exact .tup h.sq (dpa_of q (by simpa [noDict, PyData.hasDict] using n))
  | .dict ds, _, h, n => by simp [noDict, PyData.hasDict] at n
theorem dpa_of {M : List Addr} {H : Hp} : ∀ {ds : List PyData} {vs : List V}, DtA K M H vs ds → PyData.hasDictAll ds = false → DpAll K H vs ds
  | [], _, h, _ => by cases h; exact .nil
  | d :: ds, _, h, n => by
    have n' : d.hasDict = false ∧ PyData.hasDictAll ds = false := by simpa [PyData.hasDictAll] using n
    cases h with
    | cons h1 h2 => exact .cons (dp_of h1 (by simp [noDict, n'.1])) (dpa_of h2 n'.2)
end
theorem DtP.dp {M : List Addr} {H : Hp} {v : V} : ∀ {d : PyData}, DtP K M H v d → noDict d = true → Dp K H v d
  | .none, h, _ => by have h' : v = .non := h; rw [h']; exact .non
  | .bool b, h, _ => by have h' : v = .bl b := h; rw [h']; exact .bl b
  | .int b, h, _ => by have h' : v = .int b := h; rw [h']; exact .int b
  | .str b, h, _ => by have h' : v = .str b := h; rw [h']; exact .str b
  | .list ds, h, n => by
    obtain ⟨a, vs, rfl, h1, h2⟩ := h
    exact .lst h1 (dpa_of h2 (by simpa [noDict, PyData.hasDict] using n))
  | .tuple ds, h, n => by
    obtain ⟨a, vs, rfl, h1, h2⟩ := h
    exact .tup h1 (dpa_of h2 (by simpa [noDict, PyData.hasDict] using n))
  | .dict ds, h, n => by simp [noDict, PyData.hasDict] at n
theorem noDict_of {d : PyData} (h : SeqAt.shaped d = true) : noDict d = true := by
  unfold noDict
  rw [PyData.hasDict_of_canLay d (SeqAt.canLay_of_shaped h)]
  rfl
theorem eqDD_ok {M : List Addr} {H : Hp} {vx vy : V} {d e : PyData} {b : Bool} {Q : Bool → Prop} (hx : DtP K M H vx d) (hy : DtP K M H vy e) (h : eqDD d e = some b) (q : Q b) :
    (∃ d e, Dp K H vx d ∧ Dp K H vy e ∧ SeqAt.shaped d = true ∧ SeqAt.shaped e = true ∧ Q (PyData.eqv d e)) ∨ (scal vx vy = true ∧ Q (decide (vx = vy))) := by
  have gen : (if SeqAt.shaped d && SeqAt.shaped e then some (PyData.eqv d e) else none) = some b → (∃ d e, Dp K H vx d ∧ Dp K H vy e ∧ SeqAt.shaped d = true ∧ SeqAt.shaped e = true ∧ Q (PyData.eqv d e)) := fun h => by
    by_cases c : (SeqAt.shaped d && SeqAt.shaped e) = true
    · rw [if_pos c] at h
      cases h
      simp only [Bool.and_eq_true] at c
      exact ⟨d, e, hx.dp (noDict_of c.1), hy.dp (noDict_of c.2), c.1, c.2, q⟩
    · rw [if_neg c] at h; cases h
  cases d with
  | str a =>
    cases e with
    | str b' =>
      have hx' : vx = .str a := hx
      have hy' : vy = .str b' := hy
      subst hx' hy'
      have h' : some (decide (a = b')) = some b := h
      cases h'
      refine .inr ⟨rfl, ?_⟩
      have e : decide (V.str a = V.str b') = decide (a = b') := by
        by_cases z : a = b'
        · subst z; simp
        · simp [z]
      rw [e]
      exact q
    | _ => exact .inl (gen h)
  | _ => exact .inl (gen h)
theorem os_eq : OpS K (fun x y H Q => rEqD K x y H Q ∨ rEq x y H Q) gEq := by
  intro ι w H vx vy x y v Q R rx ry e k
  unfold gEq at e
  cases e1 : toD w x with
  | none => simp [e1] at e
  | some d =>
    cases e2 : toD w y with
    | none => simp [e1, e2] at e
    | some d2 =>
      simp only [e1, e2] at e
      cases c : eqDD d d2 with
      | none => rw [c] at e; cases e
      | some b =>
        rw [c] at e
        cases e
        exact eqDD_ok (Q := fun b => Q (.bl b) H) (rx.p R e1) (ry.p R e2) c (k H (Stp.refl R) _ (Dt.bl _))
theorem os_ne : OpS K (fun x y H Q => rNeD K x y H Q ∨ rNe x y H Q) gNe := by
  intro ι w H vx vy x y v Q R rx ry e k
  unfold gNe at e
  cases e1 : toD w x with
  | none => simp [e1] at e
  | some d =>
    cases e2 : toD w y with
    | none => simp [e1, e2] at e
    | some d2 =>
      simp only [e1, e2] at e
      cases c : eqDD d d2 with
      | none => rw [c] at e; cases e
      | some b =>
        rw [c] at e
        cases e
        exact eqDD_ok (Q := fun b => Q (.bl (!b)) H) (rx.p R e1) (ry.p R e2) c (k H (Stp.refl R) _ (Dt.bl _))
/-! is None -/
theorem os_isN {neg : Bool} {r : R2} (hr : ∀ x H Q, Q (.bl (if neg then !decide (x = V.non) else decide (x = V.non))) H → r x .non H Q) : OpS K r (fun x y w => match y with | .dat .none => gIs neg x y w | _ => none) := by
  intro ι w H vx vy x y v Q R rx ry e k
  cases y with
  | dat d =>
    cases d with
    | none =>
      cases ry
      have e : gIs neg x (.dat .none) w = some v := e
      refine hr vx H Q ?_
      have go : ∀ bb, v = .dat (.bool bb) → decide (vx = V.non) = (if neg then !bb else bb) → Q (.bl (if neg then !decide (vx = V.non) else decide (vx = V.non))) H := fun bb e1 e2 => by
        subst e1
        rw [e2]
        have e3 : (if neg = true then !(if neg = true then !bb else bb) else (if neg = true then !bb else bb)) = bb := by cases neg <;> cases bb <;> rfl
        rw [e3]
        exact k H (Stp.refl R) _ (Dt.bl _)
      cases x with
      | dat d =>
        cases d with
        | none => cases rx; cases e; exact go _ rfl (by cases neg <;> rfl)
        | bool _ => cases rx; cases e; exact go _ rfl (by cases neg <;> rfl)
        | int _ => cases rx; cases e; exact go _ rfl (by cases neg <;> rfl)
        | str _ => cases rx; cases e; exact go _ rfl (by cases neg <;> rfl)
        | list _ => cases rx; cases e; exact go _ rfl (by cases neg <;> rfl)
        | tuple _ => cases rx; cases e; exact go _ rfl (by cases neg <;> rfl)
        | dict _ => cases rx; cases e; exact go _ rfl (by cases neg <;> rfl)
      | obj n =>
        obtain ⟨a, l, _, rfl⟩ := rx
        cases e
        exact go _ rfl (by cases neg <;> rfl)
      | scr n =>
        obtain ⟨a, rfl, _⟩ := rx
        cases e
        exact go _ rfl (by cases neg <;> rfl)
      | exc n =>
        obtain ⟨a, _, _, rfl, _⟩ := rx
        cases e
        exact go _ rfl (by cases neg <;> rfl)
      | excs n =>
        obtain ⟨a, _, rfl, _⟩ := rx
        cases e
        exact go _ rfl (by cases neg <;> rfl)
      | drg n =>
        obtain ⟨a, _, _, rfl⟩ := rx
        cases e
        exact go _ rfl (by cases neg <;> rfl)
    | _ => cases e
  | _ => cases e
/-! in -/
theorem flat_v {M : List Addr} {H : Hp} {v : V} {d : PyData} (h : Dt K M H v d) (f : flatD d = true) : flatV v = true := by
  cases h with
  | lst _ _ _ => exact absurd (show false = true from f) Bool.false_ne_true
  | tup _ _ => exact absurd (show false = true from f) Bool.false_ne_true
  | dic _ _ _ => exact absurd (show false = true from f) Bool.false_ne_true
  | _ => rfl
theorem flat_p {M : List Addr} {H : Hp} {v : V} : ∀ {d : PyData}, DtP K M H v d → flatD d = true → Dt K M H v d
  | .none, h, _ => by have h' : v = .non := h; rw [h']; exact .non
  | .bool b, h, _ => by have h' : v = .bl b := h; rw [h']; exact .bl b
  | .int b, h, _ => by have h' : v = .int b := h; rw [h']; exact .int b
  | .str b, h, _ => by have h' : v = .str b := h; rw [h']; exact .str b
  | .list ds, h, n => by cases n
  | .tuple ds, h, n => by cases n
  | .dict ds, h, n => by cases n
theorem eqF_v {M : List Addr} {H : Hp} {v u : V} {d e : PyData} (h : Dt K M H v d) (g : Dt K M H u e) (f : flatD d = true) (f' : flatD e = true) : eqV v u = eqF d e := by
  cases h with
  | lst _ _ _ => exact absurd (show false = true from f) Bool.false_ne_true
  | tup _ _ => exact absurd (show false = true from f) Bool.false_ne_true
  | dic _ _ _ => exact absurd (show false = true from f) Bool.false_ne_true
  | _ =>
    cases g with
    | lst _ _ _ => exact absurd (show false = true from f') Bool.false_ne_true
    | tup _ _ => exact absurd (show false = true from f') Bool.false_ne_true
    | dic _ _ _ => exact absurd (show false = true from f') Bool.false_ne_true
    | _ => rfl
theorem flat_all {M : List Addr} {H : Hp} : ∀ {vs : List V} {ds : List PyData}, DtA K M H vs ds → ds.all flatD = true → vs.all flatV = true
  | _, _, .nil, _ => rfl
  | _, _, .cons h r, f => by
    simp only [List.all_cons, Bool.and_eq_true] at f ⊢
    exact ⟨flat_v h f.1, flat_all r f.2⟩
theorem inF_v {M : List Addr} {H : Hp} {v : V} {d : PyData} (h : Dt K M H v d) (f : flatD d = true) : ∀ {vs : List V} {ds : List PyData}, DtA K M H vs ds → ds.all flatD = true → inV v vs = ds.any fun e => eqF e d
  | _, _, .nil, _ => rfl
  | _, _, .cons g r, f' => by
    simp only [List.all_cons, Bool.and_eq_true] at f'
    show (eqV _ v || inV v _) = (eqF _ d || _)
    rw [eqF_v g h f'.1 f, inF_v h f r f'.2]
theorem VRel.items {ι : List (List Addr)} {w : Sto} {H : Hp} {v : V} {x : SV} {ds : List PyData} (R : SRel K ι w H) (rx : VRel K ι (mz ι w) H v x) (e : (toD w x).bind itemsD = some ds) : ∃ a vs, v = .ref a ∧ (SqL K H a vs ∨ SqT K H a vs) ∧ DtA K (mz ι w) H vs ds := by
  cases q : toD w x with
  | none => rw [q] at e; cases e
  | some d =>
    rw [q] at e
    have p := rx.p R q
    cases d with
    | list xs =>
      cases e
      obtain ⟨a, vs, h1, h2, h3⟩ := p
      exact ⟨a, vs, h1, .inl h2, h3⟩
    | tuple xs =>
      cases e
      obtain ⟨a, vs, h1, h2, h3⟩ := p
      exact ⟨a, vs, h1, .inr h2, h3⟩
    | _ => cases e
theorem os_in {neg : Bool} : OpS K (rIn K neg) (gIn neg) := by
  intro ι w H vx vy x y v Q R rx ry e k
  unfold gIn at e
  cases e1 : toD w x with
  | none => simp [e1] at e
  | some d =>
    cases e2 : (toD w y).bind itemsD with
    | none => simp [e1, e2] at e
    | some es =>
      simp only [e1, e2] at e
      by_cases c : (flatD d && es.all flatD) = true
      · rw [if_pos c] at e
        cases e
        simp only [Bool.and_eq_true] at c
        obtain ⟨a, vs, rfl, h1, h2⟩ := ry.items R e2
        have dx := flat_p (rx.p R e1) c.1
        refine ⟨a, vs, rfl, h1, flat_v dx c.1, flat_all h2 c.2, ?_⟩
        rw [inF_v dx c.1 h2 c.2]
        exact k H (Stp.refl R) _ (Dt.bl _)
      · rw [if_neg c] at e; cases e
/-! an item, a concatenation -/
theorem atD_of {M : List Addr} {H : Hp} {vs : List V} {ds : List PyData} {i : Int} {d : PyData} (h : DtA K M H vs ds) (e : atD ds i = some d) : ∃ v, atI vs i = some v ∧ Dt K M H v d := by
  unfold atD at e
  unfold atI
  rw [h.length]
  cases q : ixN ds.length i with
  | none => rw [q] at e; cases e
  | some j =>
    rw [q] at e
    exact h.getD e
theorem os_ixL {r : R2} (hr : ∀ x y H Q, (rIxL K x y H Q ∨ rIxT K x y H Q) → r x y H Q) : OpS K r gIx := by
  intro ι w H vx vy x y v Q R rx ry e k
  unfold gIx at e
  cases e1 : (toD w x).bind itemsD with
  | none => simp [e1] at e
  | some ds =>
    cases y with
    | dat d =>
      cases d with
      | int i =>
        simp only [e1] at e
        cases q : atD ds i with
        | none => rw [q] at e; cases e
        | some d =>
          rw [q] at e
          cases e
          cases ry
          obtain ⟨a, vs, rfl, h1, h2⟩ := rx.items R e1
          obtain ⟨z, h3, h4⟩ := atD_of h2 q
          refine hr _ _ _ _ ?_
          rcases h1 with h1 | h1
          · exact .inl ⟨a, vs, i, z, rfl, rfl, h1, h3, k H (Stp.refl R) _ h4⟩
          · exact .inr ⟨a, vs, i, z, rfl, rfl, h1, h3, k H (Stp.refl R) _ h4⟩
      | _ => simp [e1] at e
    | _ => simp [e1] at e
theorem ST.tup {M : List Addr} {H : Hp} {v : V} {ds : List PyData} (h : Dt K M H v (.tuple ds)) : ∃ a vs, v = .ref a ∧ ST K M H a vs ∧ DtA K M H vs ds := by
  cases h with
  | tup h q => exact ⟨_, _, rfl, h, q⟩
theorem os_cat : OpS K (fun x y H Q => rCatA K x y H Q ∨ rCat x y H Q) gCat := by
  intro ι w H vx vy x y v Q R rx ry e k
  have ls : (match toL w x, toL w y with | some a, some b => if fitsN (a.length + b.length) then some (SV.dat (.list (a ++ b))) else none | _, _ => none) = some v → rCatA K vx vy H Q ∨ rCat vx vy H Q := fun e => by
    cases e1 : toL w x with
    | none => simp [e1] at e
    | some a =>
      cases e2 : toL w y with
      | none => simp [e1, e2] at e
      | some b =>
        simp only [e1, e2] at e
        by_cases c : fitsN (a.length + b.length) = true
        · rw [if_pos c] at e
          cases e
          obtain ⟨p, vs, rfl, h1, h2⟩ := rx.l R e1
          obtain ⟨q, us, rfl, h3, h4⟩ := ry.l R e2
          refine .inr ⟨p, q, vs, us, rfl, rfl, h1, h3, by rw [h2.length, h4.length]; exact of_decide_eq_true c, fun z hz => ?_⟩
          refine k _ (Stp.new R hz) _ (Dt.lst upd_same (fun m => R.ne m hz rfl) ?_)
          exact (h2.app h4).go (Go.new hz)
        · rw [if_neg c] at e; cases e
  unfold gCat at e
  cases x with
  | dat d =>
    cases d with
    | tuple a =>
      cases y with
      | dat d2 =>
        cases d2 with
        | tuple b =>
          have e : (if fitsN (a.length + b.length) then some (SV.dat (.tuple (a ++ b))) else none) = some v := e
          by_cases c : fitsN (a.length + b.length) = true
          · rw [if_pos c] at e
            cases e
            obtain ⟨p, vs, rfl, h1, h2⟩ := ST.tup rx
            obtain ⟨q, us, rfl, h3, h4⟩ := ST.tup ry
            refine .inl ⟨p, q, vs, us, rfl, rfl, h1.sq, h3.sq, by rw [h2.length, h4.length]; exact of_decide_eq_true c, fun hx => ?_, fun hx hy => ?_, fun hx hy z hz => ?_⟩
            · subst hx
              cases h2
              exact k H (Stp.refl R) _ (Dt.tup h3 h4)
            · subst hy
              cases h4
              rw [List.append_nil] at k
              exact k H (Stp.refl R) _ (Dt.tup h1 h2)
            · refine k _ (Stp.new R hz) _ (Dt.tup (.inl ⟨.inl upd_same, fun m => R.ne m hz rfl⟩) ?_)
              exact (h2.app h4).go (Go.new hz)
          · rw [if_neg c] at e; cases e
        | _ => exact ls e
      | _ => exact ls e
    | _ => exact ls e
  | _ => exact ls e
end
end EG


set_option Elab.async false
set_option linter.all false
set_option maxRecDepth 100000
set_option maxHeartbeats 4000000
namespace EG
open PySem PySem.Spec PyProof.Rows L2

/-! ### giving up: an object of the store becomes plain data -/
def fz1 : SV → Sto → Option (PyData × Sto)
  | .dat d, w => some (d, w)
  | .obj n, w => match w[n]? with
    | some (.lst xs) => some (.list xs, w.set n .dead)
    | some (.dic kvs) => some (.dict (kvs.map kvD), w.set n .dead)
    | _ => none
  | _, _ => none
def fzs : List SV → Sto → Option (List PyData × Sto)
  | [], w => some ([], w)
  | x :: xs, w => match fz1 x w with
    | some (d, w1) => match fzs xs w1 with
      | some (ds, w2) => some (d :: ds, w2)
      | none => none
    | none => none
section
variable {K : PySem.W.Frag} {ι : List (List Addr)} {w w' : Sto} {H : Hp}
theorem gone {n : Nat} {l : List Addr} {o : SO} {b : Addr} (r : SRel K ι w H) (h1 : ι[n]? = some l) (h2 : w[n]? = some o) (hb : b ∈ footOf l o) : b ∉ mz ι (w.set n .dead) := fun z => by
  obtain ⟨m, k, u, g1, g2, g3⟩ := of_mz z
  by_cases hm : m = n
  · subst hm
    rw [List.getElem?_set_self (List.getElem?_eq_some_iff.mp h2).1] at g2
    cases g2
    exact absurd g3 (by simp [footOf])
  · rw [List.getElem?_set_ne (Ne.symm hm)] at g2
    exact hm (mz_apart r.nd g1 g2 g3 h1 h2 hb)
theorem fz1_ok {v : V} {x : SV} {d : PyData} (r : SRel K ι w H) (h : VRel K ι (mz ι w) H v x) (e : fz1 x w = some (d, w')) : Stp K ι w H ι w' H ∧ Dt K (mz ι w') H v d := by
  cases x with
  | dat y =>
    cases (Option.some.inj e)
    exact ⟨Stp.refl r, h⟩
  | obj n =>
    obtain ⟨a, l, h1, rfl⟩ := h
    unfold fz1 at e
    cases hw : w[n]? with
    | none => simp [hw] at e
    | some o =>
      have s := Stp.kill r n
      have q := r.ok n _ _ h1 hw
      cases o with
      | lst xs =>
        simp [hw] at e
        obtain ⟨rfl, rfl⟩ := e
        have g := gone (b := a) r h1 hw (by simp [footOf])
        obtain ⟨b, vs, e1, e2, e3⟩ := q
        injection e1 with e1 _
        subst e1
        exact ⟨s, .lst e2 g (e3.go s.go)⟩
      | dic kvs =>
        simp [hw] at e
        obtain ⟨rfl, rfl⟩ := e
        have g := gone (b := a) r h1 hw (by simp [footOf])
        obtain ⟨b, vs, e1, e2, e3, e4⟩ := q
        injection e1 with e1 _
        subst e1
        exact ⟨s, .dic e2 g (DtK.of e3 (e4.go s.go))⟩
      | draw _ _ _ => simp [hw] at e
      | dead => simp [hw] at e
  | scr _ => cases e
  | exc _ => cases e
  | excs _ => cases e
  | drg _ => cases e
theorem fzs_ok : ∀ {xs : List SV} {vs : List V} {ds : List PyData} {w w' : Sto}, SRel K ι w H → VsR K ι (mz ι w) H vs xs → fzs xs w = some (ds, w') → Stp K ι w H ι w' H ∧ DtA K (mz ι w') H vs ds
  | [], _, _, _, _, r, h, e => by
    cases h
    cases (Option.some.inj e)
    exact ⟨Stp.refl r, .nil⟩
  | x :: xs, _, ds, w, w', r, h, e => by
    cases h with
    | cons h1 h2 =>
      unfold fzs at e
      cases e1 : fz1 x w with
      | none => rw [e1] at e; cases e
      | some p =>
        obtain ⟨d, w1⟩ := p
        rw [e1] at e
        simp only at e
        cases e2 : fzs xs w1 with
        | none => rw [e2] at e; cases e
        | some q =>
          obtain ⟨es, w2⟩ := q
          rw [e2] at e
          simp only at e
          cases (Option.some.inj e)
          obtain ⟨s1, q1⟩ := fz1_ok r h1 e1
          obtain ⟨s2, q2⟩ := fzs_ok s1.rel (h2.stp s1) e2
          exact ⟨s1.trans s2, .cons (q1.go s2.go) q2⟩
end

/-! ### tests, and, or, not -/
section
variable {X : Cx} {EA : EAt} {W : WX} {a b c : Expr} {rest : List Expr} {ma mb mc : Env → Mo SV} {ta tb : Env → Mo Bool} {pos : Pos}
theorem dt_val (ha : DE X EA W a ma) (he : ∀ whole, isTrue a X.env whole = (do let v ← whole; standAt a.pos; holding [v] (truthy v)) := by intro _; rfl) : DT X EA W a (mTB ma) := by
  obtain ⟨t, p, s⟩ := ha.ex
  refine ⟨tB t, pt_val p he, fun ι w σ H ρ Q R E h => ?_⟩
  refine s ι w σ H ρ _ R E ((Hyp.bind h).imp fun x ι1 w1 H1 s1 h1 V rv => ?_)
  cases x with
  | dat d =>
    cases d with
    | bool k =>
      cases rv
      exact ⟨k, rfl, Hyp.here h1 s1.rel⟩
    | _ => exact h1.elim
  | _ => exact h1.elim
theorem tru_p {K : PySem.W.Frag} {M : List Addr} {H : Hp} {v : V} : ∀ {d : PyData}, DtP K M H v d → shortD d = true → TruV K v H (truD d)
  | .none, h, _ => by have h' : v = .non := h; rw [h']; rfl
  | .bool b, h, _ => by have h' : v = .bl b := h; rw [h']; rfl
  | .int b, h, _ => by have h' : v = .int b := h; rw [h']; rfl
  | .str b, h, n => by
    have h' : v = .str b := h
    rw [h']
    refine ⟨of_decide_eq_true n, ?_⟩
    show (b.length != 0) = ((b.length : Int) != 0)
    by_cases e : b.length = 0
    · rw [e]; rfl
    · have e2 : ((b.length : Int) != 0) = true := by simp; exact e
      rw [e2]
      simp [e]
  | .list ds, h, n => by
    obtain ⟨a, vs, rfl, h1, h2⟩ := h
    refine .inl ⟨vs, h1, ?_⟩
    show (!ds.isEmpty) = !vs.isEmpty
    cases h2 <;> rfl
  | .tuple ds, h, n => by
    obtain ⟨a, vs, rfl, h1, h2⟩ := h
    refine .inr (.inl ⟨vs, h1, ?_⟩)
    show (!ds.isEmpty) = !vs.isEmpty
    cases h2 <;> rfl
  | .dict ds, h, n => by
    obtain ⟨a, vs, rfl, h1, h2⟩ := h
    refine .inr (.inr ⟨vs, h1, ?_⟩)
    show (!ds.isEmpty) = !vs.isEmpty
    cases h2 <;> rfl
theorem dt_tr (ha : DE X EA W a ma) (he : ∀ whole, isTrue a X.env whole = (do let v ← whole; standAt a.pos; holding [v] (truthy v)) := by intro _; rfl) : DT X EA W a (mTr ma) := by
  obtain ⟨t, p, s⟩ := ha.ex
  refine ⟨_, pt_truth p he, fun ι w σ H ρ Q R E h => ?_⟩
  refine s ι w σ H ρ _ R E ((Hyp.bind h).imp fun x ι1 w1 H1 s1 h1 V rv => ?_)
  cases e : toD w1 x with
  | none => simp only [e] at h1; exact h1.elim
  | some d =>
    simp only [e] at h1
    by_cases c : shortD d = true
    · rw [if_pos c] at h1
      exact ⟨truD d, tru_p (rv.p s1.rel e) c, Hyp.here h1 s1.rel⟩
    · rw [if_neg c] at h1; exact h1.elim
theorem dw_and1 (ha : DT X EA W a ta) : DWt X EA W (.BoolOp .And [a] pos) ta := by
  obtain ⟨t, p, s⟩ := ha.ex
  exact ⟨t, pw_and1 p, s⟩
theorem dw_or1 (ha : DT X EA W a ta) : DWt X EA W (.BoolOp .Or [a] pos) ta := by
  obtain ⟨t, p, s⟩ := ha.ex
  exact ⟨t, pw_or1 p, s⟩
theorem dw_and (ha : DT X EA W a ta) (hb : DWt X EA W (.BoolOp .And (b :: rest) pos) tb) : DWt X EA W (.BoolOp .And (a :: b :: rest) pos) (mAnd ta tb) := by
  obtain ⟨t, p, s⟩ := ha.ex
  obtain ⟨u, q, z⟩ := hb.ex
  refine ⟨tAnd t u, pw_and p q, fun ι w σ H ρ Q R E h => ?_⟩
  refine s ι w σ H ρ _ R E ((Hyp.bind h).imp fun k ι1 w1 H1 s1 h1 => ?_)
  cases k with
  | true => exact z _ _ σ H1 ρ Q s1.rel (E.stp s1) h1
  | false => exact Hyp.here h1 s1.rel
theorem dw_or (ha : DT X EA W a ta) (hb : DWt X EA W (.BoolOp .Or (b :: rest) pos) tb) : DWt X EA W (.BoolOp .Or (a :: b :: rest) pos) (mOr ta tb) := by
  obtain ⟨t, p, s⟩ := ha.ex
  obtain ⟨u, q, z⟩ := hb.ex
  refine ⟨tOr t u, pw_or p q, fun ι w σ H ρ Q R E h => ?_⟩
  refine s ι w σ H ρ _ R E ((Hyp.bind h).imp fun k ι1 w1 H1 s1 h1 => ?_)
  cases k with
  | true => exact Hyp.here h1 s1.rel
  | false => exact z _ _ σ H1 ρ Q s1.rel (E.stp s1) h1
theorem dt_w {e : Expr} (h : DWt X EA W e ta) : DT X EA W e ta := by
  obtain ⟨t, p, s⟩ := h.ex
  exact ⟨t, p.pt, s⟩
theorem dt_not (ha : DT X EA W a ta) : DT X EA W (.UnaryOp .Not a pos) (mNot ta) := by
  obtain ⟨t, p, s⟩ := ha.ex
  refine ⟨tNot t, pt_not p, fun ι w σ H ρ Q R E h => ?_⟩
  exact s ι w σ H ρ _ R E ((Hyp.bind h).imp fun k ι1 w1 H1 s1 h1 => Hyp.here h1 s1.rel)
theorem de_one {op} (ha : DE X EA W a ma) : DE X EA W (.BoolOp op [a] pos) ma := by
  obtain ⟨t, p, s⟩ := ha.ex
  exact ⟨t, pe_one p, s⟩
theorem boolOf {K : PySem.W.Frag} {ι : List (List Addr)} {w : Sto} {σ : L2.St} {H : Hp} {ρ : Env} {P : Bool → Hp → Prop} {Pf : Bool → List (List Addr) → Sto → Hp → Prop} {t : TE}
    (s : ∀ ι w σ H ρ Q, SRel K ι w H → EnvR K ι (mz ι w) H σ ρ → Hyp K EA ι w H (ma ρ w) (fun v ι' w' H' => ∀ V, VRel K ι' (mz ι' w') H' V v → Q V H') (fun cls d H' => W cls d σ H') → t σ H Q)
    (R : SRel K ι w H) (E : EnvR K ι (mz ι w) H σ ρ) (h : Hyp K EA ι w H (mTB ma ρ w) Pf (fun cls d H' => W cls d σ H')) (k : ∀ b ι1 w1 H1, Stp K ι w H ι1 w1 H1 → Pf b ι1 w1 H1 → P b H1) :
    t σ H fun x H1 => ∃ c, x = .bl c ∧ P c H1 := by
  refine s ι w σ H ρ _ R E ((Hyp.bind h).imp fun x ι1 w1 H1 s1 h1 V rv => ?_)
  cases x with
  | dat d =>
    cases d with
    | bool b =>
      cases rv
      exact ⟨b, rfl, k b ι1 w1 H1 s1 (Hyp.here h1 s1.rel)⟩
    | _ => exact h1.elim
  | _ => exact h1.elim
theorem de_and (ha : DE X EA W a ma) (hb : DE X EA W (.BoolOp .And (b :: rest) pos) mb) : DE X EA W (.BoolOp .And (a :: b :: rest) pos) (mAndV ma mb) := by
  obtain ⟨t, p, s⟩ := ha.ex
  obtain ⟨u, q, z⟩ := hb.ex
  refine ⟨tAndV t u, L2.pe_and p q, fun ι w σ H ρ Q R E h => ?_⟩
  refine boolOf (P := fun c H1 => if c = true then u σ H1 Q else Q (.bl false) H1) s R E (Hyp.bind h) fun c ι1 w1 H1 s1 h1 => ?_
  cases c with
  | true => exact iteT (z _ _ σ H1 ρ Q s1.rel (E.stp s1) h1)
  | false => exact iteF (Hyp.here h1 s1.rel _ (Dt.bl false))
theorem de_or (ha : DE X EA W a ma) (hb : DE X EA W (.BoolOp .Or (b :: rest) pos) mb) : DE X EA W (.BoolOp .Or (a :: b :: rest) pos) (mOrV ma mb) := by
  obtain ⟨t, p, s⟩ := ha.ex
  obtain ⟨u, q, z⟩ := hb.ex
  refine ⟨tOrV t u, L2.pe_or p q, fun ι w σ H ρ Q R E h => ?_⟩
  refine boolOf (P := fun c H1 => if c = true then Q (.bl true) H1 else u σ H1 Q) s R E (Hyp.bind h) fun c ι1 w1 H1 s1 h1 => ?_
  cases c with
  | true => exact iteT (Hyp.here h1 s1.rel _ (Dt.bl true))
  | false => exact iteF (z _ _ σ H1 ρ Q s1.rel (E.stp s1) h1)
theorem de_not (ha : DE X EA W a ma) : DE X EA W (.UnaryOp .Not a pos) (mNotV ma) := by
  obtain ⟨t, p, s⟩ := ha.ex
  refine ⟨tNotV t, L2.pe_not p, fun ι w σ H ρ Q R E h => ?_⟩
  exact boolOf (P := fun c H1 => Q (.bl (!c)) H1) s R E (Hyp.bind h) fun c ι1 w1 H1 s1 h1 => Hyp.here h1 s1.rel _ (Dt.bl _)
theorem de_if (hc : DT X EA W c ta) (ha : DE X EA W a ma) (hb : DE X EA W b mb) : DE X EA W (.IfExp c a b pos) (mIf ta ma mb) := by
  obtain ⟨t, p, s⟩ := hc.ex
  obtain ⟨u, q, z⟩ := ha.ex
  obtain ⟨u', q', z'⟩ := hb.ex
  refine ⟨tIf t u u', pe_ifExp p q q', fun ι w σ H ρ Q R E h => ?_⟩
  refine s ι w σ H ρ _ R E ((Hyp.bind h).imp fun k ι1 w1 H1 s1 h1 => ?_)
  cases k with
  | true => exact iteT (z _ _ σ H1 ρ Q s1.rel (E.stp s1) h1)
  | false => exact iteF (z' _ _ σ H1 ρ Q s1.rel (E.stp s1) h1)

/-! ### arguments, displays -/
theorem da_nil : DA X EA W [] mNil := ⟨tNil, pa_nil, fun ι w σ H ρ Q R E h => Hyp.here h R _ .nil⟩
theorem da_cons {e : Expr} {es : List Expr} {m : Env → Mo SV} {mr : Env → Mo (List SV)} (ha : DE X EA W e m) (hr : DA X EA W es mr) (hs : starEach (e :: es) X.env = (false, eval e X.env) :: starEach es X.env := by rfl) : DA X EA W (e :: es) (mCons m mr) := by
  obtain ⟨t, p, s⟩ := ha.ex
  obtain ⟨u, q, z⟩ := hr.ex
  refine ⟨tCons t u, pa_cons p q hs, fun ι w σ H ρ Q R E h => ?_⟩
  refine s ι w σ H ρ _ R E ((Hyp.bind h).imp fun x ι1 w1 H1 s1 h1 V rv => ?_)
  refine z _ _ σ H1 ρ _ s1.rel (E.stp s1) ((Hyp.bind h1).imp fun xs ι2 w2 H2 s2 h2 Vs rs => ?_)
  exact Hyp.here h2 s2.rel _ (.cons (rv.stp s2) rs)
/-- a tuple, a list of written items; a list that may change -/
def mTup (m : Env → Mo (List SV)) : Env → Mo SV := fun ρ => mBind (m ρ) fun xs w => match fzs xs w with
  | some (ds, w') => if fitsN ds.length then some (.ok (.dat (.tuple ds)), w') else none
  | none => none
def mLst (m : Env → Mo (List SV)) : Env → Mo SV := fun ρ => mBind (m ρ) fun xs w => match fzs xs w with
  | some (ds, w') => if fitsN ds.length then some (.ok (.dat (.list ds)), w') else none
  | none => none
def mLstO (m : Env → Mo (List SV)) : Env → Mo SV := fun ρ => mBind (m ρ) fun xs w => match fzs xs w with
  | some (ds, w') => if fitsN ds.length then some (.ok (.obj w'.length), w' ++ [.lst ds]) else none
  | none => none
theorem Stp.newLst {K : PySem.W.Frag} {ι : List (List Addr)} {w : Sto} {H : Hp} {p : Addr} {vs : List V} {ds : List PyData} (r : SRel K ι w H) (hp : H p = none) (q : DtA K (mz ι w) H vs ds) :
    Stp K ι w H (ι ++ [[p]]) (w ++ [.lst ds]) (upd H p (.lst vs)) :=
  Stp.alloc r hp rfl fun M hM => ⟨p, vs, rfl, upd_same, q.go (fun b o nb e => by
    have ne := ne_of_none e hp
    refine ⟨by rw [upd_ne ne]; exact e, fun z => ?_⟩
    rcases hM b z with z | z
    · exact ne z
    · exact nb z)⟩
theorem VRel.last {K : PySem.W.Frag} {ι : List (List Addr)} {w : Sto} {M : List Addr} {H : Hp} {p : Addr} (e : ι.length = w.length) : VRel K (ι ++ [[p]]) M H (.ref p) (.obj w.length) :=
  ⟨p, [], by rw [List.getElem?_append_right (by rw [e]; exact Nat.le_refl _), e, Nat.sub_self]; rfl, rfl⟩
variable {es : List Expr} {ml : Env → Mo (List SV)}
theorem de_tup {x1} (ha : DA X EA W es ml) : DE X EA W (.Tuple es x1 pos) (mTup ml) := by
  obtain ⟨t, p, s⟩ := ha.ex
  refine ⟨tTup t, pe_tup p, fun ι w σ H ρ Q R E h => ?_⟩
  refine s ι w σ H ρ _ R E ((Hyp.bind h).imp fun xs ι1 w1 H1 s1 h1 Vs rs => ?_)
  cases e : fzs xs w1 with
  | none => simp only [e] at h1; exact h1.elim
  | some q =>
    obtain ⟨ds, w2⟩ := q
    obtain ⟨s2, q2⟩ := fzs_ok s1.rel rs e
    simp only [e] at h1
    by_cases c : fitsN ds.length = true
    · rw [if_pos c] at h1
      refine ⟨by rw [q2.length]; exact of_decide_eq_true c, fun z hz => ?_⟩
      have s3 := Stp.new (o := .tup Vs) s2.rel hz
      exact h1 _ _ (s2.trans s3) _ (Dt.tup (.inl ⟨.inl upd_same, fun m => s2.rel.ne m hz rfl⟩) (q2.go s3.go))
    · rw [if_neg c] at h1; exact h1.elim
theorem de_lst (ha : DA X EA W es ml) : DE X EA W (.List es pos) (mLst ml) := by
  obtain ⟨t, p, s⟩ := ha.ex
  refine ⟨tLst t, pe_lst p, fun ι w σ H ρ Q R E h => ?_⟩
  refine s ι w σ H ρ _ R E ((Hyp.bind h).imp fun xs ι1 w1 H1 s1 h1 Vs rs => ?_)
  cases e : fzs xs w1 with
  | none => simp only [e] at h1; exact h1.elim
  | some q =>
    obtain ⟨ds, w2⟩ := q
    obtain ⟨s2, q2⟩ := fzs_ok s1.rel rs e
    simp only [e] at h1
    by_cases c : fitsN ds.length = true
    · rw [if_pos c] at h1
      refine ⟨by rw [q2.length]; exact of_decide_eq_true c, fun z hz => ?_⟩
      have s3 := Stp.new (o := .lst Vs) s2.rel hz
      exact h1 _ _ (s2.trans s3) _ (Dt.lst upd_same (fun m => s2.rel.ne m hz rfl) (q2.go s3.go))
    · rw [if_neg c] at h1; exact h1.elim
theorem de_lstO (ha : DA X EA W es ml) : DE X EA W (.List es pos) (mLstO ml) := by
  obtain ⟨t, p, s⟩ := ha.ex
  refine ⟨tLst t, pe_lst p, fun ι w σ H ρ Q R E h => ?_⟩
  refine s ι w σ H ρ _ R E ((Hyp.bind h).imp fun xs ι1 w1 H1 s1 h1 Vs rs => ?_)
  cases e : fzs xs w1 with
  | none => simp only [e] at h1; exact h1.elim
  | some q =>
    obtain ⟨ds, w2⟩ := q
    obtain ⟨s2, q2⟩ := fzs_ok s1.rel rs e
    simp only [e] at h1
    by_cases c : fitsN ds.length = true
    · rw [if_pos c] at h1
      refine ⟨by rw [q2.length]; exact of_decide_eq_true c, fun z hz => ?_⟩
      exact h1 _ _ (s2.trans (Stp.newLst s2.rel hz q2)) _ (VRel.last s2.rel.len)
    · rw [if_neg c] at h1; exact h1.elim
end
end EG


set_option Elab.async false
set_option linter.all false
set_option maxRecDepth 100000
set_option maxHeartbeats 4000000
namespace EG
open PySem PySem.Spec PyProof.Rows L2

/-! ### repr of data at any depth -/
section
variable {X : Cx} {pins : List (Addr × Obj)} {σ : L2.St} {H : Hp} {s : Shared} {M : List Addr}
/-- a dict's object: its entries -/
theorem dic_obj {a : Addr} {kvs : List (Key × V)} (I : Inv X pins σ H s) (h : H a = some (.dK kvs)) : ∃ o es ep vs, s.heap.get? a = some o ∧ o.cls = .type "dict" ∧ o.data = .dict es ep ∧ (a == sysModules) = false ∧ KV kvs vs ∧ Pairs (mixKind X.prog X.w) es.toList vs := by
  obtain ⟨_, hs, vs, rel, o, es, ep, h1, h2, h3, _, h5, _⟩ := I.hok a _ h
  exact ⟨o, es, ep, vs, h1, h2.1, h3, hs, rel, h5⟩
theorem key_rel {k : Key} {u : Value} (h : keyIs k u = true) : RelV (kV k) u := by
  rcases keyIs_shape h with ⟨i, t, rfl, rfl⟩ | ⟨x, t, rfl, rfl⟩
  · exact ⟨t, rfl⟩
  · exact ⟨t, rfl⟩
theorem dt_key {K : PySem.W.Frag} (k : Key) : Dt K M H (kV k) (kD k) := by
  cases k with
  | inl i => exact Dt.int i
  | inr x => exact Dt.str x
/-- the two rows of a dict's entries -/
theorem rows_of : ∀ {kvs : List (Key × V)} {ds : List (PyData × PyData)} {vs : List (Key × Value)} {es : List DictEntry}, DtK X.K M H kvs ds → KV kvs vs → Pairs (mixKind X.prog X.w) es vs →
    DtA X.K M H (kvs.map fun p => kV p.1) (ds.map (·.1)) ∧ Vals (kvs.map fun p => kV p.1) (es.map (·.key)) ∧ DtA X.K M H (kvs.map (·.2)) (ds.map (·.2)) ∧ Vals (kvs.map (·.2)) (es.map (·.val))
  | [], [], _, _, _, q, p => by
    cases q
    cases p
    exact ⟨.nil, .nil, .nil, .nil⟩
  | (k, v) :: r, (_, d) :: ds, _, _, h, q, p => by
    cases h with
    | cons h1 h2 =>
      cases q with
      | cons q1 q2 =>
        cases p with
        | cons p1 p2 p3 =>
          obtain ⟨a1, a2, a3, a4⟩ := rows_of h2 q2 p3
          obtain ⟨e1, e2⟩ := q1
          have z1 : keyIs k _ = true := e1 ▸ p1
          have z2 := e2
          rw [← p2] at z2
          exact ⟨.cons (dt_key k) a1, .cons (key_rel z1) a2, .cons h1 a3, .cons z2 a4⟩
/-- what the library's rules of repr ask of a value -/
def RKd (X : Cx) (s : Shared) (u : Value) (d : PyData) : Prop := ∃ as bs, Reads s.heap u d as ∧ ReadAtMost s.heap d.depth bs ∧ ReprK X.prog X.w bs s.heap d.depth u d.shown
def RKs (X : Cx) (s : Shared) (us : List Value) (ds : List PyData) : Prop :=
  ∃ as bs, ReadsAll s.heap us ds as ∧ ReadAtMost s.heap (PyData.depthAll ds) bs ∧ ReprAllK X.prog X.w bs s.heap (PyData.depthAll ds) us (PyData.shownAll ds)
/-- .. of a list, a tuple, a dict whose parts have it -/
theorem rk_list {a : Addr} {o : Obj} {its : List Value} {n : Nat} {ds : List PyData} (ho : s.heap.get? a = some o) (hc : o.cls = .type "list") (hd : o.data = .seq its.toArray n) (R : RKs X s its ds) :
    ∃ as bs, Reads s.heap (.ref a) (.list ds) as ∧ ReadAtMost s.heap (PyData.depthAll ds) bs ∧ a ∉ bs ∧ ReprAllK X.prog X.w bs s.heap (PyData.depthAll ds) its (PyData.shownAll ds) := by
  obtain ⟨as, bs, r1, r2, r3⟩ := R
  have rd : Reads s.heap (.ref a) (.list ds) (a :: as) := Reads.list ho hc hd (by simpa using r1)
  exact ⟨_, bs, rd, r2, not_mem_of_deeper rd (by simp only [PyData.depth]; omega) r2, r3⟩
theorem rk_tuple {a : Addr} {o : Obj} {its : List Value} {n : Nat} {ds : List PyData} (ho : s.heap.get? a = some o) (hc : o.cls = .type "tuple") (hd : o.data = .seq its.toArray n) (R : RKs X s its ds) :
    ∃ as bs, Reads s.heap (.ref a) (.tuple ds) as ∧ ReadAtMost s.heap (PyData.depthAll ds) bs ∧ a ∉ bs ∧ ReprAllK X.prog X.w bs s.heap (PyData.depthAll ds) its (PyData.shownAll ds) := by
  obtain ⟨as, bs, r1, r2, r3⟩ := R
  have rd : Reads s.heap (.ref a) (.tuple ds) as := Reads.tuple ho hc hd (by simpa using r1)
  exact ⟨_, bs, rd, r2, not_mem_of_deeper rd (by simp only [PyData.depth]; omega) r2, r3⟩
theorem rk_dict {a : Addr} {o : Obj} {es : Array DictEntry} {n : Nat} {kvs : List (PyData × PyData)} (ho : s.heap.get? a = some o) (hc : o.cls = .type "dict") (hd : o.data = .dict es n) (R1 : RKs X s (es.toList.map (·.key)) (kvs.map (·.1))) (R2 : RKs X s (es.toList.map (·.val)) (kvs.map (·.2))) :
    ∃ as bs ps, Reads s.heap (.ref a) (.dict kvs) as ∧ ReadAtMost s.heap (PyData.depthKv kvs) bs ∧ a ∉ bs ∧ ReprEntriesK X.prog X.w bs s.heap (PyData.depthKv kvs) es.toList ps ∧ (PyData.dict kvs).shown = dictText ps := by
  obtain ⟨as, b1, r1, r2, r3⟩ := R1
  obtain ⟨as', b2, q1, q2, q3⟩ := R2
  have rd := Reads.dict ho hc hd r1 q1
  have le1 := PyData.depthAll_keys_le kvs
  have le2 := PyData.depthAll_vals_le kvs
  have both : ReadAtMost s.heap (PyData.depthKv kvs) (b1 ++ b2) := (r2.mono le1).append (q2.mono le2)
  refine ⟨_, b1 ++ b2, _, rd, both, not_mem_of_deeper rd (by simp only [PyData.depth]; omega) both, ReprEntriesK.of_two es.toList _ _ (r3.more_le (fun b hb => List.mem_append_left _ hb) le1) (q3.more_le (fun b hb => List.mem_append_right _ hb) le2), ?_⟩
  simp only [PyData.shown, PyData.shownKv_eq]
theorem all_len {ds : List PyData} {n : Nat} (h : ∀ t ∈ PyData.shownAll ds, t.length ≤ n) {d : PyData} {r : List PyData} (e : ds = d :: r) : d.shown.length ≤ n ∧ ∀ t ∈ PyData.shownAll r, t.length ≤ n := by
  subst e
  simp only [PyData.shownAll] at h
  exact ⟨h _ List.mem_cons_self, fun t ht => h t (List.mem_cons_of_mem _ ht)⟩
mutual
theorem rk (I : Inv X pins σ H s) : ∀ (d : PyData) (v : V) (u : Value), Dt X.K M H v d → RelV v u → d.showable = true → d.shown.length ≤ sizeLine → RKd X s u d
  | .none, _, _, h, r, _, _ => by
    cases h
    cases r
    exact ⟨_, [], Reads.none, (fun _ z => nomatch z), by simp only [PyData.shown]; exact ReprK.of_is ReprIs.none _ _ _⟩
  | .bool b, _, _, h, r, _, _ => by
    cases h
    cases r
    exact ⟨_, [], Reads.bool b, (fun _ z => nomatch z), by simp only [PyData.shown]; exact ReprK.of_is (ReprIs.bool b) _ _ _⟩
  | .int i, _, _, h, r, hs, _ => by
    cases h
    obtain ⟨t, rfl⟩ := r
    exact ⟨_, [], Reads.int i t, (fun _ z => nomatch z), by simp only [PyData.shown]; exact ReprK.of_is (ReprIs.int t (by simpa [PyData.showable] using hs)) _ _ _⟩
  | .str x, _, _, h, r, _, hz => by
    cases h
    obtain ⟨t, rfl⟩ := r
    exact ⟨_, [], Reads.str x t, (fun _ z => nomatch z), by simp only [PyData.shown]; exact ReprK.of_is (ReprIs.str x t (by simpa only [PyData.shown] using hz)) _ _ _⟩
  | .list ds, _, _, h, r, hs, hz => by
    cases h with
    | lst h _ q =>
      cases r
      obtain ⟨its, rv, ⟨o, n, ho, hc, _, hd⟩, _⟩ := I.list (SqL.of h)
      have hz' : (listText (PyData.shownAll ds)).length ≤ sizeLine := by simpa only [PyData.shown] using hz
      obtain ⟨as, bs, r1, r2, r3, r4⟩ := rk_list ho hc hd (rks I ds _ its q rv (by simpa [PyData.showable] using hs) fun t ht => Nat.le_trans (listText_mem_le ht) hz')
      refine ⟨as, _ :: bs, r1, ReadAtMost.cons r1 (by simp only [PyData.depth]; omega) r2, ?_⟩
      simp only [PyData.depth, PyData.shown]
      cases its with
      | nil =>
        cases ds with
        | nil =>
          simp only [PyData.shownAll, listText_nil]
          exact ReprK.listEmpty ho hc hd
        | cons _ _ => simp only [PyData.shownAll] at r4; cases r4
      | cons y ys => exact ReprK.list ho hc hd r3 (by simpa using r4.length_eq) fun i z e => r4.item i z (by simpa using e)
  | .tuple ds, _, _, h, r, hs, hz => by
    cases h with
    | tup h q =>
      cases r
      obtain ⟨its, rv, ⟨o, ho, hc, n, hd⟩, _⟩ := I.tuple h.sq
      have hz' : (tupleText (PyData.shownAll ds)).length ≤ sizeLine := by simpa only [PyData.shown] using hz
      obtain ⟨as, bs, r1, r2, r3, r4⟩ := rk_tuple ho hc hd (rks I ds _ its q rv (by simpa [PyData.showable] using hs) fun t ht => Nat.le_trans (tupleText_mem_le ht) hz')
      refine ⟨as, _ :: bs, r1, ReadAtMost.cons r1 (by simp only [PyData.depth]; omega) r2, ?_⟩
      simp only [PyData.depth, PyData.shown]
      exact ReprK.tuple ho hc hd r3 (by simpa using r4)
  | .dict kvs, _, _, h, r, hs, hz => by
    cases h with
    | dic h _ q =>
      cases r
      obtain ⟨o, es, ep, vs, ho, hc, hd, hsm, rel, pr⟩ := dic_obj I h
      obtain ⟨a1, a2, a3, a4⟩ := rows_of q rel pr
      obtain ⟨hs1, hs2⟩ := PyData.showableKv_split kvs (by simpa [PyData.showable] using hs)
      have hz' : (dictText (PyData.shownKv kvs)).length ≤ sizeLine := by simpa only [PyData.shown] using hz
      have both := rkv I kvs _ _ _ _ a1 a2 a3 a4 hs1 hs2
        (fun t ht => let ⟨p, hp, hl⟩ := PyData.shownKv_key_le kvs t ht; Nat.le_trans hl (Nat.le_trans (dictText_mem_le hp) hz'))
        (fun t ht => let ⟨p, hp, hl⟩ := PyData.shownKv_val_le kvs t ht; Nat.le_trans hl (Nat.le_trans (dictText_mem_le hp) hz'))
      obtain ⟨as, bs, ps, r1, r2, r3, r4, r5⟩ := rk_dict ho hc hd both.1 both.2
      refine ⟨as, _ :: bs, r1, ReadAtMost.cons r1 (by simp only [PyData.depth]; omega) r2, ?_⟩
      rw [r5]
      simp only [PyData.depth]
      exact ReprK.dict ho hc hd hsm r3 r4
theorem rks (I : Inv X pins σ H s) : ∀ (ds : List PyData) (vs : List V) (us : List Value), DtA X.K M H vs ds → Vals vs us → PyData.showableAll ds = true → (∀ t ∈ PyData.shownAll ds, t.length ≤ sizeLine) → RKs X s us ds
  | [], _, _, h, r, _, _ => by
    cases h
    cases r
    exact ⟨_, [], ReadsAll.nil, (fun _ z => nomatch z), by simp only [PyData.shownAll]; exact .nil⟩
  | d :: ds, _, _, h, r, hs, hz => by
    have hs' : d.showable = true ∧ PyData.showableAll ds = true := by simpa [PyData.showableAll] using hs
    obtain ⟨z1, z2⟩ := all_len hz rfl
    cases h with
    | cons h1 h2 =>
      cases r with
      | cons r1 r2 =>
        obtain ⟨as, b1, p1, p2, p3⟩ := rk I d _ _ h1 r1 hs'.1 z1
        obtain ⟨as', b2, q1, q2, q3⟩ := rks I ds _ _ h2 r2 hs'.2 z2
        refine ⟨_, b1 ++ b2, ReadsAll.cons p1 q1, ?_, ?_⟩
        · simp only [PyData.depthAll]
          exact (p2.mono (Nat.le_max_left _ _)).append (q2.mono (Nat.le_max_right _ _))
        · simp only [PyData.depthAll, PyData.shownAll]
          exact .cons ((p3.more fun b hb => List.mem_append_left _ hb).level_le (Nat.le_max_left _ _)) (q3.more_le (fun b hb => List.mem_append_right _ hb) (Nat.le_max_right _ _))
theorem rkv (I : Inv X pins σ H s) : ∀ (kvs : List (PyData × PyData)) (ks vs : List V) (us ws : List Value), DtA X.K M H ks (kvs.map (·.1)) → Vals ks us → DtA X.K M H vs (kvs.map (·.2)) → Vals vs ws →
    PyData.showableAll (kvs.map (·.1)) = true → PyData.showableAll (kvs.map (·.2)) = true → (∀ t ∈ PyData.shownAll (kvs.map (·.1)), t.length ≤ sizeLine) → (∀ t ∈ PyData.shownAll (kvs.map (·.2)), t.length ≤ sizeLine) → RKs X s us (kvs.map (·.1)) ∧ RKs X s ws (kvs.map (·.2))
  | [], _, _, _, _, h, r, h', r', _, _, _, _ => by
    cases h
    cases r
    cases h'
    cases r'
    exact ⟨⟨_, [], ReadsAll.nil, (fun _ z => nomatch z), by simp only [PyData.shownAll, List.map_nil]; exact .nil⟩, ⟨_, [], ReadsAll.nil, (fun _ z => nomatch z), by simp only [PyData.shownAll, List.map_nil]; exact .nil⟩⟩
  | (k, d) :: kvs, _, _, _, _, h, r, h', r', hs, hs', hz, hz' => by
    simp only [List.map_cons] at *
    have s1 : k.showable = true ∧ PyData.showableAll (kvs.map (·.1)) = true := by simpa [PyData.showableAll] using hs
    have s2 : d.showable = true ∧ PyData.showableAll (kvs.map (·.2)) = true := by simpa [PyData.showableAll] using hs'
    obtain ⟨z1, z2⟩ := all_len hz rfl
    obtain ⟨z3, z4⟩ := all_len hz' rfl
    cases h with
    | cons h1 h2 =>
      cases r with
      | cons r1 r2 =>
        cases h' with
        | cons g1 g2 =>
          cases r' with
          | cons t1 t2 =>
            obtain ⟨⟨as', b2, q1, q2, q3⟩, ⟨cs', c2, u1, u2, u3⟩⟩ := rkv I kvs _ _ _ _ h2 r2 g2 t2 s1.2 s2.2 z2 z4
            obtain ⟨as, b1, p1, p2, p3⟩ := rk I k _ _ h1 r1 s1.1 z1
            obtain ⟨cs, c1, o1, o2, o3⟩ := rk I d _ _ g1 t1 s2.1 z3
            refine ⟨⟨_, b1 ++ b2, ReadsAll.cons p1 q1, ?_, ?_⟩, ⟨_, c1 ++ c2, ReadsAll.cons o1 u1, ?_, ?_⟩⟩
            · simp only [PyData.depthAll]
              exact (p2.mono (Nat.le_max_left _ _)).append (q2.mono (Nat.le_max_right _ _))
            · simp only [PyData.depthAll, PyData.shownAll]
              exact .cons ((p3.more fun b hb => List.mem_append_left _ hb).level_le (Nat.le_max_left _ _)) (q3.more_le (fun b hb => List.mem_append_right _ hb) (Nat.le_max_right _ _))
            · simp only [PyData.depthAll]
              exact (o2.mono (Nat.le_max_left _ _)).append (u2.mono (Nat.le_max_right _ _))
            · simp only [PyData.depthAll, PyData.shownAll]
              exact .cons ((o3.more fun b hb => List.mem_append_left _ hb).level_le (Nat.le_max_left _ _)) (u3.more_le (fun b hb => List.mem_append_right _ hb) (Nat.le_max_right _ _))
end
/-- repr(x): its data can be shown, and it is no too long text -/
def rRepr (K : PySem.W.Frag) : List V → Hp → VK → Prop := fun xs H Q => ∃ v d M, xs = [v] ∧ DtP K M H v d ∧ d.showable = true ∧ d.depth ≤ 60 ∧ d.shown.length ≤ sizeLine ∧ Q (.str d.shown) H
theorem call_reprD (hg : X.A.guards = some []) (hu : X.A.units + 64 < cLine) : CallR X (.builtin "repr") (rRepr X.K) := by
  intro pins s σ H xs us Q I r h
  obtain ⟨v, d, M, rfl, hp, hs, hdp, hz, q⟩ := h
  obtain ⟨u, rfl, rx⟩ := vals1 r
  have fin : ∀ (h' : Heap) (t tk : Nat), (∀ b o, s.heap.get? b = some o → h'.get? b = some o) → EP X pins σ Q (.str d.shown t) { s with heap := h', toks := tk } := fun h' t tk k => ⟨.str d.shown, H, I.kept k, ⟨t, rfl⟩, q⟩
  cases d with
  | none =>
    have e : v = .non := hp
    subst e
    cases rx
    refine PySem.P.repr_of_none ?_
    have f := fin s.heap s.toks (s.toks + 1) fun _ _ e => e
    simp only [PyData.shown] at f
    exact f
  | bool b =>
    have e : v = .bl b := hp
    subst e
    cases rx
    refine PySem.P.repr_of_bool ?_
    have f := fin s.heap s.toks (s.toks + 1) fun _ _ e => e
    simp only [PyData.shown] at f
    exact f
  | int i =>
    have e : v = .int i := hp
    subst e
    obtain ⟨t, rfl⟩ := rx
    refine PySem.P.repr_of_int (by simpa [PyData.showable] using hs) ?_
    have f := fin s.heap s.toks (s.toks + 1) fun _ _ e => e
    simp only [PyData.shown] at f
    exact f
  | str x =>
    have e : v = .str x := hp
    subst e
    obtain ⟨t, rfl⟩ := rx
    refine PySem.P.repr_of_str ?_ (by simpa only [PyData.shown] using hz)
    have f := fin s.heap s.toks (s.toks + 1) fun _ _ e => e
    simp only [PyData.shown] at f
    exact f
  | list ds =>
    obtain ⟨a, vs, rfl, h1, h2⟩ := hp
    cases rx
    obtain ⟨its, rv, ⟨o, n, ho, hc, _, hd⟩, _⟩ := I.list h1
    have hz' : (listText (PyData.shownAll ds)).length ≤ sizeLine := by simpa only [PyData.shown] using hz
    obtain ⟨as, bs, r1, r2, r3, r4⟩ := rk_list ho hc hd (rks I ds _ its h2 rv (by simpa [PyData.showable] using hs) fun t ht => Nat.le_trans (listText_mem_le ht) hz')
    simp only [PyData.shown] at fin
    have hdp' : PyData.depthAll ds + 1 ≤ 60 := by simpa only [PyData.depth] using hdp
    refine call_repr_slot (T := "list") (by omega) ⟨o, ho, hc⟩ F.slot_list_repr.toG ?_
    cases its with
    | nil =>
      cases ds with
      | nil =>
        simp only [PyData.shownAll, listText_nil] at fin
        exact call_list_repr_empty ⟨o, ho, hc⟩ ho hd ⟨_, _, rfl, fin s.heap _ _ fun _ _ e => e⟩
      | cons _ _ => simp only [PyData.shownAll] at r4; cases r4
    | cons y ys =>
      exact call_list_reprK ho hc hd r3 (by simpa using r4.length_eq) (fun i z e => r4.item i z (by simpa using e)) hg (fun b _ => Clear.nil b) (by show X.A.units + 1 + (PyData.depthAll ds + 1) < cLine; omega) (fun _ _ e => e) (fun h' t tk k => ⟨_, _, rfl, fin h' t tk k⟩) hz'
  | tuple ds =>
    obtain ⟨a, vs, rfl, h1, h2⟩ := hp
    cases rx
    obtain ⟨its, rv, ⟨o, ho, hc, n, hd⟩, _⟩ := I.tuple h1
    have hz' : (tupleText (PyData.shownAll ds)).length ≤ sizeLine := by simpa only [PyData.shown] using hz
    obtain ⟨as, bs, r1, r2, r3, r4⟩ := rk_tuple ho hc hd (rks I ds _ its h2 rv (by simpa [PyData.showable] using hs) fun t ht => Nat.le_trans (tupleText_mem_le ht) hz')
    simp only [PyData.shown] at fin
    have hdp' : PyData.depthAll ds + 1 ≤ 60 := by simpa only [PyData.depth] using hdp
    refine call_repr_slot (T := "tuple") (by omega) ⟨o, ho, hc⟩ F.slot_tuple_repr ?_
    exact call_tuple_reprK ho hc hd r3 (by simpa using r4) hg (fun b _ => Clear.nil b) (by show X.A.units + 1 + (PyData.depthAll ds + 1) < cLine; omega) (fun _ _ e => e) (fun h' t tk k => ⟨_, _, rfl, fin h' t tk k⟩) hz'
  | dict kvs =>
    obtain ⟨a, vs, rfl, h1, h2⟩ := hp
    cases rx
    obtain ⟨o, es, ep, ws, ho, hc, hd, hsm, rel, pr⟩ := dic_obj I h1
    obtain ⟨a1, a2, a3, a4⟩ := rows_of h2 rel pr
    obtain ⟨hs1, hs2⟩ := PyData.showableKv_split kvs (by simpa [PyData.showable] using hs)
    have hz' : (dictText (PyData.shownKv kvs)).length ≤ sizeLine := by simpa only [PyData.shown] using hz
    have both := rkv I kvs _ _ _ _ a1 a2 a3 a4 hs1 hs2
      (fun t ht => let ⟨p, hp, hl⟩ := PyData.shownKv_key_le kvs t ht; Nat.le_trans hl (Nat.le_trans (dictText_mem_le hp) hz'))
      (fun t ht => let ⟨p, hp, hl⟩ := PyData.shownKv_val_le kvs t ht; Nat.le_trans hl (Nat.le_trans (dictText_mem_le hp) hz'))
    obtain ⟨as, bs, ps, r1, r2, r3, r4, r5⟩ := rk_dict ho hc hd both.1 both.2
    rw [r5] at fin
    have hdp' : PyData.depthKv kvs + 1 ≤ 60 := by simpa only [PyData.depth] using hdp
    refine call_repr_slot (T := "dict") (by omega) ⟨o, ho, hc⟩ F.slot_dict_repr ?_
    exact call_dict_reprK ho hc hd hsm r3 r4 hg (fun b _ => Clear.nil b) (by show X.A.units + 1 + (PyData.depthKv kvs + 1) < cLine; omega) (fun _ _ e => e) (fun h' t tk k => ⟨_, _, rfl, fin h' t tk k⟩) (by rw [← r5]; exact hz)
end
end EG


set_option Elab.async false
set_option linter.all false
set_option maxRecDepth 100000
set_option maxHeartbeats 4000000
namespace EG
open PySem PySem.Spec PyProof.Rows L2

/-! ### calls of built-ins -/
abbrev Op1 := SV → Sto → Option SV
def Un1 (K : PySem.W.Frag) (r : List V → Hp → VK → Prop) (g : Op1) : Prop := ∀ ι w H vx x v Q, SRel K ι w H → VRel K ι (mz ι w) H vx x → g x w = some v → (∀ H', Stp K ι w H ι w H' → ∀ V, VRel K ι (mz ι w) H' V v → Q V H') → r [vx] H Q
theorem Un1.run {K : PySem.W.Frag} {EA : EAt} {r : List V → Hp → VK → Prop} {g : Op1} (s : Un1 K r g) {ι : List (List Addr)} {w : Sto} {H : Hp} {vx : V} {x : SV} {Q : VK} {W : Value → Option Addr → Hp → Prop} (R : SRel K ι w H) (hx : VRel K ι (mz ι w) H vx x)
    (h : Hyp K EA ι w H ((g x w).map fun v => (Res.ok v, w)) (fun v ι' w' H' => ∀ V, VRel K ι' (mz ι' w') H' V v → Q V H') W) : r [vx] H Q := by
  cases e : g x w with
  | none => rw [e] at h; exact h.elim
  | some v =>
    rw [e] at h
    exact s ι w H vx x v Q R hx e fun H' st V rv => h ι H' st V rv

/-! what they do -/
def lenD : PyData → Option Nat
  | .str x => if x.length ≤ sizeLine then some x.length else none
  | .list xs => some xs.length
  | .tuple xs => some xs.length
  | _ => none
def gLen : Op1 := fun x w => ((toD w x).bind lenD).map fun n => .dat (.int (n : Int))
def gList : Op1 := fun x w => ((toD w x).bind itemsD).map fun xs => .dat (.list xs)
def gTuple : Op1 := fun x w => match x with
  | .dat (.tuple xs) => some (.dat (.tuple xs))
  | _ => match toD w x with
    | some (.list xs) => some (.dat (.tuple xs))
    | _ => none
def gInt : Op1 := fun x _ => match x with
  | .dat (.int i) => some (.dat (.int i))
  | .dat (.bool b) => some (.dat (.int (if b then 1 else 0)))
  | _ => none
def tyD : PyData → String
  | .none => "NoneType"
  | .bool _ => "bool"
  | .int _ => "int"
  | .str _ => "str"
  | .list _ => "list"
  | .tuple _ => "tuple"
  | .dict _ => "dict"
/-- isinstance(x, T) for a built-in T of these -/
def isT (t T : String) : Bool := t == T || (t == "bool" && T == "int")
def gIsi (T : String) : Op1 := fun x w => (toD w x).map fun d => .dat (.bool (isT (tyD d) T))
def gRepr : Op1 := fun x w => match toD w x with
  | some d => if d.showable && decide (d.depth ≤ 60) && decide (d.shown.length ≤ sizeLine) then some (.dat (.str d.shown)) else none
  | none => none
def allB : List PyData → Option (List Bool)
  | [] => some []
  | .bool b :: r => (allB r).map (b :: ·)
  | _ :: _ => none
def gAll : Op1 := fun x w => match toD w x with
  | some (.list xs) => (allB xs).map fun bs => .dat (.bool (bs.all id))
  | _ => none
def gAny : Op1 := fun x w => match toD w x with
  | some (.list xs) => (allB xs).map fun bs => .dat (.bool (bs.any id))
  | _ => none

section
variable {X : Cx} {EA : EAt} {W : WX} {a b c : Expr} {ma mb mc : Env → Mo SV} {pos p : Pos} {x : Str}
/-- f(a), f a built-in function; T(a), T a built-in class -/
theorem de_b1 {id : String} {r : List V → Hp → VK → Prop} {g : Op1} (hc : CallR X (.builtin id) r) (hs : Un1 X.K r g) (hm : X.mg x = none) (hv : bootBuiltins x = some (.builtin id)) (ha : DE X EA W a ma) (hg : Gl X x := by rfl) (hn : x ≠ "__name__" := by decide) (hdb : (x == ("__debug__" : Str)) = false := by decide)
    (he : starEach (a :: []) X.env = (false, eval a X.env) :: starEach [] X.env := by rfl) (hpl : (backTo pos (starEach [] X.env)).any (·.1) = false := by rfl) : DE X EA W (.Call (.Name x p) [a] [] pos) (mUn ma g) := by
  obtain ⟨t, q, s⟩ := ha.ex
  refine ⟨_, pe_callB hc hg hm hv (pa_cons q pa_nil he) hn hdb he hpl, fun ι w σ H ρ Q R E h => ?_⟩
  exact s ι w σ H ρ _ R E ((Hyp.bind h).imp fun y ι1 w1 H1 s1 h1 V rv => hs.run s1.rel rv h1)
theorem de_t1 {T : String} {r : List V → Hp → VK → Prop} {g : Op1} (hc : CallR X (.type T) r) (hs : Un1 X.K r g) (hm : X.mg x = none) (hv : bootBuiltins x = some (.type T)) (ha : DE X EA W a ma) (hg : Gl X x := by rfl) (hn : x ≠ "__name__" := by decide) (hdb : (x == ("__debug__" : Str)) = false := by decide)
    (he : starEach (a :: []) X.env = (false, eval a X.env) :: starEach [] X.env := by rfl) (hpl : (backTo pos (starEach [] X.env)).any (·.1) = false := by rfl) : DE X EA W (.Call (.Name x p) [a] [] pos) (mUn ma g) := by
  obtain ⟨t, q, s⟩ := ha.ex
  refine ⟨_, pe_callTy hc hg hm hv (pa_cons q pa_nil he) hn hdb he hpl, fun ι w σ H ρ Q R E h => ?_⟩
  exact s ι w σ H ρ _ R E ((Hyp.bind h).imp fun y ι1 w1 H1 s1 h1 V rv => hs.run s1.rel rv h1)

variable {K : PySem.W.Frag}
theorem un_len : Un1 K (fun xs H Q => ∃ x n, xs = [x] ∧ LenV K x H n ∧ Q (.int n) H) gLen := by
  intro ι w H vx x v Q R rx e k
  unfold gLen at e
  cases q : toD w x with
  | none => rw [q] at e; cases e
  | some d =>
    rw [q] at e
    have pp := rx.p R q
    cases d with
    | str y =>
      have h : vx = .str y := pp
      subst h
      by_cases c : y.length ≤ sizeLine
      · simp only [Option.bind_some, lenD, if_pos c, Option.map_some] at e
        cases e
        exact ⟨_, _, rfl, ⟨c, rfl⟩, k H (Stp.refl R) _ (Dt.int _)⟩
      · simp [lenD, if_neg c] at e
    | list ys =>
      obtain ⟨a, vs, rfl, h1, h2⟩ := pp
      cases e
      exact ⟨_, vs.length, rfl, .inl ⟨vs, h1, rfl⟩, by rw [h2.length]; exact k H (Stp.refl R) _ (Dt.int _)⟩
    | tuple ys =>
      obtain ⟨a, vs, rfl, h1, h2⟩ := pp
      cases e
      exact ⟨_, vs.length, rfl, .inr ⟨vs, h1, rfl⟩, by rw [h2.length]; exact k H (Stp.refl R) _ (Dt.int _)⟩
    | _ => cases e
theorem un_list : Un1 K (fun xs H Q => ∃ p ys, xs = [.ref p] ∧ (SqL K H p ys ∨ SqT K H p ys) ∧ ∀ l, H l = none → Q (.ref l) (upd H l (.lst ys))) gList := by
  intro ι w H vx x v Q R rx e k
  unfold gList at e
  cases q : (toD w x).bind itemsD with
  | none => rw [q] at e; cases e
  | some ds =>
    rw [q] at e
    cases e
    obtain ⟨a, vs, rfl, h1, h2⟩ := rx.items R q
    refine ⟨a, vs, rfl, h1, fun l hl => ?_⟩
    have s := Stp.new (o := .lst vs) R hl
    exact k _ s _ (Dt.lst upd_same (fun m => R.ne m hl rfl) (h2.go s.go))
theorem un_tuple : Un1 K (fun xs H Q => ∃ p ys, xs = [.ref p] ∧ ((SqL K H p ys ∧ ∀ l, H l = none → Q (.ref l) (upd H l (.tup ys))) ∨ (SqT K H p ys ∧ Q (.ref p) H))) gTuple := by
  intro ι w H vx x v Q R rx e k
  have gen : (match toD w x with | some (.list xs) => some (SV.dat (.tuple xs)) | _ => none) = some v → ∃ p ys, [vx] = [V.ref p] ∧ ((SqL K H p ys ∧ ∀ l, H l = none → Q (.ref l) (upd H l (.tup ys))) ∨ (SqT K H p ys ∧ Q (.ref p) H)) := fun e => by
    cases q : toD w x with
    | none => rw [q] at e; cases e
    | some d =>
      rw [q] at e
      have pp := rx.p R q
      cases d with
      | list ys =>
        obtain ⟨a, vs, rfl, h1, h2⟩ := pp
        cases e
        refine ⟨a, vs, rfl, .inl ⟨h1, fun l hl => ?_⟩⟩
        have s := Stp.new (o := .tup vs) R hl
        exact k _ s _ (Dt.tup (.inl ⟨.inl upd_same, fun m => R.ne m hl rfl⟩) (h2.go s.go))
      | _ => cases e
  unfold gTuple at e
  cases x with
  | dat d =>
    cases d with
    | tuple ys =>
      cases e
      obtain ⟨a, vs, rfl, h1, h2⟩ := ST.tup rx
      exact ⟨a, vs, rfl, .inr ⟨h1.sq, k H (Stp.refl R) _ (Dt.tup h1 h2)⟩⟩
    | _ => exact gen e
  | _ => exact gen e
theorem un_int : Un1 K (fun xs H Q => (∃ i, xs = [.int i] ∧ Q (.int i) H) ∨ ∃ k, xs = [.bl k] ∧ Q (.int (if k then 1 else 0)) H) gInt := by
  intro ι w H vx x v Q R rx e k
  cases x with
  | dat d =>
    cases d with
    | int i => cases rx; cases e; exact .inl ⟨i, rfl, k H (Stp.refl R) _ (Dt.int _)⟩
    | bool b => cases rx; cases e; exact .inr ⟨b, rfl, k H (Stp.refl R) _ (Dt.int _)⟩
    | _ => cases e
  | _ => cases e
theorem un_repr : Un1 K (rRepr K) gRepr := by
  intro ι w H vx x v Q R rx e k
  unfold gRepr at e
  cases q : toD w x with
  | none => rw [q] at e; cases e
  | some d =>
    rw [q] at e
    simp only at e
    by_cases c : (d.showable && decide (d.depth ≤ 60) && decide (d.shown.length ≤ sizeLine)) = true
    · rw [if_pos c] at e
      cases e
      simp only [Bool.and_eq_true, decide_eq_true_eq] at c
      exact ⟨vx, d, _, rfl, rx.p R q, c.1.1, c.1.2, c.2, k H (Stp.refl R) _ (Dt.str _)⟩
    · rw [if_neg c] at e; cases e
theorem allB_v {M : List Addr} {H : Hp} : ∀ {vs : List V} {ds : List PyData} {bs : List Bool}, DtA K M H vs ds → allB ds = some bs → vs = bs.map V.bl
  | _, _, _, .nil, e => by cases e; rfl
  | _, d :: ds, _, .cons h q, e => by
    cases d with
    | bool b =>
      cases h
      have e' : (allB ds).map (b :: ·) = some _ := e
      cases c : allB ds with
      | none => rw [c] at e'; cases e'
      | some bs =>
        rw [c] at e'
        cases e'
        rw [allB_v q c]
        rfl
    | _ => cases e
theorem un_all : Un1 K (rAll K) gAll := by
  intro ι w H vx x v Q R rx e k
  unfold gAll at e
  cases q : toD w x with
  | none => rw [q] at e; cases e
  | some d =>
    rw [q] at e
    have pp := rx.p R q
    cases d with
    | list ys =>
      obtain ⟨a, vs, rfl, h1, h2⟩ := pp
      simp only at e
      cases c : allB ys with
      | none => rw [c] at e; cases e
      | some bs =>
        rw [c] at e
        cases e
        rw [allB_v h2 c] at h1
        exact ⟨a, bs, rfl, h1, k H (Stp.refl R) _ (Dt.bl _)⟩
    | _ => cases e
theorem un_any : Un1 K (rAny K) gAny := by
  intro ι w H vx x v Q R rx e k
  unfold gAny at e
  cases q : toD w x with
  | none => rw [q] at e; cases e
  | some d =>
    rw [q] at e
    have pp := rx.p R q
    cases d with
    | list ys =>
      obtain ⟨a, vs, rfl, h1, h2⟩ := pp
      simp only at e
      cases c : allB ys with
      | none => rw [c] at e; cases e
      | some bs =>
        rw [c] at e
        cases e
        rw [allB_v h2 c] at h1
        exact ⟨a, bs, rfl, h1, k H (Stp.refl R) _ (Dt.bl _)⟩
    | _ => cases e
/-! isinstance -/
theorem isT_kit : ∀ t ∈ ["NoneType", "bool", "int", "str", "list", "tuple", "dict"], ∀ T ∈ ["tuple", "int", "bool", "str"], kitB t T = some (isT t T) := by decide +kernel
theorem tyD_mem (d : PyData) : tyD d ∈ ["NoneType", "bool", "int", "str", "list", "tuple", "dict"] := by cases d <;> simp [tyD]
theorem ty_x {M : List Addr} {H : Hp} {v : V} : ∀ {d : PyData}, DtP K M H v d → TyX K H v (.type (tyD d))
  | .none, h => by have h' : v = .non := h; rw [h']; exact .base .non
  | .bool b, h => by have h' : v = .bl b := h; rw [h']; exact .base (.bl b)
  | .int b, h => by have h' : v = .int b := h; rw [h']; exact .base (.int b)
  | .str b, h => by have h' : v = .str b := h; rw [h']; exact .base (.str b)
  | .list ds, h => by
    obtain ⟨a, vs, rfl, h1, _⟩ := h
    rcases h1 with (h1 | ⟨o, h1⟩) | ⟨o, its, n, h1, h2, _⟩
    · exact .base (.lst h1)
    · exact .base (.frz h1)
    · exact .kList h1 h2
  | .tuple ds, h => by
    obtain ⟨a, vs, rfl, h1, _⟩ := h
    rcases h1 with (h1 | ⟨o, h1⟩) | ⟨o, its, n, h1, h2, _⟩
    · exact .base (.tup h1)
    · exact .fTuple h1
    · exact .kTuple h1 h2
  | .dict ds, h => by
    obtain ⟨a, vs, rfl, h1, _⟩ := h
    exact .base (.dK h1)
theorem de_isi {T : Str} {Tn : String} {q0 : Pos} (hT : Tn ∈ ["tuple", "int", "bool", "str"]) (hm : X.mg "isinstance" = none) (hmT : X.mg T = none) (hvT : bootBuiltins T = some (.type Tn)) (ha : DE X EA W a ma) (hg : Gl X "isinstance" := by rfl) (hgT : Gl X T := by rfl)
    (hnT : T ≠ "__name__" := by decide) (hdT : (T == ("__debug__" : Str)) = false := by decide)
    (he : starEach (a :: [.Name T q0]) X.env = (false, eval a X.env) :: starEach [.Name T q0] X.env := by rfl) (he2 : starEach (.Name T q0 :: []) X.env = (false, eval (.Name T q0) X.env) :: starEach [] X.env := by rfl) (hpl : (backTo pos (starEach [.Name T q0] X.env)).any (·.1) = false := by rfl) :
    DE X EA W (.Call (.Name "isinstance" p) [a, .Name T q0] [] pos) (mUn ma (gIsi Tn)) := by
  obtain ⟨t, q, s⟩ := ha.ex
  refine ⟨_, pe_callB call_isi hg hm (by decide +kernel) (pa_cons q (pa_cons (pe_bltn (v := .ty Tn) hgT hmT hvT rfl hnT hdT) pa_nil he2) he) (by decide) (by decide) he hpl, fun ι w σ H ρ Q R E h => ?_⟩
  refine s ι w σ H ρ _ R E ((Hyp.bind h).imp fun y ι1 w1 H1 s1 h1 V rv => ?_)
  unfold gIsi at h1
  cases e : toD w1 y with
  | none => rw [e] at h1; exact h1.elim
  | some d =>
    rw [e] at h1
    exact ⟨V, .ty Tn, _, _, _, rfl, .ty Tn, ty_x (rv.p s1.rel e), kit_ty (isT_kit _ (tyD_mem d) _ hT), Hyp.here h1 s1.rel _ (Dt.bl _)⟩

/-! ### items, slices -/
theorem ix_both : IxR X (fun x y H Q => rIxL X.K x y H Q ∨ rIxT X.K x y H Q) := IxR.or ix_list ix_tup
theorem de_ix (ha : DE X EA W a ma) (hb : DE X EA W b mb) (hs : PlainIx b := by exact fun _ _ => rfl) : DE X EA W (.Subscript a b pos) (mBin ma mb gIx) := by
  obtain ⟨ta, pa, sa⟩ := ha.ex
  obtain ⟨tb, pb, sb⟩ := hb.ex
  refine ⟨_, pe_ix ix_both pa pb hs, fun ι w σ H ρ Q R E h => ?_⟩
  exact two (R := fun x y H2 => (rIxL X.K x y H2 Q ∨ rIxT X.K x y H2 Q)) sa sb R E h fun ι2 w2 H2 vx vy x y s rx ry h2 => (os_ixL (r := fun x y H Q => rIxL X.K x y H Q ∨ rIxT X.K x y H Q) fun _ _ _ _ z => z).run s.rel rx ry h2
/-- a part of a slice: an int, or none -/
structure DO (X : Cx) (EA : EAt) (W : WX) (e : Option Expr) (m : Env → Mo (Option Int)) : Prop where
  ex : ∃ t : TO, PO X e t ∧ ∀ ι w σ H ρ Q, SRel X.K ι w H → EnvR X.K ι (mz ι w) H σ ρ → Hyp X.K EA ι w H (m ρ w) (fun o _ _ H' => Q o H') (fun cls d H' => W cls d σ H') → t σ H Q
def mNoP : Env → Mo (Option Int) := fun _ => mPure none
def mPart (m : Env → Mo SV) : Env → Mo (Option Int) := fun ρ => mBind (m ρ) fun x w => match x with
  | .dat (.int i) => some (.ok (some i), w)
  | _ => none
theorem do_none : DO X EA W none mNoP := ⟨_, po_none, fun ι w σ H ρ Q R E h => Hyp.here h R⟩
theorem do_some (ha : DE X EA W a ma) : DO X EA W (some a) (mPart ma) := by
  obtain ⟨t, q, s⟩ := ha.ex
  refine ⟨_, po_some q, fun ι w σ H ρ Q R E h => ?_⟩
  refine s ι w σ H ρ _ R E ((Hyp.bind h).imp fun y ι1 w1 H1 s1 h1 V rv => ?_)
  cases y with
  | dat d =>
    cases d with
    | int i =>
      cases rv
      exact ⟨i, rfl, Hyp.here h1 s1.rel⟩
    | _ => exact h1.elim
  | _ => exact h1.elim
def cutD {α : Type} (xs : List α) (lo hi : Option Int) : List α := (xs.drop (HT.sIx xs.length 0 lo)).take (HT.sIx xs.length xs.length hi - HT.sIx xs.length 0 lo)
/-- xs[lo:hi], t[lo:hi] -/
def gCut (lo hi : Option Int) : Op1 := fun x w => match x with
  | .dat (.tuple xs) => some (.dat (.tuple (cutD xs lo hi)))
  | _ => match toD w x with
    | some (.list xs) => some (.dat (.list (cutD xs lo hi)))
    | _ => none
def mCut (m : Env → Mo SV) (lo hi : Env → Mo (Option Int)) : Env → Mo SV := fun ρ => mBind (m ρ) fun x => mBind (lo ρ) fun l => mBind (hi ρ) fun h w => (gCut l h x w).map fun v => (.ok v, w)
theorem DtA.cut {M : List Addr} {H : Hp} {vs : List V} {ds : List PyData} (h : DtA K M H vs ds) (lo hi : Option Int) : DtA K M H (cutV vs lo hi) (cutD ds lo hi) := by
  unfold cutV cutD
  rw [h.length]
  exact (h.drop _).take _
theorem sl_both : SlR X (fun x lo hi H Q => rSlL X.K x lo hi H Q ∨ rSlA X.K x lo hi H Q) := SlR.or sl_list sl_tupA
theorem cut_ok {ι : List (List Addr)} {w : Sto} {H : Hp} {vx : V} {x v : SV} {Q : VK} {lo hi : Option Int} (R : SRel K ι w H) (rx : VRel K ι (mz ι w) H vx x) (e : gCut lo hi x w = some v) (k : ∀ H', Stp K ι w H ι w H' → ∀ V, VRel K ι (mz ι w) H' V v → Q V H') : rSlL K vx lo hi H Q ∨ rSlA K vx lo hi H Q := by
  have gen : (match toD w x with | some (.list xs) => some (SV.dat (.list (cutD xs lo hi))) | _ => none) = some v → rSlL K vx lo hi H Q ∨ rSlA K vx lo hi H Q := fun e => by
    cases q : toD w x with
    | none => rw [q] at e; cases e
    | some d =>
      rw [q] at e
      have pp := rx.p R q
      cases d with
      | list ys =>
        obtain ⟨a, vs, rfl, h1, h2⟩ := pp
        cases e
        refine .inl ⟨a, vs, rfl, h1, fun l hl => ?_⟩
        have s := Stp.new (o := .lst (cutV vs lo hi)) R hl
        exact k _ s _ (Dt.lst upd_same (fun m => R.ne m hl rfl) ((h2.cut lo hi).go s.go))
      | _ => cases e
  unfold gCut at e
  cases x with
  | dat d =>
    cases d with
    | tuple ys =>
      cases e
      obtain ⟨a, vs, rfl, h1, h2⟩ := ST.tup rx
      refine .inr ⟨a, vs, rfl, h1.sq, fun hw => ?_, fun hw l hl => ?_⟩
      · have e1 : cutD ys lo hi = ys := by
          unfold cutD
          rw [← h2.length, hw.1, hw.2, List.drop_zero, Nat.sub_zero, h2.length, List.take_length]
        rw [e1] at k
        exact k H (Stp.refl R) _ (Dt.tup h1 h2)
      · have s := Stp.new (o := .tup (cutV vs lo hi)) R hl
        exact k _ s _ (Dt.tup (.inl ⟨.inl upd_same, fun m => R.ne m hl rfl⟩) ((h2.cut lo hi).go s.go))
    | _ => exact gen e
  | _ => exact gen e
theorem de_cut {lo hi : Option Expr} {p2 : Pos} {ml mh : Env → Mo (Option Int)} (ha : DE X EA W a ma) (hl : DO X EA W lo ml) (hh : DO X EA W hi mh) : DE X EA W (.Subscript a (.Slice lo hi none p2) pos) (mCut ma ml mh) := by
  obtain ⟨t, q, s⟩ := ha.ex
  obtain ⟨u, q', s'⟩ := hl.ex
  obtain ⟨z, q2, s2⟩ := hh.ex
  refine ⟨_, pe_slice sl_both q q' q2, fun ι w σ H ρ Q R E h => ?_⟩
  refine s ι w σ H ρ _ R E ((Hyp.bind h).imp fun y ι1 w1 H1 t1 h1 V rv => ?_)
  refine s' _ _ σ H1 ρ _ t1.rel (E.stp t1) ((Hyp.bind h1).imp fun l ι2 w2 H2 t2 h2 => ?_)
  refine s2 _ _ σ H2 ρ _ t2.rel ((E.stp t1).stp t2) ((Hyp.bind h2).imp fun hi' ι3 w3 H3 t3 h3 => ?_)
  cases e : gCut l hi' y w3 with
  | none => rw [e] at h3; exact h3.elim
  | some v =>
    rw [e] at h3
    exact cut_ok t3.rel ((rv.stp t2).stp t3) e fun H' st V r => h3 _ _ st V r
end
end EG


set_option Elab.async false
set_option linter.all false
set_option maxRecDepth 100000
set_option maxHeartbeats 4000000
namespace EG
open PySem PySem.Spec PyProof.Rows L2

/-! ### targets -/
structure DG (X : Cx) (EA : EAt) (W : WX) (tg : Expr) (js : List Nat) (m : PyData → Env → Mo Env) : Prop where
  ex : ∃ t : TG, PG X tg t ∧ ∀ ι w σ H ρ V d (Q : L2.St → Hp → Prop), SRel X.K ι w H → EnvR X.K ι (mz ι w) H σ ρ → Dt X.K (mz ι w) H V d →
    Hyp X.K EA ι w H (m d ρ w) (fun ρ' ι' w' H' => ∀ σ', EnvR X.K ι' (mz ι' w') H' σ' ρ' → (∀ vs, (∀ j ∈ js, j ∈ vs) → wipe σ' vs = wipe σ vs) → Q σ' H') (fun _ _ _ => False) → t V σ H Q
structure DGs (X : Cx) (EA : EAt) (W : WX) (tg : List Expr) (js : List Nat) (m : List PyData → Env → Mo Env) : Prop where
  ex : ∃ t : TGs, PGs X tg t ∧ ∀ ι w σ H ρ Vs ds (Q : L2.St → Hp → Prop), SRel X.K ι w H → EnvR X.K ι (mz ι w) H σ ρ → DtA X.K (mz ι w) H Vs ds →
    Hyp X.K EA ι w H (m ds ρ w) (fun ρ' ι' w' H' => ∀ σ', EnvR X.K ι' (mz ι' w') H' σ' ρ' → (∀ vs, (∀ j ∈ js, j ∈ vs) → wipe σ' vs = wipe σ vs) → Q σ' H') (fun _ _ _ => False) → t Vs σ H Q
theorem wipe_set {j : Nat} {x : Option V} : ∀ {σ : L2.St} {vs : List Nat}, j ∈ vs → wipe (σ.set j x) vs = wipe σ vs
  | σ, [], h => nomatch h
  | σ, v :: vs, h => by
    unfold wipe
    by_cases e : j ∈ vs
    · rw [wipe_set e]
    · have ej : j = v := by
        rcases List.mem_cons.mp h with z | z
        · exact z
        · exact absurd z e
      subst ej
      have go : ∀ (us : List Nat) (τ : L2.St), (wipe (τ.set j x) us).set j none = (wipe τ us).set j none := by
        intro us
        induction us with
        | nil =>
          intro τ
          show (τ.set j x).set j none = τ.set j none
          rw [List.set_set]
        | cons u us ih =>
          intro τ
          show ((wipe (τ.set j x) us).set u none).set j none = ((wipe τ us).set u none).set j none
          by_cases eu : u = j
          · subst eu
            rw [List.set_set, List.set_set, ih τ]
          · rw [List.set_comm _ _ eu, ih τ, List.set_comm _ _ (Ne.symm eu)]
      exact go vs σ
theorem wipe_wipe (σ : L2.St) (vs : List Nat) : wipe (wipe σ vs) vs = wipe σ vs := by
  have go : ∀ (us ws : List Nat), (∀ u ∈ us, u ∈ ws) → ∀ τ : L2.St, wipe (wipe τ us) ws = wipe τ ws := by
    intro us
    induction us with
    | nil => intro _ _ τ; rfl
    | cons u us ih =>
      intro ws h τ
      show wipe ((wipe τ us).set u none) ws = wipe τ ws
      rw [wipe_set (h u List.mem_cons_self)]
      exact ih ws (fun z hz => h z (List.mem_cons_of_mem _ hz)) τ
  exact go vs vs (fun _ h => h) σ
def mSet (i : Nat) : PyData → Env → Mo Env := fun d ρ => mPure (ρ.set i (some (.dat d)))
def mSets : List (PyData → Env → Mo Env) → List PyData → Env → Mo Env
  | [], [], ρ => mPure ρ
  | f :: fs, d :: ds, ρ => mBind (f d ρ) fun ρ' => mSets fs ds ρ'
  | _, _, _ => mFail
def mSetT (fs : List (PyData → Env → Mo Env)) : PyData → Env → Mo Env := fun d ρ => match d with
  | .tuple ds => if ds.length = fs.length then mSets fs ds ρ else mFail
  | _ => mFail
section
variable {X : Cx} {EA : EAt} {W : WX} {pos : Pos}
theorem dg_name {i : Nat} {x : Str} (hN : X.N.Nodup) (hi : X.N[i]? = some x := by rfl) (hx : Loc X.env.scope x := by first | exact Or.inl rfl | exact Or.inr rfl) (hf : X.fn x = true ∨ X.env.scope.names.lookup x = some .local := by first | exact .inl rfl | exact .inr rfl | assumption) : DG X EA W (.Name x pos) [i] (mSet i) := by
  refine ⟨gName i, pg_name hN hi hx hf, fun ι w σ H ρ V d Q R E hv h => ?_⟩
  exact Hyp.pure h R _ (E.set hv) fun vs hj => wipe_set (hj i (by simp))
theorem dgs_nil : DGs X EA W [] [] (mSets []) := by
  refine ⟨gNil, pgs_nil, fun ι w σ H ρ Vs ds Q R E hv h => ?_⟩
  cases hv with
  | nil => exact ⟨rfl, Hyp.pure h R _ E fun _ _ => rfl⟩
  | cons _ _ => exact h.elim
theorem dgs_cons {e : Expr} {es : List Expr} {js ks : List Nat} {f : PyData → Env → Mo Env} {fs : List (PyData → Env → Mo Env)} (h1 : DG X EA W e js f) (h2 : DGs X EA W es ks (mSets fs))
    (hs : (assignEach (e :: es) X.env).map (·.2) = assign e X.env :: (assignEach es X.env).map (·.2) := by rfl) : DGs X EA W (e :: es) (js ++ ks) (mSets (f :: fs)) := by
  obtain ⟨t, p, s⟩ := h1.ex
  obtain ⟨u, q, z⟩ := h2.ex
  refine ⟨gCons t u, pgs_cons p q hs, fun ι w σ H ρ Vs ds Q R E hv h => ?_⟩
  cases hv with
  | nil => exact h.elim
  | cons h1 h2 =>
    refine ⟨_, _, rfl, s ι w σ H ρ _ _ _ R E h1 ((Hyp.bind h).imp fun ρ1 ι1 w1 H1 s1 g1 σ1 E1 k1 => ?_)⟩
    refine z ι1 w1 σ1 H1 ρ1 _ _ _ s1.rel E1 (h2.go s1.go) (g1.imp fun ρ2 ι2 w2 H2 s2 g2 σ2 E2 k2 => g2 σ2 E2 fun vs hj => ?_)
    rw [k2 vs fun j hj' => hj j (List.mem_append_right _ hj'), k1 vs fun j hj' => hj j (List.mem_append_left _ hj')]
theorem dg_tup {es : List Expr} {k : Nat} {js : List Nat} {fs : List (PyData → Env → Mo Env)} (hc : X.calm = true) (h : DGs X EA W es js (mSets fs)) (hl : fs.length = es.length := by rfl)
    (hn : (assignEach es X.env).length = fs.length := by rfl) (hst : (assignEach es X.env).findIdx? (·.1) = none := by rfl) : DG X EA W (.Tuple es k pos) js (mSetT fs) := by
  obtain ⟨t, p, s⟩ := h.ex
  refine ⟨_, pg_tup (n := fs.length) hc p hn hst, fun ι w σ H ρ V d Q R E hv h => ?_⟩
  cases d with
  | tuple ds =>
    obtain ⟨a, vs, rfl, h1, h2⟩ := ST.tup hv
    by_cases e : ds.length = fs.length
    · have h' : Hyp X.K EA ι w H ((if ds.length = fs.length then mSets fs ds ρ else mFail) w) _ _ := h
      rw [if_pos e] at h'
      exact ⟨a, vs, rfl, h1.sq, by rw [h2.length]; exact e, s ι w σ H ρ vs ds Q R E h2 h'⟩
    · have h' : Hyp X.K EA ι w H ((if ds.length = fs.length then mSets fs ds ρ else mFail) w) _ _ := h
      rw [if_neg e] at h'
      exact h'.elim
  | _ => exact h.elim

/-! ### small statements -/
def mAsg (i : Nat) (m : Env → Mo SV) : Env → Mo Out := fun ρ => mBind (m ρ) fun v => mPure (.nx (ρ.set i (some v)))
def mDrop (m : Env → Mo SV) : Env → Mo Out := fun ρ => mBind (m ρ) fun _ => mPure (.nx ρ)
def mSkip : Env → Mo Out := fun ρ => mPure (.nx ρ)
def mSeq (a b : Env → Mo Out) : Env → Mo Out := fun ρ => mBind (a ρ) fun o => match o with
  | .nx ρ' => b ρ'
  | o => mPure o
def mIfS (c : Env → Mo Bool) (a b : Env → Mo Out) : Env → Mo Out := fun ρ => mBind (c ρ) fun k => if k then a ρ else b ρ
/-- what is handed back: the store's own lists and dicts as plain data -/
def fzR : SV → Sto → Option (SV × Sto)
  | .obj n, w => match w[n]? with
    | some (.draw _ _ _) => some (.obj n, w)
    | _ => (fz1 (.obj n) w).map fun p => (.dat p.1, p.2)
  | x, w => some (x, w)
def mRet (m : Env → Mo SV) : Env → Mo Out := fun ρ => mBind (m ρ) fun x w => (fzR x w).map fun p => (.ok (.rt p.1), p.2)
def mRetN : Env → Mo Out := fun _ => mPure (.rt (.dat .none))
def mBrk : Env → Mo Out := fun ρ => mPure (.bk ρ)
def mCnt : Env → Mo Out := fun ρ => mPure (.ct ρ)
def mNever : Env → Mo Out := fun _ => mFail
theorem fzR_ok {K : PySem.W.Frag} {ι : List (List Addr)} {w w' : Sto} {H : Hp} {v : V} {x y : SV} (r : SRel K ι w H) (h : VRel K ι (mz ι w) H v x) (e : fzR x w = some (y, w')) : Stp K ι w H ι w' H ∧ VRel K ι (mz ι w') H v y := by
  have gen : ∀ n, (fz1 (.obj n) w).map (fun p => (SV.dat p.1, p.2)) = some (y, w') → VRel K ι (mz ι w) H v (.obj n) → Stp K ι w H ι w' H ∧ VRel K ι (mz ι w') H v y := fun n e h => by
    cases q : fz1 (.obj n) w with
    | none => rw [q] at e; cases e
    | some p =>
      obtain ⟨d, w1⟩ := p
      rw [q] at e
      cases e
      exact fz1_ok r h q
  cases x with
  | dat d => cases e; exact ⟨Stp.refl r, h⟩
  | scr d => cases e; exact ⟨Stp.refl r, h⟩
  | exc d => cases e; exact ⟨Stp.refl r, h⟩
  | excs d => cases e; exact ⟨Stp.refl r, h⟩
  | drg d => cases e; exact ⟨Stp.refl r, h⟩
  | obj n =>
    unfold fzR at e
    cases q : w[n]? with
    | none => simp only [q] at e; exact gen n e h
    | some o =>
      cases o with
      | draw a b c =>
        simp only [q] at e
        cases e
        exact ⟨Stp.refl r, h⟩
      | _ => simp only [q] at e; exact gen n e h
variable {e : Expr} {m : Env → Mo SV} {c : Expr} {mc : Env → Mo Bool} {a b : List Stmt} {ma mb : Env → Mo Out} {st : Stmt} {rest : List Stmt}
theorem ds_asg {i : Nat} {x : Str} {pos' : Pos} (hN : X.N.Nodup) (he : DE X EA W e m) (hi : X.N[i]? = some x := by rfl) (hx : Loc X.env.scope x := by first | exact Or.inl rfl | exact Or.inr rfl) (hs : swapsWith e (some (.Name x pos')) pos.line X.env = pure false := by rfl)
    (hf : X.fn x = true ∨ X.env.scope.names.lookup x = some .local := by first | exact .inl rfl | exact .inr rfl | assumption) : DS X EA W (.Assign [.Name x pos'] e pos) (mAsg i m) := by
  obtain ⟨t, p, s⟩ := he.ex
  refine ⟨_, ps_set hN hi hx p hs hf, fun ι w σ H ρ D R E h => ?_⟩
  exact s ι w σ H ρ _ R E ((Hyp.bind (h.wE σ)).imp fun v ι1 w1 H1 s1 h1 V rv => Hyp.pure h1 s1.rel _ ((E.stp s1).set rv))
/-- no error comes -/
def noErrR {α : Type} : Option (Res α × Sto) → Prop
  | some (.err _ _, _) => False
  | _ => True
/-- a value to a target of any form -/
def mAsgG (m : Env → Mo SV) (set : PyData → Env → Mo Env) : Env → Mo Out := fun ρ => mBind (m ρ) fun v => match v with
  | .dat d => mBind (set d ρ) fun ρ' => mPure (.nx ρ')
  | _ => mFail
theorem ds_asgG {tg : Expr} {js : List Nat} {set : PyData → Env → Mo Env} (he : DE X EA W e m) (hg : DG X EA W tg js set) (hs : swapsWithSole [tg] e pos.line X.env = pure false := by rfl) (hw : swappedStores [tg] e X.env = pure none := by rfl)
    (h1 : (assignEach [tg] X.env).map (·.2) = [assign tg X.env] := by rfl) (ne : ∀ d ρ w, noErrR (set d ρ w)) : DS X EA W (.Assign [tg] e pos) (mAsgG m set) := by
  obtain ⟨t, p, s⟩ := he.ex
  obtain ⟨u, q, z⟩ := hg.ex
  refine ⟨_, ps_asg p q hs hw h1, fun ι w σ H ρ D R E h => ?_⟩
  refine s ι w σ H ρ _ R E ((Hyp.bind (h.wE σ)).imp fun v ι1 w1 H1 s1 g1 V rv => ?_)
  cases v with
  | dat d =>
    have g2 := Hyp.bind g1
    have nd := ne d ρ w1
    refine z ι1 w1 σ H1 ρ V d _ s1.rel (E.stp s1) rv ?_
    revert g2 nd
    cases set d ρ w1 with
    | none => intro g2 _; exact g2.elim
    | some r =>
      obtain ⟨r1, r2⟩ := r
      cases r1 with
      | err _ _ => intro _ nd; exact nd.elim
      | ok ρ' => intro g2 _; exact fun ι' H' s' σ' E' _ => Hyp.pure (g2 ι' H' s') s'.rel σ' E'
  | _ => exact g1.elim
theorem ds_drop (he : DE X EA W e m) (hs : swapsWith e none pos.line X.env = pure false := by rfl) : DS X EA W (.Expr e pos) (mDrop m) := by
  obtain ⟨t, p, s⟩ := he.ex
  refine ⟨_, ps_expr p hs, fun ι w σ H ρ D R E h => ?_⟩
  exact s ι w σ H ρ _ R E ((Hyp.bind (h.wE σ)).imp fun v ι1 w1 H1 s1 h1 V rv => Hyp.pure h1 s1.rel _ (E.stp s1))
theorem ds_ret (he : DE X EA W e m) : DS X EA W (.Return (some e) pos) (mRet m) := by
  obtain ⟨t, p, s⟩ := he.ex
  refine ⟨_, ps_ret p, fun ι w σ H ρ D R E h => ?_⟩
  refine s ι w σ H ρ _ R E ((Hyp.bind (h.wE σ)).imp fun v ι1 w1 H1 s1 h1 V rv => ?_)
  cases q : fzR v w1 with
  | none => simp only [q] at h1; exact h1.elim
  | some p =>
    obtain ⟨y, w2⟩ := p
    simp only [q] at h1
    obtain ⟨s2, r2⟩ := fzR_ok s1.rel rv q
    exact h1 _ _ s2 V r2
theorem ds_retN : DS X EA W (.Return none pos) mRetN := ⟨_, ps_retN, fun ι w σ H ρ D R E h => Hyp.pure h R _ Dt.non⟩
theorem ds_pass : DS X EA W (.Pass pos) mSkip := ⟨_, ps_pass, fun ι w σ H ρ D R E h => Hyp.pure h R σ E⟩
theorem ds_brk : DS X EA W (.Break pos) mBrk := ⟨_, ps_break, fun ι w σ H ρ D R E h => Hyp.pure h R σ E⟩
theorem ds_cnt : DS X EA W (.Continue pos) mCnt := ⟨_, ps_continue, fun ι w σ H ρ D R E h => Hyp.pure h R σ E⟩
theorem ds_never : DS X EA W st mNever := ⟨_, ps_never, fun ι w σ H ρ D R E h => h.elim⟩
theorem dss_nil : DSs X EA W [] mSkip := ⟨_, pss_nil, fun ι w σ H ρ D R E h => Hyp.pure h R σ E⟩
theorem dss_one (h : DS X EA W st ma) : DSs X EA W [st] ma := by
  obtain ⟨t, p, s⟩ := h.ex
  exact ⟨t, pss_one p, s⟩
theorem dss_cons (h1 : DS X EA W st ma) (h2 : DSs X EA W rest mb) : DSs X EA W (st :: rest) (mSeq ma mb) := by
  obtain ⟨t, p, s⟩ := h1.ex
  obtain ⟨u, q, z⟩ := h2.ex
  refine ⟨_, pss_cons p q, fun ι w σ H ρ D R E h => ?_⟩
  refine s ι w σ H ρ _ R E ((Hyp.bind h).imp fun o ι1 w1 H1 s1 h1 => ?_)
  cases o with
  | nx ρ' => exact fun σ' E' => z ι1 w1 σ' H1 ρ' D s1.rel E' h1
  | rt v =>
    have g : Hyp X.K EA ι1 w1 H1 (mPure (.rt v) w1) (OutP X D) (WE' W) := h1
    exact (Hyp.pure g s1.rel : OutP X D (.rt v) ι1 w1 H1)
  | bk v =>
    have g : Hyp X.K EA ι1 w1 H1 (mPure (.bk v) w1) (OutP X D) (WE' W) := h1
    exact (Hyp.pure g s1.rel : OutP X D (.bk v) ι1 w1 H1)
  | ct v =>
    have g : Hyp X.K EA ι1 w1 H1 (mPure (.ct v) w1) (OutP X D) (WE' W) := h1
    exact (Hyp.pure g s1.rel : OutP X D (.ct v) ι1 w1 H1)
theorem ds_if (hc : DT X EA W c mc) (ha : DSs X EA W a ma) (hb : DSs X EA W b mb) : DS X EA W (.If c a b pos) (mIfS mc ma mb) := by
  obtain ⟨t, p, s⟩ := hc.ex
  obtain ⟨u, q, z⟩ := ha.ex
  obtain ⟨u', q', z'⟩ := hb.ex
  refine ⟨_, ps_if p q q', fun ι w σ H ρ D R E h => ?_⟩
  -- the test's own wish looks at no slots
  have h0 := Hyp.bind h
  refine s ι w σ H ρ _ R E ((h0.wE σ).imp fun k ι1 w1 H1 s1 h1 => ?_)
  cases k with
  | true => exact iteT (z _ _ σ H1 ρ D s1.rel (E.stp s1) h1)
  | false => exact iteF (z' _ _ σ H1 ρ D s1.rel (E.stp s1) h1)
end
end EG


set_option Elab.async false
set_option linter.all false
set_option maxRecDepth 100000
set_option maxHeartbeats 4000000
namespace EG
open PySem PySem.Spec PyProof.Rows L2

/-! ### what is walked -/
/-- the heap has one object more, at most -/
def Grow (H H' : Hp) : Prop := H' = H ∨ ∃ p o, H p = none ∧ H' = upd H p o
theorem Grow.stp {K : PySem.W.Frag} {ι : List (List Addr)} {w : Sto} {H H' : Hp} (r : SRel K ι w H) (g : Grow H H') : Stp K ι w H ι w H' := by
  rcases g with rfl | ⟨p, o, hp, rfl⟩
  · exact Stp.refl r
  · exact Stp.new r hp
/-- J yields these data, in every later state -/
structure Walks (K : PySem.W.Frag) (J : It) (ds : List PyData) (M : List Addr) (H : Hp) : Prop where
  go : ∀ M' H', Go M H M' H' → ∀ (i : Nat) d, ds[i]? = some d → J.go i H'
  yld : ∀ M' H', Go M H M' H' → (∀ b, b ∈ M' → ∃ u, H' b = some u) → ∀ (i : Nat) d, ds[i]? = some d → ∀ x H'', J.yld i H' x H'' → Grow H' H'' ∧ Dt K M' H'' x d
  stop : ∀ M' H', Go M H M' H' → J.stop ds.length H'
structure DI (X : Cx) (EA : EAt) (W : WX) (tg iter : Expr) (m : Env → Mo (List PyData)) : Prop where
  ex : ∃ wi : TI, PI X tg iter wi ∧ ∀ ι w σ H ρ R, SRel X.K ι w H → EnvR X.K ι (mz ι w) H σ ρ → Hyp X.K EA ι w H (m ρ w) (fun ds ι' w' H' => ∀ J, Walks X.K J ds (mz ι' w') H' → R J H') (fun cls d H' => W cls d σ H') → wi σ H R

/-- the items of plain data that stand still -/
def mItems (m : Env → Mo SV) : Env → Mo (List PyData) := fun ρ => mBind (m ρ) fun x w => match x with
  | .dat (.list ds) => some (.ok ds, w)
  | .dat (.tuple ds) => some (.ok ds, w)
  | .scr ns => some (.ok (ns.map .int), w)
  | _ => none
section
variable {K : PySem.W.Frag} {M : List Addr} {H : Hp}
theorem walk_l {a : Addr} {vs : List V} {ds : List PyData} (h : ∀ M' H', Go M H M' H' → SqL K H' a vs) (q : DtA K M H vs ds) : Walks K (Itl K a) ds M H where
  go := fun M' H' g i d e => by
    obtain ⟨v, h1, h2⟩ := q.getD e
    exact ⟨vs, v, h M' H' g, h1⟩
  yld := fun M' H' g th i d e x H'' y => by
    obtain ⟨rfl, y⟩ := y
    obtain ⟨v, h1, h2⟩ := q.getD e
    have e2 := y vs (h M' _ g)
    rw [h1] at e2
    cases e2
    exact ⟨.inl rfl, h2.go g⟩
  stop := fun M' H' g => ⟨vs, h M' H' g, by rw [q.length]; exact Nat.le_refl _⟩
theorem walk_t {a : Addr} {vs : List V} {ds : List PyData} (h : ∀ M' H', Go M H M' H' → SqT K H' a vs) (q : DtA K M H vs ds) : Walks K (Itt K a) ds M H where
  go := fun M' H' g i d e => by
    obtain ⟨v, h1, h2⟩ := q.getD e
    exact ⟨vs, v, h M' H' g, h1⟩
  yld := fun M' H' g th i d e x H'' y => by
    obtain ⟨rfl, y⟩ := y
    obtain ⟨v, h1, h2⟩ := q.getD e
    have e2 := y vs (h M' _ g)
    rw [h1] at e2
    cases e2
    exact ⟨.inl rfl, h2.go g⟩
  stop := fun M' H' g => ⟨vs, h M' H' g, by rw [q.length]; exact Nat.le_refl _⟩
def intsFrom (lo : Int) (n : Nat) : List PyData := (List.range n).map fun i => .int (lo + (i : Nat))
theorem walk_r {lo : Int} {n : Nat} : Walks K (Itr lo n) (intsFrom lo n) M H where
  go := fun M' H' g i d e => by
    have : i < (intsFrom lo n).length := (List.getElem?_eq_some_iff.mp e).1
    show i < n
    simpa [intsFrom] using this
  yld := fun M' H' g th i d e x H'' y => by
    obtain ⟨rfl, rfl⟩ := y
    have hi : i < n := by
      have : i < (intsFrom lo n).length := (List.getElem?_eq_some_iff.mp e).1
      simpa [intsFrom] using this
    have e' : d = .int (lo + (i : Nat)) := by
      unfold intsFrom at e
      rw [List.getElem?_map, List.getElem?_range hi] at e
      exact (Option.some.inj e).symm
    subst e'
    exact ⟨.inl rfl, Dt.int _⟩
  stop := fun M' H' g => by
    show n ≤ (intsFrom lo n).length
    simp [intsFrom]
end
section
variable {X : Cx} {EA : EAt} {W : WX} {a b tg : Expr} {ma mb : Env → Mo SV} {pos p : Pos}
/-- lists: the iterator of a list; tuples: that of a tuple. The rule is chosen by what the value is -/
def mItemsL (m : Env → Mo SV) : Env → Mo (List PyData) := fun ρ => mBind (m ρ) fun x w => match x with
  | .dat (.list ds) => some (.ok ds, w)
  | .scr ns => some (.ok (ns.map .int), w)
  | _ => none
def mItemsT (m : Env → Mo SV) : Env → Mo (List PyData) := fun ρ => mBind (m ρ) fun x w => match x with
  | .dat (.tuple ds) => some (.ok ds, w)
  | _ => none
theorem di_list (ha : DE X EA W a ma) : DI X EA W tg a (mItemsL ma) := by
  obtain ⟨t, q, s⟩ := ha.ex
  refine ⟨_, pi_list q, fun ι w σ H ρ R S E h => ?_⟩
  refine s ι w σ H ρ _ S E ((Hyp.bind h).imp fun x ι1 w1 H1 s1 h1 V rv => ?_)
  cases x with
  | dat d =>
    cases d with
    | list ds =>
      cases rv with
      | lst h n q =>
        refine ⟨_, rfl, ⟨_, SqL.of h⟩, Hyp.here h1 s1.rel _ (walk_l (fun M' H' g => SqL.of (g _ _ n h).1) q)⟩
    | _ => exact h1.elim
  | scr ns =>
    obtain ⟨a, rfl, q⟩ := rv
    exact ⟨_, rfl, ⟨_, q.sq⟩, Hyp.here h1 s1.rel _ (walk_l (fun M' H' g => (q.go g).sq) (DtA.ints ns))⟩
  | _ => exact h1.elim
theorem di_tup (ha : DE X EA W a ma) : DI X EA W tg a (mItemsT ma) := by
  obtain ⟨t, q, s⟩ := ha.ex
  refine ⟨_, pi_tup q, fun ι w σ H ρ R S E h => ?_⟩
  refine s ι w σ H ρ _ S E ((Hyp.bind h).imp fun x ι1 w1 H1 s1 h1 V rv => ?_)
  cases x with
  | dat d =>
    cases d with
    | tuple ds =>
      obtain ⟨a, vs, rfl, h2, h3⟩ := ST.tup rv
      exact ⟨_, rfl, ⟨_, h2.sq⟩, Hyp.here h1 s1.rel _ (walk_t (fun M' H' g => (h2.go g).sq) h3)⟩
    | _ => exact h1.elim
  | _ => exact h1.elim
def in62 (i : Int) : Bool := decide (-(2 ^ 62) ≤ i ∧ i < 2 ^ 62)
def mRange1 (m : Env → Mo SV) : Env → Mo (List PyData) := fun ρ => mBind (m ρ) fun x w => match x with
  | .dat (.int n) => if in62 n then some (.ok (intsFrom 0 n.toNat), w) else none
  | _ => none
def mRange2 (m m2 : Env → Mo SV) : Env → Mo (List PyData) := fun ρ => mBind (m ρ) fun x => mBind (m2 ρ) fun y w => match x, y with
  | .dat (.int l), .dat (.int n) => if in62 l && in62 n then some (.ok (intsFrom l (n - l).toNat), w) else none
  | _, _ => none
theorem di_range1 (hm : X.mg "range" = none) (ha : DE X EA W a ma) (hg : Gl X "range" := by rfl) (hs : starEach [a] X.env = [(false, eval a X.env)] := by rfl) (hs' : starEach (a :: []) X.env = (false, eval a X.env) :: starEach [] X.env := by rfl) : DI X EA W tg (.Call (.Name "range" p) [a] [] pos) (mRange1 ma) := by
  obtain ⟨t, q, s⟩ := ha.ex
  refine ⟨_, pi_range1 hg hm (pa_cons q pa_nil hs') hs, fun ι w σ H ρ R S E h => ?_⟩
  refine s ι w σ H ρ _ S E ((Hyp.bind h).imp fun x ι1 w1 H1 s1 h1 V rv => ?_)
  cases x with
  | dat d =>
    cases d with
    | int n =>
      cases rv
      by_cases c : in62 n = true
      · have h2 : Hyp X.K EA ι1 w1 H1 (if in62 n then some (.ok (intsFrom 0 n.toNat), w1) else none) _ _ := h1
        rw [if_pos c] at h2
        have c' := of_decide_eq_true c
        exact ⟨n, rfl, c'.1, c'.2, Hyp.here h2 s1.rel _ walk_r⟩
      · have h2 : Hyp X.K EA ι1 w1 H1 (if in62 n then some (.ok (intsFrom 0 n.toNat), w1) else none) _ _ := h1
        rw [if_neg c] at h2
        exact h2.elim
    | _ => exact h1.elim
  | _ => exact h1.elim
theorem di_range2 (hm : X.mg "range" = none) (ha : DE X EA W a ma) (hb : DE X EA W b mb) (hg : Gl X "range" := by rfl) (hs : starEach [a, b] X.env = [(false, eval a X.env), (false, eval b X.env)] := by rfl) (hs2 : starEach [b] X.env = [(false, eval b X.env)] := by rfl)
    (hs' : starEach (a :: [b]) X.env = (false, eval a X.env) :: starEach [b] X.env := by rfl) (hs3 : starEach (b :: []) X.env = (false, eval b X.env) :: starEach [] X.env := by rfl) : DI X EA W tg (.Call (.Name "range" p) [a, b] [] pos) (mRange2 ma mb) := by
  obtain ⟨ta, pa, sa⟩ := ha.ex
  obtain ⟨tb, pb, sb⟩ := hb.ex
  refine ⟨_, pi_range2 hg hm (pa_cons pa (pa_cons pb pa_nil hs3) hs') hs hs2, fun ι w σ H ρ R S E h => ?_⟩
  refine two (R := fun x y H2 => ∃ i j : Int, [x, y] = [V.int i, V.int j] ∧ (-(2 ^ 62) ≤ i ∧ i < 2 ^ 62 ∧ -(2 ^ 62) ≤ j ∧ j < 2 ^ 62) ∧ R (Itr i (j - i).toNat) H2) sa sb S E h fun ι2 w2 H2 vx vy x y s rx ry h2 => ?_
  cases x with
  | dat d =>
    cases d with
    | int l =>
      cases y with
      | dat d =>
        cases d with
        | int n =>
          cases rx
          cases ry
          by_cases c : (in62 l && in62 n) = true
          · have h3 : Hyp X.K EA ι2 w2 H2 (if in62 l && in62 n then some (.ok (intsFrom l (n - l).toNat), w2) else none) _ _ := h2
            rw [if_pos c] at h3
            simp only [Bool.and_eq_true] at c
            have c1 := of_decide_eq_true c.1
            have c2 := of_decide_eq_true c.2
            exact ⟨l, n, rfl, ⟨c1.1, c1.2, c2.1, c2.2⟩, Hyp.here h3 s.rel _ walk_r⟩
          · have h3 : Hyp X.K EA ι2 w2 H2 (if in62 l && in62 n then some (.ok (intsFrom l (n - l).toNat), w2) else none) _ _ := h2
            rw [if_neg c] at h3
            exact h3.elim
        | _ => exact h2.elim
      | _ => exact h2.elim
    | _ => exact h2.elim
  | _ => exact h2.elim

/-! ### for, while -/
def forL (set : PyData → Env → Mo Env) (body : Env → Mo Out) : List PyData → Env → Mo Out
  | [], ρ => mPure (.nx ρ)
  | d :: r, ρ => mBind (set d ρ) fun ρ1 => mBind (body ρ1) fun o => match o with
    | .nx ρ2 => forL set body r ρ2
    | .ct ρ2 => forL set body r ρ2
    | .bk ρ2 => mPure (.nx ρ2)
    | .rt v => mPure (.rt v)
def mFor (it : Env → Mo (List PyData)) (set : PyData → Env → Mo Env) (body : Env → Mo Out) : Env → Mo Out := fun ρ => mBind (it ρ) fun ds => forL set body ds ρ
/-- no target raises -/
def NoErr (set : PyData → Env → Mo Env) : Prop := ∀ d ρ w, noErrR (set d ρ w)
theorem NoErr.name (i : Nat) : NoErr (mSet i) := fun _ _ _ => True.intro
theorem noErr_sets : ∀ {fs : List (PyData → Env → Mo Env)}, (∀ f ∈ fs, NoErr f) → ∀ ds ρ w, noErrR (mSets fs ds ρ w)
  | [], _, [], _, _ => True.intro
  | [], _, _ :: _, _, _ => True.intro
  | _ :: _, _, [], _, _ => True.intro
  | f :: fs, h, d :: ds, ρ, w => by
    have h1 := h f List.mem_cons_self d ρ w
    show noErrR (mBind (f d ρ) (fun ρ' => mSets fs ds ρ') w)
    unfold mBind
    cases q : f d ρ w with
    | none => trivial
    | some r =>
      obtain ⟨r1, r2⟩ := r
      cases r1 with
      | err _ _ => rw [q] at h1; exact h1.elim
      | ok ρ1 => exact noErr_sets (fun g hg => h g (List.mem_cons_of_mem _ hg)) ds ρ1 r2
theorem NoErr.tup {fs : List (PyData → Env → Mo Env)} (h : ∀ f ∈ fs, NoErr f) : NoErr (mSetT fs) := fun d ρ w => by
  cases d with
  | tuple ds =>
    show noErrR ((if ds.length = fs.length then mSets fs ds ρ else mFail) w)
    by_cases e : ds.length = fs.length
    · rw [if_pos e]; exact noErr_sets h ds ρ w
    · rw [if_neg e]; trivial
  | _ => trivial
theorem Hyp.noErr {α : Type} {K : PySem.W.Frag} {ι : List (List Addr)} {w : Sto} {H : Hp} {r : Option (Res α × Sto)} {P : α → List (List Addr) → Sto → Hp → Prop} {W W' : Value → Option Addr → Hp → Prop} (h : Hyp K EA ι w H r P W) (n : noErrR r) : Hyp K EA ι w H r P W' := by
  cases r with
  | none => exact h.elim
  | some q =>
    obtain ⟨q1, q2⟩ := q
    cases q1 with
    | ok a => exact h
    | err c fs => exact n.elim
theorem drop_get {ds : List PyData} {i : Nat} (h : i < ds.length) : ds.drop i = ds[i] :: ds.drop (i + 1) := List.drop_eq_getElem_cons h
variable {set : PyData → Env → Mo Env} {js : List Nat} {it : Env → Mo (List PyData)} {body : List Stmt} {mbody : Env → Mo Out} {iter : Expr}
theorem ds_for (hp : PassesOwn (model X.prog X.w) X.A X.env X.xe) (hc : X.calm = true) (hi : DI X EA W tg iter it) (hg : DG X EA W tg js set) (hb : DSs X EA W body mbody) (ne : NoErr set)
    (hs : ∀ x, foldedSetIterable iter X.env x = pure x := by intro _; rfl) : DS X EA W (.For tg iter body [] pos) (mFor it set mbody) := by
  obtain ⟨wi, pi, si⟩ := hi.ex
  obtain ⟨g, pg, sg⟩ := hg.ex
  obtain ⟨tb, pb, sb⟩ := hb.ex
  refine ⟨_, ps_for hp hc pi pg pb hs, fun ι w σ H ρ D R E h => ?_⟩
  refine si ι w σ H ρ _ R E (((Hyp.bind h).wE σ).imp fun ds ι1 w1 H1 s1 h1 J wk => ?_)
  refine ⟨fun i m σ H => ∃ ι w ρ, m = ds.length - i ∧ i ≤ ds.length ∧ Stp X.K ι1 w1 H1 ι w H ∧ EnvR X.K ι (mz ι w) H σ ρ ∧ Hyp X.K EA ι w H (forL set mbody (ds.drop i) ρ w) (OutP X D) (WE' W),
    ⟨ds.length, ι1, w1, ρ, rfl, Nat.zero_le _, Stp.refl s1.rel, E.stp s1, h1⟩, ?_⟩
  rintro i m σ2 H2 ⟨ι2, w2, ρ2, rfl, hi, s2, E2, h2⟩
  by_cases hlt : i < ds.length
  · refine .inr ⟨wk.go _ _ s2.go i _ (List.getElem?_eq_getElem hlt), fun σ H => ∃ m', m' < ds.length - i ∧ ∃ ι w ρ, m' = ds.length - (i + 1) ∧ i + 1 ≤ ds.length ∧ Stp X.K ι1 w1 H1 ι w H ∧ EnvR X.K ι (mz ι w) H σ ρ ∧ Hyp X.K EA ι w H (forL set mbody (ds.drop (i + 1)) ρ w) (OutP X D) (WE' W),
      fun σ' H' q => q, fun x H3 y => ?_⟩
    obtain ⟨gr, hx⟩ := wk.yld _ _ s2.go (fun b hb => s2.rel.there hb) i _ (List.getElem?_eq_getElem hlt) x H3 y
    have s3 := gr.stp s2.rel
    rw [drop_get hlt] at h2
    have h3 := Hyp.bind (h2.on s3)
    refine sg ι2 w2 σ2 H3 ρ2 x _ _ s3.rel (E2.stp s3) hx ((h3.imp fun ρ4 ι4 w4 H4 s4 h4 σ4 E4 _ => ?_).noErr (ne _ _ _))
    refine sb ι4 w4 σ4 H4 ρ4 _ s4.rel E4 ((Hyp.bind h4).imp fun o ι5 w5 H5 s5 h5 => ?_)
    have s15 := ((s2.trans s3).trans s4).trans s5
    cases o with
    | nx ρ5 => exact fun σ5 E5 => ⟨ds.length - (i + 1), by omega, ι5, w5, ρ5, rfl, hlt, s15, E5, h5⟩
    | ct ρ5 => exact fun σ5 E5 => ⟨ds.length - (i + 1), by omega, ι5, w5, ρ5, rfl, hlt, s15, E5, h5⟩
    | bk ρ5 =>
      have g : Hyp X.K EA ι5 w5 H5 (mPure (.nx ρ5) w5) (OutP X D) (WE' W) := h5
      exact fun σ5 E5 => (Hyp.pure g s5.rel : OutP X D (.nx ρ5) ι5 w5 H5) σ5 E5
    | rt v =>
      have g : Hyp X.K EA ι5 w5 H5 (mPure (.rt v) w5) (OutP X D) (WE' W) := h5
      exact (Hyp.pure g s5.rel : OutP X D (.rt v) ι5 w5 H5)
  · have e : i = ds.length := by omega
    subst e
    rw [List.drop_length] at h2
    have g : Hyp X.K EA ι2 w2 H2 (mPure (.nx ρ2) w2) (OutP X D) (WE' W) := h2
    exact .inl ⟨wk.stop _ _ s2.go, (Hyp.pure g s2.rel : OutP X D (.nx ρ2) ι2 w2 H2) σ2 E2⟩
/-- while: some number of turns is enough -/
def whileL (c : Env → Mo Bool) (body : Env → Mo Out) : Nat → Env → Mo Out
  | 0, _ => mFail
  | n + 1, ρ => mBind (c ρ) fun k => if k then mBind (body ρ) (fun o => match o with
    | .nx ρ2 => whileL c body n ρ2
    | .ct ρ2 => whileL c body n ρ2
    | .bk ρ2 => mPure (.nx ρ2)
    | .rt v => mPure (.rt v)) else mPure (.nx ρ)
def mWhile (n : Nat) (c : Env → Mo Bool) (body : Env → Mo Out) : Env → Mo Out := whileL c body n
variable {c : Expr} {mc : Env → Mo Bool}
theorem ds_while (n : Nat) (hp : PassesOwn (model X.prog X.w) X.A X.env X.xe) (hc : DT X EA W c mc) (hb : DSs X EA W body mbody) : DS X EA W (.While c body [] pos) (mWhile n mc mbody) := by
  obtain ⟨t, p, s⟩ := hc.ex
  obtain ⟨tb, pb, sb⟩ := hb.ex
  refine ⟨_, ps_while hp p pb, fun ι w σ H ρ D R E h => ?_⟩
  refine ⟨fun m σ H => ∃ ι w ρ, SRel X.K ι w H ∧ EnvR X.K ι (mz ι w) H σ ρ ∧ Hyp X.K EA ι w H (whileL mc mbody m ρ w) (OutP X D) (WE' W), ⟨n, ι, w, ρ, R, E, h⟩, ?_⟩
  rintro m σ2 H2 ⟨ι2, w2, ρ2, R2, E2, h2⟩
  cases m with
  | zero => exact h2.elim
  | succ m =>
    have h3 := Hyp.bind h2
    refine s ι2 w2 σ2 H2 ρ2 _ R2 E2 ((h3.wE σ2).imp fun k ι3 w3 H3 s3 h4 => ?_)
    cases k with
    | false =>
      have g : Hyp X.K EA ι3 w3 H3 (mPure (.nx ρ2) w3) (OutP X D) (WE' W) := h4
      exact iteF ((Hyp.pure g s3.rel : OutP X D (.nx ρ2) ι3 w3 H3) σ2 (E2.stp s3))
    | true =>
      refine iteT ⟨fun σ H => ∃ m', m' < m + 1 ∧ ∃ ι w ρ, SRel X.K ι w H ∧ EnvR X.K ι (mz ι w) H σ ρ ∧ Hyp X.K EA ι w H (whileL mc mbody m' ρ w) (OutP X D) (WE' W), fun _ _ q => q, ?_⟩
      have h5 := Hyp.bind h4
      refine sb ι3 w3 σ2 H3 ρ2 _ s3.rel (E2.stp s3) (h5.imp fun o ι5 w5 H5 s5 h6 => ?_)
      cases o with
      | nx ρ5 => exact fun σ5 E5 => ⟨m, Nat.lt_succ_self m, ι5, w5, ρ5, s5.rel, E5, h6⟩
      | ct ρ5 => exact fun σ5 E5 => ⟨m, Nat.lt_succ_self m, ι5, w5, ρ5, s5.rel, E5, h6⟩
      | bk ρ5 =>
        have g : Hyp X.K EA ι5 w5 H5 (mPure (.nx ρ5) w5) (OutP X D) (WE' W) := h6
        exact fun σ5 E5 => (Hyp.pure g s5.rel : OutP X D (.nx ρ5) ι5 w5 H5) σ5 E5
      | rt v =>
        have g : Hyp X.K EA ι5 w5 H5 (mPure (.rt v) w5) (OutP X D) (WE' W) := h6
        exact (Hyp.pure g s5.rel : OutP X D (.rt v) ι5 w5 H5)
end
end EG


set_option Elab.async false
set_option linter.all false
set_option maxRecDepth 100000
set_option maxHeartbeats 4000000
namespace EG
open PySem PySem.Spec PyProof.Rows L2

/-! ### the store cut back -/
section
variable {K : PySem.W.Frag} {ι ι' κ : List (List Addr)} {w w' : Sto} {H H' : Hp}
theorem SRel.cut (r : SRel K ι w H) (h : κ <+: ι) : SRel K κ (w.take κ.length) H ∧ (mz κ (w.take κ.length)).Sublist (mz ι w) := by
  obtain ⟨t, rfl⟩ := h
  have hl : κ.length ≤ w.length := by
    have := r.len
    rw [List.length_append] at this
    omega
  have e1 : κ.length = (w.take κ.length).length := by
    rw [List.length_take]
    omega
  have e2 : mz (κ ++ t) w = mz κ (w.take κ.length) ++ mz t (w.drop κ.length) := by
    have := mz_app (κ := t) (u := w.drop κ.length) e1
    rw [List.take_append_drop] at this
    exact this
  have sub : (mz κ (w.take κ.length)).Sublist (mz (κ ++ t) w) := by
    rw [e2]
    exact List.sublist_append_left _ _
  refine ⟨⟨e1, fun n l o h1 h2 => ?_, r.nd.sublist sub⟩, sub⟩
  have hn : n < κ.length := (List.getElem?_eq_some_iff.mp h1).1
  rw [List.getElem?_take_of_lt hn] at h2
  exact (r.ok n l o (by rw [List.getElem?_append_left hn]; exact h1) h2).go (Go.less fun b hb => sub.subset hb) fun _ _ => rfl
theorem Stp.cut (s : Stp K ι w H ι' w' H') : Stp K ι w H ι (w'.take ι.length) H' := by
  obtain ⟨r, sub⟩ := s.rel.cut s.pre
  exact ⟨List.prefix_rfl, s.go.trans (Go.less fun b hb => sub.subset hb), r⟩
theorem Dt.cut {v : V} {d : PyData} (r : SRel K ι w H) (h : κ <+: ι) (q : Dt K (mz ι w) H v d) : Dt K (mz κ (w.take κ.length)) H v d := Dt.go (Go.less fun b hb => (r.cut h).2.subset hb) q
end

/-! ### the judgements with one reading for all -/
def cE (K : PySem.W.Frag) (EA : EAt) (W : WX) (m : Env → Mo SV) : TE := fun σ H Q => ∃ ι w ρ, SRel K ι w H ∧ EnvR K ι (mz ι w) H σ ρ ∧ Hyp K EA ι w H (m ρ w) (fun v ι' w' H' => ∀ V, VRel K ι' (mz ι' w') H' V v → Q V H') (fun cls d H' => W cls d σ H')
def cT (K : PySem.W.Frag) (EA : EAt) (W : WX) (m : Env → Mo Bool) : TT := fun σ H Q => ∃ ι w ρ, SRel K ι w H ∧ EnvR K ι (mz ι w) H σ ρ ∧ Hyp K EA ι w H (m ρ w) (fun b _ _ H' => Q b H') (fun cls d H' => W cls d σ H')
def cG (K : PySem.W.Frag) (EA : EAt) (js : List Nat) (m : PyData → Env → Mo Env) : TG := fun V σ H Q => ∃ ι w ρ d, SRel K ι w H ∧ EnvR K ι (mz ι w) H σ ρ ∧ Dt K (mz ι w) H V d ∧
  Hyp K EA ι w H (m d ρ w) (fun ρ' ι' w' H' => ∀ σ', EnvR K ι' (mz ι' w') H' σ' ρ' → (∀ vs, (∀ j ∈ js, j ∈ vs) → wipe σ' vs = wipe σ vs) → Q σ' H') (fun _ _ _ => False)
section
variable {X : Cx} {EA : EAt} {W : WX} {e : Expr}
theorem DE.can {m : Env → Mo SV} (h : DE X EA W e m) : PE X e (cE X.K EA W m) := by
  obtain ⟨t, p, s⟩ := h.ex
  exact ⟨fun pins z σ H Q I ⟨ι, w, ρ, R, E, q⟩ => p.run pins z σ H Q I (s ι w σ H ρ Q R E q)⟩
theorem DT.can {m : Env → Mo Bool} (h : DT X EA W e m) : PT X e (cT X.K EA W m) := by
  obtain ⟨t, p, s⟩ := h.ex
  exact ⟨fun pins z σ H Q I ⟨ι, w, ρ, R, E, q⟩ => p.run pins z σ H Q I (s ι w σ H ρ Q R E q)⟩
theorem DG.can {js : List Nat} {m : PyData → Env → Mo Env} (h : DG X EA W e js m) : PG X e (cG X.K EA js m) := by
  obtain ⟨t, p, s⟩ := h.ex
  exact ⟨fun pins z σ H v u Q I r ⟨ι, w, ρ, d, R, E, hv, q⟩ => p.run pins z σ H v u Q I r (s ι w σ H ρ v d Q R E hv q)⟩
end
def Wn : WX := fun _ _ _ _ => False
/-- a clause's tests: none, one -/
structure DTs (X : Cx) (EA : EAt) (ifs : List Expr) (m : Env → Mo Bool) : Prop where
  ex : PTs X ifs (cT X.K EA Wn m)
def mYes : Env → Mo Bool := fun _ => mPure true
section
variable {X : Cx} {EA : EAt}
theorem dts_nil : DTs X EA [] mYes := ⟨⟨fun pins z σ H Q I ⟨ι, w, ρ, R, E, q⟩ => pts_nil.run pins z σ H Q I (show tYes σ H Q from Hyp.pure q R)⟩⟩
theorem dts_one {c : Expr} {m : Env → Mo Bool} (h : DT X EA Wn c m) : DTs X EA [c] m := ⟨pts_one h.can⟩
end

/-! ### comprehensions -/
def wipeE (ρ : Env) : List Nat → Env
  | [] => ρ
  | v :: vs => (wipeE ρ vs).set v none
theorem EnvR.wipe {K : PySem.W.Frag} {ι : List (List Addr)} {M : List Addr} {H : Hp} {σ : L2.St} {ρ : Env} (e : EnvR K ι M H σ ρ) : ∀ vs : List Nat, EnvR K ι M H (L2.wipe σ vs) (wipeE ρ vs)
  | [] => e
  | v :: vs => by
    have ih := e.wipe vs
    refine ⟨by show ((L2.wipe σ vs).set v none).length = ((wipeE ρ vs).set v none).length; rw [List.length_set, List.length_set]; exact ih.1, fun i x hi => ?_⟩
    have hi : ((wipeE ρ vs).set v none)[i]? = some (some x) := hi
    show ∃ V, ((L2.wipe σ vs).set v none)[i]? = some (some V) ∧ _
    by_cases h : v = i
    · subst h
      by_cases hl : v < (wipeE ρ vs).length
      · rw [List.getElem?_set_self hl] at hi; cases hi
      · rw [List.getElem?_eq_none (by simpa using hl)] at hi; cases hi
    · rw [List.getElem?_set_ne h] at hi ⊢
      exact ih.2 i x hi
def lcL (n : Nat) (set : PyData → Env → Mo Env) (cond : Env → Mo Bool) (elt : Env → Mo SV) : List PyData → Env → Mo Unit
  | [], _ => mPure ()
  | d :: r, ρ => mBind (set d ρ) fun ρ1 => mBind (cond ρ1) fun b => if b then mBind (elt ρ1) (fun x w => match fz1 x w with
    | some (e, w1) => match w1[n]? with
      | some (.lst acc) => if acc.length < sizeLine then lcL n set cond elt r ρ (w1.set n (.lst (acc ++ [e]))) else none
      | _ => none
    | none => none) else lcL n set cond elt r ρ
def mLc (it : Env → Mo (List PyData)) (vs : List Nat) (set : PyData → Env → Mo Env) (cond : Env → Mo Bool) (elt : Env → Mo SV) : Env → Mo SV := fun ρ => mBind (it ρ) fun ds w =>
  match lcL w.length set cond elt ds (wipeE ρ vs) (w ++ [.lst []]) with
  | some (.ok (), w') => match w'[w.length]? with
    | some (.lst acc) => some (.ok (.dat (.list acc)), w'.take w.length)
    | _ => none
  | _ => none
/-- an Mo that ends well -/
theorem ok_bind {α β : Type} {m : Mo α} {f : α → Mo β} {w : Sto} {b : β} {w' : Sto} (h : mBind m f w = some (.ok b, w')) : ∃ a w1, m w = some (.ok a, w1) ∧ f a w1 = some (.ok b, w') := by
  unfold mBind at h
  cases e : m w with
  | none => rw [e] at h; cases h
  | some q =>
    obtain ⟨r, w1⟩ := q
    rw [e] at h
    cases r with
    | err c fs => cases h
    | ok a => exact ⟨a, w1, rfl, h⟩
theorem Hyp.ofOk {α : Type} {K : PySem.W.Frag} {EA : EAt} {ι : List (List Addr)} {w w' : Sto} {H : Hp} {r : Option (Res α × Sto)} {a : α} {P : α → List (List Addr) → Sto → Hp → Prop} {W : Value → Option Addr → Hp → Prop} (e : r = some (.ok a, w')) (h : ∀ ι' H', Stp K ι w H ι' w' H' → P a ι' w' H') : Hyp K EA ι w H r P W := by
  rw [e]
  exact h
section
variable {X : Cx} {EA : EAt} {W : WX} {elt tg iter : Expr} {ifs : List Expr} {scope : Scope} {own : List (Str × Nat)} {pos : Pos} {it : Env → Mo (List PyData)} {set : PyData → Env → Mo Env} {js : List Nat} {mc : Env → Mo Bool} {me : Env → Mo SV}
/-- the turns of a comprehension -/
theorem lc_run {wi : TI} {vs : List Nat} {ι : List (List Addr)} {w : Sto} {σ : L2.St} {H : Hp} {ρ : Env} {Q : VK} {Ws : Value → Option Addr → Hp → Prop}
    (si : ∀ ι w σ H ρ R, SRel X.K ι w H → EnvR X.K ι (mz ι w) H σ ρ → Hyp X.K EA ι w H (it ρ w) (fun ds ι' w' H' => ∀ J, Walks X.K J ds (mz ι' w') H' → R J H') (fun cls d H' => W cls d σ H') → wi σ H R) (hj : ∀ j ∈ js, j ∈ vs)
    (R : SRel X.K ι w H) (E : EnvR X.K ι (mz ι w) H σ ρ)
    (h : Hyp X.K EA ι w H (it ρ w) (fun ds ι1 w1 H1 => ∃ u wf, lcL w1.length set mc me ds (wipeE ρ vs) (w1 ++ [.lst []]) = some (.ok u, wf) ∧ ∀ D ι2 H2, H1 D = none → SRel X.K ι1 w1 H1 → Stp X.K (ι1 ++ [[D]]) (w1 ++ [.lst []]) (upd H1 D (.lst [])) ι2 wf H2 → Q (.ref D) H2) (fun cls d H' => W cls d σ H')) :
    tLc wi (cG X.K EA js set) (cT X.K EA Wn mc) (cE X.K EA Wn me) vs σ H Q := by
  refine si ι w σ H ρ _ R E (h.imp fun ds ι1 w1 H1 s1 h1 J wk D hD => ?_)
  have E1 := (E.stp s1).wipe vs
  obtain ⟨u, wf, hl, h1⟩ := h1
  have sN := Stp.newLst (vs := []) (ds := []) s1.rel hD .nil
  refine ⟨fun i m H => ∃ ι w, m = ds.length - i ∧ i ≤ ds.length ∧ Stp X.K (ι1 ++ [[D]]) (w1 ++ [.lst []]) (upd H1 D (.lst [])) ι w H ∧ lcL w1.length set mc me (ds.drop i) (wipeE ρ vs) w = some (.ok u, wf),
    ⟨ds.length, _, _, rfl, Nat.zero_le _, Stp.refl sN.rel, hl⟩, ?_⟩
  rintro i m H2 ⟨ι2, w2, rfl, hi, s2, h2⟩
  have E2 : EnvR X.K ι2 (mz ι2 w2) H2 (wipe σ vs) (wipeE ρ vs) := (E1.stp sN).stp s2
  -- the list at D in any later store
  have hDx : ∀ {κ : List (List Addr)}, (ι1 ++ [[D]]) <+: κ → κ[w1.length]? = some [D] := fun {κ} p => by
    obtain ⟨t, rfl⟩ := p
    rw [List.append_assoc, List.getElem?_append_right (by rw [s1.rel.len]; exact Nat.le_refl _), s1.rel.len, Nat.sub_self]
    rfl
  by_cases hlt : i < ds.length
  · refine .inr ⟨wk.go _ _ (sN.trans s2).go i _ (List.getElem?_eq_getElem hlt), fun H => ∃ m', m' < ds.length - i ∧ ∃ ι w, m' = ds.length - (i + 1) ∧ i + 1 ≤ ds.length ∧ Stp X.K (ι1 ++ [[D]]) (w1 ++ [.lst []]) (upd H1 D (.lst [])) ι w H ∧
        lcL w1.length set mc me (ds.drop (i + 1)) (wipeE ρ vs) w = some (.ok u, wf), fun H' q => q, fun x H3 y => ?_⟩
    obtain ⟨gr, hx⟩ := wk.yld _ _ (sN.trans s2).go (fun b hb => s2.rel.there hb) i _ (List.getElem?_eq_getElem hlt) x H3 y
    have s3 := gr.stp s2.rel
    rw [drop_get hlt] at h2
    obtain ⟨ρ4, w4, e4, h4⟩ := ok_bind h2
    refine ⟨ι2, w2, _, _, s3.rel, E2.stp s3, hx, Hyp.ofOk e4 fun ι4 H4 s4 σ4 E4 k4 => ?_⟩
    obtain ⟨b, w5, e5, h5⟩ := ok_bind h4
    refine ⟨by rw [k4 _ hj, wipe_wipe], ι4, w4, ρ4, s4.rel, E4, Hyp.ofOk e5 fun ι5 H5 s5 => ?_⟩
    have s25 := ((s2.trans s3).trans s4).trans s5
    cases b with
    | false => exact iteF ⟨ds.length - (i + 1), by omega, ι5, w5, rfl, hlt, s25, h5⟩
    | true =>
      refine iteT ?_
      have h5' := h5
      simp only [if_true] at h5'
      obtain ⟨z, w6, e6, h6⟩ := ok_bind h5'
      refine ⟨ι5, w5, ρ4, s5.rel, E4.stp s5, Hyp.ofOk e6 fun ι6 H6 s6 V6 r6 => ?_⟩
      cases f : fz1 z w6 with
      | none => simp only [f] at h6; cases h6
      | some p =>
        obtain ⟨de, w7⟩ := p
        simp only [f] at h6
        obtain ⟨s7, r7⟩ := fz1_ok s6.rel r6 f
        have s27 := (s25.trans s6).trans s7
        have hD7 := hDx s27.pre
        cases g : w7[w1.length]? with
        | none => simp only [g] at h6; cases h6
        | some o =>
          cases o with
          | lst acc =>
            simp only [g] at h6
            obtain ⟨a, vs, ea, eb, ec⟩ := s7.rel.ok _ _ _ hD7 g
            injection ea with ea _
            subst ea
            by_cases hz : acc.length < sizeLine
            · rw [if_pos hz] at h6
              refine ⟨vs, eb, by rw [ec.length]; exact hz, ds.length - (i + 1), by omega, ι6, _, rfl, hlt, s27.trans ?_, h6⟩
              have fo : footOf [D] (.lst acc) = footOf [D] (.lst (acc ++ [de])) := rfl
              refine Stp.write s7.rel hD7 g fo (fun b x nb e => by
                rw [upd_ne (fun z => nb (by rw [z]; simp [footOf]))]; exact e) (fun _ _ _ => .inr True.intro) ?_
              have gw : Go (mz ι6 w7) H6 (mz ι6 w7) (upd H6 D (.lst (vs ++ [V6]))) := Go.write (mem_mz hD7 g (by simp [footOf]))
              exact ⟨D, _, rfl, upd_same, (ec.go gw).app (.cons (r7.go gw) .nil)⟩
            · rw [if_neg hz] at h6; cases h6
          | _ => simp only [g] at h6; cases h6
  · have e : i = ds.length := by omega
    subst e
    rw [List.drop_length] at h2
    cases h2
    exact .inl ⟨wk.stop _ _ (sN.trans s2).go, h1 D ι2 H2 hD s1.rel s2⟩
/-- .. its list as plain data -/
theorem lc_dat {ι1 ι2 : List (List Addr)} {w1 wf : Sto} {H1 H2 : Hp} {D : Addr} {acc : List PyData} {K : PySem.W.Frag} (r1 : SRel K ι1 w1 H1) (hD : H1 D = none) (s2 : Stp K (ι1 ++ [[D]]) (w1 ++ [.lst []]) (upd H1 D (.lst [])) ι2 wf H2) (g : wf[w1.length]? = some (.lst acc)) :
    Stp K ι1 w1 H1 ι1 (wf.take w1.length) H2 ∧ Dt K (mz ι1 (wf.take w1.length)) H2 (.ref D) (.list acc) := by
  have sN := Stp.newLst (vs := []) (ds := []) r1 hD .nil
  have hD2 : ι2[w1.length]? = some [D] := by
    obtain ⟨t, rfl⟩ := s2.pre
    rw [List.append_assoc, List.getElem?_append_right (by rw [r1.len]; exact Nat.le_refl _), r1.len, Nat.sub_self]
    rfl
  obtain ⟨a, vs, ea, eb, ec⟩ := s2.rel.ok _ _ _ hD2 g
  injection ea with ea _
  subst ea
  have s := (sN.trans s2).cut
  rw [r1.len] at s
  refine ⟨s, ?_⟩
  have p : ι1 <+: ι2 := (List.prefix_append _ _).trans s2.pre
  have nD : D ∉ mz ι1 (wf.take w1.length) := fun z => by
    obtain ⟨n, l, o, g1, g2, g3⟩ := of_mz z
    have hn : n < ι1.length := (List.getElem?_eq_some_iff.mp g1).1
    have hn' : n < w1.length := by rw [← r1.len]; exact hn
    rw [List.getElem?_take_of_lt hn'] at g2
    obtain ⟨t, rfl⟩ := p
    have g1' : (ι1 ++ t)[n]? = some l := by rw [List.getElem?_append_left hn]; exact g1
    have := mz_apart s2.rel.nd g1' g2 g3 hD2 g (by simp [footOf])
    omega
  refine Dt.lst eb nD ?_
  have sub := (s2.rel.cut p).2
  rw [r1.len] at sub
  exact ec.go (Go.less fun b hb => sub.subset hb)
/-- .. as a list that may change -/
theorem lc_own {ι1 ι2 : List (List Addr)} {w1 wf : Sto} {H1 H2 : Hp} {D : Addr} {K : PySem.W.Frag} (r1 : SRel K ι1 w1 H1) (hD : H1 D = none) (s2 : Stp K (ι1 ++ [[D]]) (w1 ++ [.lst []]) (upd H1 D (.lst [])) ι2 wf H2) :
    Stp K ι1 w1 H1 (ι1 ++ [[D]]) (wf.take (w1.length + 1)) H2 := by
  have sN := Stp.newLst (vs := []) (ds := []) r1 hD .nil
  have s := s2.cut
  rw [List.length_append, List.length_singleton, r1.len] at s
  exact sN.trans s
theorem lc_fin {ι : List (List Addr)} {w : Sto} {H : Hp} {vs : List Nat} {ρ : Env} {Q : SV → List (List Addr) → Sto → Hp → Prop} {V : VK} {ds : List PyData} {Ws : Value → Option Addr → Hp → Prop}
    (h : Hyp X.K EA ι w H ((fun w => match lcL w.length set mc me ds (wipeE ρ vs) (w ++ [.lst []]) with
      | some (.ok (), w') => match w'[w.length]? with
        | some (.lst acc) => some (Res.ok (SV.dat (.list acc)), w'.take w.length)
        | _ => none
      | _ => none) w) Q Ws) : ∃ u wf acc, lcL w.length set mc me ds (wipeE ρ vs) (w ++ [.lst []]) = some (.ok u, wf) ∧ wf[w.length]? = some (.lst acc) ∧ ∀ ι' H', Stp X.K ι w H ι' (wf.take w.length) H' → Q (.dat (.list acc)) ι' (wf.take w.length) H' := by
  cases hl : lcL w.length set mc me ds (wipeE ρ vs) (w ++ [.lst []]) with
  | none => simp only [hl] at h; exact h.elim
  | some q =>
    obtain ⟨q1, wf⟩ := q
    cases q1 with
    | err _ _ => simp only [hl] at h; exact h.elim
    | ok u =>
      simp only [hl] at h
      cases g : wf[w.length]? with
      | none => simp only [g] at h; exact h.elim
      | some o =>
        cases o with
        | lst acc =>
          simp only [g] at h
          exact ⟨u, wf, acc, rfl, g, h⟩
        | _ => simp only [g] at h; exact h.elim
def mLcO (it : Env → Mo (List PyData)) (vs : List Nat) (set : PyData → Env → Mo Env) (cond : Env → Mo Bool) (elt : Env → Mo SV) : Env → Mo SV := fun ρ => mBind (it ρ) fun ds w =>
  match lcL w.length set cond elt ds (wipeE ρ vs) (w ++ [.lst []]) with
  | some (.ok (), w') => some (.ok (.obj w.length), w'.take (w.length + 1))
  | _ => none
theorem lc_finO {ι : List (List Addr)} {w : Sto} {H : Hp} {vs : List Nat} {ρ : Env} {Q : SV → List (List Addr) → Sto → Hp → Prop} {ds : List PyData} {Ws : Value → Option Addr → Hp → Prop}
    (h : Hyp X.K EA ι w H ((fun w => match lcL w.length set mc me ds (wipeE ρ vs) (w ++ [.lst []]) with
      | some (.ok (), w') => some (Res.ok (SV.obj w.length), w'.take (w.length + 1))
      | _ => none) w) Q Ws) : ∃ u wf, lcL w.length set mc me ds (wipeE ρ vs) (w ++ [.lst []]) = some (.ok u, wf) ∧ ∀ ι' H', Stp X.K ι w H ι' (wf.take (w.length + 1)) H' → Q (.obj w.length) ι' (wf.take (w.length + 1)) H' := by
  cases hl : lcL w.length set mc me ds (wipeE ρ vs) (w ++ [.lst []]) with
  | none => simp only [hl] at h; exact h.elim
  | some q =>
    obtain ⟨q1, wf⟩ := q
    cases q1 with
    | err _ _ => simp only [hl] at h; exact h.elim
    | ok u =>
      simp only [hl] at h
      exact ⟨u, wf, rfl, h⟩
abbrev BlkG (X : Cx) (scope : Scope) (p : Cx → Prop) : Prop := ∀ (s : Shared) (H : Hp) (C : Addr) (cl : List (Str × Addr)) (fp : List Addr), p (X.blk s H scope (compEnvC scope cl C X.env) fp)
theorem de_lc (hc : X.calm = true) (hN : X.N.Nodup) (hi : DI X EA W tg iter it) (ok : BlkOk X.N X.env.scope scope own)
    (hg : BlkG X scope fun Y => DG Y EA Wn tg js set) (ht : BlkG X scope fun Y => DTs Y EA ifs mc)
    (he : BlkG X scope fun Y => DE Y EA Wn elt me) (hj : ∀ j ∈ js, j ∈ own.map (·.2)) (hs : ∀ x, foldedSetIterable iter X.env x = pure x := by intro _; rfl) :
    DE X EA W (.ListComp elt [⟨tg, iter, ifs, 0⟩] scope pos) (mLc it (own.map (·.2)) set mc me) := by
  obtain ⟨wi, pi, si⟩ := hi.ex
  refine ⟨_, pe_lc (g := cG X.K EA js set) (tt := cT X.K EA Wn mc) (te := cE X.K EA Wn me) hc hN pi ok (fun s H C cl fp => (hg s H C cl fp).can) (fun s H C cl fp => (ht s H C cl fp).ex) (fun s H C cl fp => (he s H C cl fp).can) hs, fun ι w σ H ρ Q R E h => ?_⟩
  refine lc_run (Ws := fun cls d H' => W cls d σ H') si hj R E ((Hyp.bind h).imp fun ds ι1 w1 H1 s1 h1 => ?_)
  obtain ⟨u, wf, acc, e1, e2, q⟩ := lc_fin (V := Q) h1
  refine ⟨u, wf, e1, fun D ι2 H2 hD r1 s2 => ?_⟩
  obtain ⟨s, d⟩ := lc_dat r1 hD s2 e2
  exact q _ _ s _ d
theorem de_lcO (hc : X.calm = true) (hN : X.N.Nodup) (hi : DI X EA W tg iter it) (ok : BlkOk X.N X.env.scope scope own)
    (hg : BlkG X scope fun Y => DG Y EA Wn tg js set) (ht : BlkG X scope fun Y => DTs Y EA ifs mc)
    (he : BlkG X scope fun Y => DE Y EA Wn elt me) (hj : ∀ j ∈ js, j ∈ own.map (·.2)) (hs : ∀ x, foldedSetIterable iter X.env x = pure x := by intro _; rfl) :
    DE X EA W (.ListComp elt [⟨tg, iter, ifs, 0⟩] scope pos) (mLcO it (own.map (·.2)) set mc me) := by
  obtain ⟨wi, pi, si⟩ := hi.ex
  refine ⟨_, pe_lc (g := cG X.K EA js set) (tt := cT X.K EA Wn mc) (te := cE X.K EA Wn me) hc hN pi ok (fun s H C cl fp => (hg s H C cl fp).can) (fun s H C cl fp => (ht s H C cl fp).ex) (fun s H C cl fp => (he s H C cl fp).can) hs, fun ι w σ H ρ Q R E h => ?_⟩
  refine lc_run (Ws := fun cls d H' => W cls d σ H') si hj R E ((Hyp.bind h).imp fun ds ι1 w1 H1 s1 h1 => ?_)
  obtain ⟨u, wf, e1, q⟩ := lc_finO h1
  exact ⟨u, wf, e1, fun D ι2 H2 hD r1 s2 => q _ _ (lc_own r1 hD s2) _ (VRel.last r1.len)⟩
/-- y = [..] -/
theorem ds_setLc {i : Nat} {y : Str} {py spos : Pos} (hc : X.calm = true) (hN : X.N.Nodup) (hi : DI X EA W tg iter it) (ok : BlkOk X.N X.env.scope scope own)
    (hg : BlkG X scope fun Y => DG Y EA Wn tg js set) (ht : BlkG X scope fun Y => DTs Y EA ifs mc)
    (he : BlkG X scope fun Y => DE Y EA Wn elt me) (hj : ∀ j ∈ js, j ∈ own.map (·.2)) (hy : X.N[i]? = some y := by rfl) (hyl : X.env.scope.names.lookup y = some .local := by rfl) (hk : X.env.scope.kind = .function := by rfl)
    (hl : (py.line == pos.line) = true := by rfl) (ha : (scope.names.any fun (n, k) => n == y && (k == .local || k == .cell)) = false := by rfl) (hs : ∀ x, foldedSetIterable iter X.env x = pure x := by intro _; rfl) :
    DS X EA W (.Assign [.Name y py] (.ListComp elt [⟨tg, iter, ifs, 0⟩] scope pos) spos) (mAsg i (mLc it (own.map (·.2)) set mc me)) := by
  obtain ⟨wi, pi, si⟩ := hi.ex
  refine ⟨_, ps_setLc (g := cG X.K EA js set) (tt := cT X.K EA Wn mc) (te := cE X.K EA Wn me) hc hN hy hyl (sw_true hk hyl hl ha) pi ok (fun s H C cl fp => (hg s H C cl fp).can) (fun s H C cl fp => (ht s H C cl fp).ex) (fun s H C cl fp => (he s H C cl fp).can) hs, fun ι w σ H ρ D R E h => ?_⟩
  refine lc_run (Ws := fun cls d H' => W cls d σ H') si hj R E ((Hyp.bind (Hyp.bind (h.wE σ))).imp fun ds ι1 w1 H1 s1 h1 => ?_)
  obtain ⟨u, wf, acc, e1, e2, q⟩ := lc_fin (V := fun _ _ => True) h1
  refine ⟨u, wf, e1, fun P ι2 H2 hP r1 s2 => ?_⟩
  obtain ⟨s, d⟩ := lc_dat r1 hP s2 e2
  have g := q _ _ s
  exact Hyp.pure g s.rel _ (((E.stp s1).stp s).set d)
theorem ds_setLcO {i : Nat} {y : Str} {py spos : Pos} (hc : X.calm = true) (hN : X.N.Nodup) (hi : DI X EA W tg iter it) (ok : BlkOk X.N X.env.scope scope own)
    (hg : BlkG X scope fun Y => DG Y EA Wn tg js set) (ht : BlkG X scope fun Y => DTs Y EA ifs mc)
    (he : BlkG X scope fun Y => DE Y EA Wn elt me) (hj : ∀ j ∈ js, j ∈ own.map (·.2)) (hy : X.N[i]? = some y := by rfl) (hyl : X.env.scope.names.lookup y = some .local := by rfl) (hk : X.env.scope.kind = .function := by rfl)
    (hl : (py.line == pos.line) = true := by rfl) (ha : (scope.names.any fun (n, k) => n == y && (k == .local || k == .cell)) = false := by rfl) (hs : ∀ x, foldedSetIterable iter X.env x = pure x := by intro _; rfl) :
    DS X EA W (.Assign [.Name y py] (.ListComp elt [⟨tg, iter, ifs, 0⟩] scope pos) spos) (mAsg i (mLcO it (own.map (·.2)) set mc me)) := by
  obtain ⟨wi, pi, si⟩ := hi.ex
  refine ⟨_, ps_setLc (g := cG X.K EA js set) (tt := cT X.K EA Wn mc) (te := cE X.K EA Wn me) hc hN hy hyl (sw_true hk hyl hl ha) pi ok (fun s H C cl fp => (hg s H C cl fp).can) (fun s H C cl fp => (ht s H C cl fp).ex) (fun s H C cl fp => (he s H C cl fp).can) hs, fun ι w σ H ρ D R E h => ?_⟩
  refine lc_run (Ws := fun cls d H' => W cls d σ H') si hj R E ((Hyp.bind (Hyp.bind (h.wE σ))).imp fun ds ι1 w1 H1 s1 h1 => ?_)
  obtain ⟨u, wf, e1, q⟩ := lc_finO h1
  refine ⟨u, wf, e1, fun P ι2 H2 hP r1 s2 => ?_⟩
  have s := lc_own r1 hP s2
  have g := q _ _ s
  exact Hyp.pure g s.rel _ (((E.stp s1).stp s).set (VRel.last r1.len))
end
end EG


set_option Elab.async false
set_option linter.all false
set_option maxRecDepth 100000
set_option maxHeartbeats 4000000
namespace EG
open PySem PySem.Spec PyProof.Rows L2

/-! ### defs, where no repr runs around them -/
structure FnG (P : Program) (w : World) (K : PySem.W.Frag) (mg : Str → Option Value) (base : Heap) (k : Nat) (f : Addr) (fd : FuncData) (ps : List Str) (sp : Sp) : Prop where
  len : ∀ vs H Q E, sp vs H Q E → vs.length = ps.length
  run : ∀ (A : Around) (outer : List PySem.Env) (s : Shared) (H : Hp) (args : Args) (us : List Value) (vs : List V) (Q : VK) (E : XK), A.guards = some [] → Room k A → Env0 P w K mg base A outer s H → BindsTo s fd args (ps.zip us) → Vals vs us → sp vs H Q E →
    codeAny (model P w) A (.call (.ref f) args) (CR (L2.CX P w) outer P w H s Q E) s
section
variable {P : Program} {w : World} {K : PySem.W.Frag} {mg : Str → Option Value} {base : Heap}
theorem FnG.mono {j k : Nat} {f : Addr} {fd : FuncData} {ps : List Str} {sp : Sp} (F : FnG P w K mg base j f fd ps sp) (h : j ≤ k) : FnG P w K mg base k f fd ps sp :=
  ⟨F.len, fun A outer s H args us vs Q E hg hr => F.run A outer s H args us vs Q E hg (hr.mono h)⟩
theorem FnG.imp {k : Nat} {f : Addr} {fd : FuncData} {ps : List Str} {sp sp' : Sp} (F : FnG P w K mg base k f fd ps sp) (h : ∀ vs H Q E, sp' vs H Q E → sp vs H Q E) : FnG P w K mg base k f fd ps sp' :=
  ⟨fun vs H Q E q => F.len vs H Q E (h _ _ _ _ q), fun A outer s H args us vs Q E hg hr he hb hv hs => F.run A outer s H args us vs Q E hg hr he hb hv (h _ _ _ _ hs)⟩
/-- a def that needs no such word -/
theorem FnG.of {k : Nat} {f : Addr} {fd : FuncData} {ps : List Str} {sp : Sp} (F : FnOk P w K mg base (L2.CX P w) k f fd ps sp) : FnG P w K mg base k f fd ps sp :=
  ⟨F.len, fun A outer s H args us vs Q E _ hr => F.run A outer s H args us vs Q E hr⟩
/-- none of its calls is asked -/
theorem FnG.none {k : Nat} {f : Addr} {fd : FuncData} {ps : List Str} {sp : Sp} (h : ∀ vs H Q E, ¬ sp vs H Q E) : FnG P w K mg base k f fd ps sp :=
  ⟨fun vs H Q E q => absurd q (h vs H Q E), fun A outer s H args us vs Q E _ _ _ _ _ q => absurd q (h vs H Q E)⟩
theorem deeper_guards {A : Around} {env : PySem.Env} (h : A.guards = some []) : (A.deeper env).guards = some [] := h
/-- a def by its body -/
theorem fnG_of {k : Nat} {f : Addr} {x qual : Str} {st : Stmt} {fd : FuncData} {N ps : List Str} {sp : Sp} (F : Fun K x qual st f fd) (S : FnScope N ps (defScope st)) (len : ∀ vs H Q E, sp vs H Q E → vs.length = ps.length)
    (hbody : ∀ (cdv : Value) (A : Around) (outer : List PySem.Env) (s : Shared) (H : Hp) (vs : List V) (Q : VK) (E : XK), A.guards = some [] → Room k (A.deeper (envOfC qual (defScope st) s.heap.objs.size f cdv)) → sp vs H Q E →
      ∃ t, PSs (cxOf (L2.CX P w) P w K mg base N qual (defScope st) f cdv A outer s H E) (defBody st) t ∧ t { nx := fun _ H' => Q .non H', rt := Q } (start N vs) H) : FnG P w K mg base (k + 1) f fd ps sp := by
  obtain ⟨oc, od, kV, doc, pm, an, cdv, ct, osl, rfl, lk, hcd⟩ := F.ex
  constructor
  · exact len
  intro A outer s H args us vs Q E hg hr e0 hb r hsp
  have KX : K.In s.heap := e0.mod.kin.keeps fun b o e => (e0.bs b o e).1
  have lim : s.heap.NoLimit := e0.mod.nolimit.keeps fun b o e => (e0.bs b o e).1
  refine codeAny_call_function hr.depth (KX _ _ lk) rfl S.co S.gen rfl (PySem.W.codeRec_of KX hcd) (hb _ _ _ _ ?_)
  refine wpAny_newFunctionEnv_cells S.kind (fun y hy => ?kind) fun env he s1 x => ?body
  case kind =>
    obtain ⟨n, v⟩ := y
    rcases S.par n (List.of_mem_zip hy).1 with q | q
    · exact .inl q
    · exact .inr ⟨q, PySem.W.cellsFrom_some _ _ _ (.inl q)⟩
  case body =>
    subst he
    refine ⟨lim.keeps x.toInCall.keep, codeAny_func ?_⟩
    obtain ⟨t, ht, hq⟩ := hbody cdv A outer s H vs Q E hg (hr.deeper _) hsp
    have I := inv_start (CX := L2.CX P w) (E := E) S hr.hd e0 (len _ _ _ _ hsp) r x
    refine wpAny_mono (ht.run [] s1 (start N vs) H _ I hq) (fun fl s' hs => ?_) fun _ _ hs => hs
    cases fl with
    | ret u =>
      obtain ⟨v, σ', H', J, rv, q⟩ := hs
      exact ⟨v, H', J.os, J.bare, J.base, J.hok, rv, q⟩
    | next =>
      obtain ⟨σ', H', J, q⟩ := hs
      exact ⟨.non, H', J.os, J.bare, J.base, J.hok, rfl, q⟩
    | brk => exact hs.elim fun _ z => z.elim fun _ z => False.elim z.2
    | cont => exact hs.elim fun _ z => z.elim fun _ z => False.elim z.2
end

/-! ### what a def promises, told by Mo -/
abbrev Fn := List SV → Mo SV
def spD (n : Nat) (K : PySem.W.Frag) (EA : EAt) (g : Fn) : Sp := fun vs H Q E => ∃ ι w xs, SRel K ι w H ∧ VsR K ι (mz ι w) H vs xs ∧ xs.length = n ∧ Hyp K EA ι w H (g xs w) (fun v ι' w' H' => ∀ V, VRel K ι' (mz ι' w') H' V v → Q V H') E
theorem spD_len {n : Nat} {K : PySem.W.Frag} {EA : EAt} {g : Fn} {ps : List Str} (h : ps.length = n) (vs : List V) (H : Hp) (Q : VK) (E : XK) (q : spD n K EA g vs H Q E) : vs.length = ps.length := by
  obtain ⟨ι, w, xs, _, r, e, _⟩ := q
  rw [r.length, e, h]
def startE (N : List Str) (xs : List SV) : Env := xs.map some ++ List.replicate (N.length - xs.length) none
theorem VsR.getx {K : PySem.W.Frag} {ι : List (List Addr)} {M : List Addr} {H : Hp} : ∀ {vs : List V} {xs : List SV} {i : Nat} {x : SV}, VsR K ι M H vs xs → xs[i]? = some x → ∃ v, vs[i]? = some v ∧ VRel K ι M H v x
  | _, _, _, _, .nil, e => by simp at e
  | _, _, 0, _, .cons h _, e => by
    cases (Option.some.inj e)
    exact ⟨_, rfl, h⟩
  | _, _, i + 1, x, .cons _ q, e => by
    obtain ⟨v, h1, h2⟩ := VsR.getx (i := i) q (by simpa using e)
    exact ⟨v, by simpa using h1, h2⟩
theorem start_rel {K : PySem.W.Frag} {ι : List (List Addr)} {M : List Addr} {H : Hp} {N : List Str} {vs : List V} {xs : List SV} (r : VsR K ι M H vs xs) : EnvR K ι M H (start N vs) (startE N xs) := by
  have hl := r.length
  refine ⟨by simp [L2.start, startE, hl], fun i v h => ?_⟩
  unfold startE at h
  by_cases hi : i < xs.length
  · rw [List.getElem?_append_left (by simpa using hi), List.getElem?_map] at h
    cases e : xs[i]? with
    | none => rw [e] at h; cases h
    | some y =>
      rw [e] at h
      cases h
      obtain ⟨V, h1, h2⟩ := r.getx e
      refine ⟨V, ?_, h2⟩
      unfold L2.start
      rw [List.getElem?_append_left (by rw [List.length_map, hl]; exact hi), List.getElem?_map, h1]
      rfl
  · rw [List.getElem?_append_right (by simpa using hi), List.getElem?_replicate] at h
    split at h <;> cases h
/-- a body's outcome as the def's: what is plain data leaves nothing in the store -/
def endO (n : Nat) : Option (Res Out × Sto) → Option (Res SV × Sto)
  | some (.ok (.rt (.dat d)), w') => some (.ok (.dat d), w'.take n)
  | some (.ok (.rt v), w') => some (.ok v, w')
  | some (.ok (.nx _), w') => some (.ok (.dat .none), w'.take n)
  | some (.err c fs, w') => some (.err c fs, w'.take n)
  | _ => none
def mDef (N : List Str) (m : Env → Mo Out) : Fn := fun xs w => endO w.length (m (startE N xs) w)
/-- errors stay told in later states -/
def EGo (EA : EAt) : Prop := ∀ M H M' H' c fs cls d, Go M H M' H' → EA M H c fs cls d → EA M' H' c fs cls d
section
variable {P : Program} {w : World} {K : PySem.W.Frag} {mg : Str → Option Value} {base : Heap} {EA : EAt}
theorem fnD {k : Nat} {f : Addr} {x qual : Str} {st : Stmt} {fd : FuncData} {N ps : List Str} {m : Env → Mo Out} (hEA : EGo EA) (F : Fun K x qual st f fd) (S : FnScope N ps (defScope st))
    (hbody : ∀ (cdv : Value) (A : Around) (outer : List PySem.Env) (s : Shared) (H : Hp) (E : XK), A.guards = some [] → Room k (A.deeper (envOfC qual (defScope st) s.heap.objs.size f cdv)) →
      DSs (cxOf (L2.CX P w) P w K mg base N qual (defScope st) f cdv A outer s H E) EA (fun cls d _ H => E cls d H) (defBody st) m) : FnG P w K mg base (k + 1) f fd ps (spD ps.length K EA (mDef N m)) := by
  refine fnG_of F S (spD_len rfl) fun cdv A outer s H vs Q E hg hr hsp => ?_
  obtain ⟨t, p, z⟩ := (hbody cdv A outer s H E hg hr).ex
  obtain ⟨ι, w0, xs, R, r, e, h⟩ := hsp
  refine ⟨t, p, z ι w0 _ H (startE N xs) _ R (start_rel r) ?_⟩
  have h' : Hyp K EA ι w0 H (endO w0.length (m (startE N xs) w0)) (fun v ι' w' H' => ∀ V, VRel K ι' (mz ι' w') H' V v → Q V H') E := h
  cases q : m (startE N xs) w0 with
  | none => rw [q] at h'; exact h'.elim
  | some o =>
    obtain ⟨o1, w1⟩ := o
    rw [q] at h'
    have cutS : ∀ {ι' H'}, Stp K ι w0 H ι' w1 H' → Stp K ι w0 H ι (w1.take w0.length) H' := fun {ι' H'} s => by
      have := s.cut
      rw [R.len] at this
      exact this
    have cutD : ∀ {ι' H' V d}, Stp K ι w0 H ι' w1 H' → Dt K (mz ι' w1) H' V d → Dt K (mz ι (w1.take w0.length)) H' V d := fun {ι' H' V d} s q => by
      have := Dt.cut s.rel s.pre q
      rw [R.len] at this
      exact this
    cases o1 with
    | err c fs =>
      refine fun ι' H' cls d s ea _ => h' ι H' cls d (cutS s) (hEA _ _ _ _ _ _ _ _ (Go.less fun b hb => ?_) ea)
      have sub := (s.rel.cut s.pre).2
      rw [R.len] at sub
      exact sub.subset hb
    | ok o =>
      cases o with
      | rt v =>
        cases v with
        | dat d => exact fun ι' H' s V rv => h' ι H' (cutS s) V (cutD s rv)
        | obj n => exact fun ι' H' s V rv => h' ι' H' s V rv
        | scr n => exact fun ι' H' s V rv => h' ι' H' s V rv
        | exc n => exact fun ι' H' s V rv => h' ι' H' s V rv
        | excs n => exact fun ι' H' s V rv => h' ι' H' s V rv
        | drg n => exact fun ι' H' s V rv => h' ι' H' s V rv
      | nx ρ => exact fun ι' H' s σ' E' => h' ι H' (cutS s) _ Dt.non
      | bk ρ => exact h'.elim
      | ct ρ => exact h'.elim
end
/-! ### calls of such defs -/
def mCall (g : Fn) (m : Env → Mo (List SV)) : Env → Mo SV := fun ρ => mBind (m ρ) fun xs => g xs
section
variable {X : Cx} {EA : EAt} {W : WX} {k : Nat} {f : Addr} {fd : FuncData} {ps : List Str} {sp : Sp} {x : Str} {p pos : Pos} {e : Expr} {es : List Expr}
theorem run_G {pins : List (Addr × Obj)} {σ : L2.St} {H : Hp} {s : Shared} {Q : VK} {us : List Value} {vs : List V} {E : XK} (F : FnG X.prog X.w X.K X.mg X.base k f fd ps sp) (hg : X.A.guards = some []) (hr : Room k X.A) (hb : Binds X.K fd ps []) (hx : PassesAt (L2.CX X.prog X.w) X σ E)
    (I : Inv X pins σ H s) (r : Vals vs us) (h : sp vs H Q E) : wpAny (model X.prog X.w) X.A (call (.ref f) us) (EP X pins σ Q) X.xe s := by
  have hl : us.length = ps.length := by rw [← r.length]; exact F.len _ _ _ _ h
  have b := hb s us I.kIn (by rw [List.append_nil]; exact hl)
  rw [List.append_nil] at b
  refine wpAny_call (codeAny_mono (F.run X.A X.stack s H ⟨us, []⟩ us vs Q E hg hr I.env0 b r h) fun res s' q => ?_)
  match res, q with
  | .error e, q => exact hx pins H s e s' I q
  | .ok (.ret u), q => exact I.after q
def tCallG (sp : Sp) (W : WX) (t : TA) : TE := fun σ H Q => t σ H fun vs H1 => sp vs H1 Q fun cls d H' => W cls d σ H'
theorem pe_callG (F : FnG X.prog X.w X.K X.mg X.base k f fd ps sp) (hg : X.A.guards = some []) (hr : Room k X.A) (hm : X.mg x = some (.ref f)) (hk : PySem.W.keepIn X.K (.ref f) = true) (hb : Binds X.K fd ps []) (tk : Takes X W) {t : TA} (ha : PA X (e :: es) t)
    (hgl : Gl X x := by rfl) (hdb : (x == ("__debug__" : Str)) = false := by decide) (he : starEach (e :: es) X.env = (false, eval e X.env) :: starEach es X.env := by rfl) (hpl : (backTo pos (starEach es X.env)).any (·.1) = false := by rfl) :
    PE X (.Call (.Name x p) (e :: es) [] pos) (tCallG sp W t) := by
  refine ⟨fun pins s σ H Q I h => ?_⟩
  refine wpAny_Call_Name_kw (ld_glob I hgl hm ?_ hdb)
  refine PySem.W.callWith_K (h₀ := X.base) I.ok.mod.kin hk (thn (ha.run pos pins s σ H _ I h) fun us s1 ⟨vs, H1, I1, r, q⟩ => ⟨I1.kIn, ?_⟩) he hpl
  exact run_G F hg hr hb (passAt tk σ) I1 r q
theorem pe_callG0 (F : FnG X.prog X.w X.K X.mg X.base k f fd ps sp) (hg : X.A.guards = some []) (hr : Room k X.A) (hm : X.mg x = some (.ref f)) (hk : PySem.W.keepIn X.K (.ref f) = true) (hb : Binds X.K fd ps []) (tk : Takes X W)
    (hgl : Gl X x := by rfl) (hdb : (x == ("__debug__" : Str)) = false := by decide) : PE X (.Call (.Name x p) [] [] pos) (tCallG sp W tNil) := by
  refine ⟨fun pins s σ H Q I h => ?_⟩
  refine wpAny_Call_Name_kw (ld_glob I hgl hm ?_ hdb)
  exact PySem.W.callWith_K0 I.kIn hk (run_G (us := []) (vs := []) F hg hr hb (passAt tk σ) I .nil h)
variable {n : Nat} {g : Fn} {ml : Env → Mo (List SV)}
/-- the number of what an argument list gives -/
def LenM (n : Nat) (m : Env → Mo (List SV)) : Prop := ∀ ρ w xs w', m ρ w = some (.ok xs, w') → xs.length = n
theorem LenM.nil : LenM 0 mNil := fun ρ w xs w' h => by cases h; rfl
theorem LenM.cons {a : Env → Mo SV} {m : Env → Mo (List SV)} {n : Nat} (h : LenM n m) : LenM (n + 1) (mCons a m) := fun ρ w xs w' e => by
  obtain ⟨y, w1, _, e1⟩ := ok_bind e
  obtain ⟨ys, w2, e2, e3⟩ := ok_bind e1
  cases e3
  rw [List.length_cons, h ρ w1 ys _ e2]
theorem Hyp.withEq {α : Type} {K : PySem.W.Frag} {EA : EAt} {ι : List (List Addr)} {w : Sto} {H : Hp} {r : Option (Res α × Sto)} {P : α → List (List Addr) → Sto → Hp → Prop} {W : Value → Option Addr → Hp → Prop} (h : Hyp K EA ι w H r P W) : Hyp K EA ι w H r (fun a ι' w' H' => r = some (.ok a, w') ∧ P a ι' w' H') W := by
  match r, h with
  | some (.ok a, w'), h => exact fun ι' H' s => ⟨rfl, h ι' H' s⟩
  | some (.err c fs, w'), h => exact h
theorem de_call (F : FnG X.prog X.w X.K X.mg X.base k f fd ps (spD n X.K EA g)) (hg : X.A.guards = some []) (hr : Room k X.A) (hm : X.mg x = some (.ref f)) (hk : PySem.W.keepIn X.K (.ref f) = true) (hb : Binds X.K fd ps []) (tk : Takes X W) (ha : DA X EA W (e :: es) ml) (hn : LenM n ml)
    (hgl : Gl X x := by rfl) (hdb : (x == ("__debug__" : Str)) = false := by decide) (he : starEach (e :: es) X.env = (false, eval e X.env) :: starEach es X.env := by rfl) (hpl : (backTo pos (starEach es X.env)).any (·.1) = false := by rfl) :
    DE X EA W (.Call (.Name x p) (e :: es) [] pos) (mCall g ml) := by
  obtain ⟨t, q, s⟩ := ha.ex
  refine ⟨_, pe_callG (W := W) F hg hr hm hk hb tk q hgl hdb he hpl, fun ι w σ H ρ Q R E h => ?_⟩
  exact s ι w σ H ρ _ R E ((Hyp.bind h).withEq.imp fun xs ι1 w1 H1 s1 h1 Vs rs => ⟨ι1, w1, xs, s1.rel, rs, hn _ _ _ _ h1.1, h1.2⟩)
theorem de_call0 (F : FnG X.prog X.w X.K X.mg X.base k f fd ps (spD 0 X.K EA g)) (hg : X.A.guards = some []) (hr : Room k X.A) (hm : X.mg x = some (.ref f)) (hk : PySem.W.keepIn X.K (.ref f) = true) (hb : Binds X.K fd ps []) (tk : Takes X W) (hgl : Gl X x := by rfl) (hdb : (x == ("__debug__" : Str)) = false := by decide) :
    DE X EA W (.Call (.Name x p) [] [] pos) (mCall g mNil) := by
  refine ⟨_, pe_callG0 (W := W) F hg hr hm hk hb tk hgl hdb, fun ι w σ H ρ Q R E h => ?_⟩
  exact ⟨ι, w, [], R, .nil, rfl, h⟩
end
end EG


set_option Elab.async false
set_option linter.all false
set_option maxRecDepth 100000
set_option maxHeartbeats 4000000
namespace EG
open PySem PySem.Spec PyProof.Rows L2
section
variable {X : Cx} {K : PySem.W.Frag} {EA : EAt} {W : WX} {a b c e : Expr} {es : List Expr} {ma mb mc m : Env → Mo SV} {ml : Env → Mo (List SV)} {pos p : Pos} {x : Str}
/-- an object of the store that changes no longer -/
def mFrz (m : Env → Mo SV) : Env → Mo SV := fun ρ => mBind (m ρ) fun x w => (fz1 x w).map fun p => (.ok (.dat p.1), p.2)
theorem de_frz (ha : DE X EA W a ma) : DE X EA W a (mFrz ma) := by
  obtain ⟨t, p, s⟩ := ha.ex
  refine ⟨t, p, fun ι w σ H ρ Q R E h => ?_⟩
  refine s ι w σ H ρ _ R E ((Hyp.bind h).imp fun v ι1 w1 H1 s1 h1 V rv => ?_)
  cases q : fz1 v w1 with
  | none => simp only [q] at h1; exact h1.elim
  | some p =>
    obtain ⟨d, w2⟩ := p
    simp only [q] at h1
    obtain ⟨s2, r2⟩ := fz1_ok s1.rel rv q
    exact h1 _ _ s2 V r2
/-! ### operators that make a new object of the store -/
abbrev Op2S := SV → SV → Sto → Option (SV × Sto)
def mBinS (ma mb : Env → Mo SV) (g : Op2S) : Env → Mo SV := fun ρ => mBind (ma ρ) fun x => mBind (mb ρ) fun y w => (g x y w).map fun p => (.ok p.1, p.2)
def OpSS (K : PySem.W.Frag) (r : R2) (g : Op2S) : Prop := ∀ ι w H vx vy x y v w' Q, SRel K ι w H → VRel K ι (mz ι w) H vx x → VRel K ι (mz ι w) H vy y → g x y w = some (v, w') → (∀ ι' H', Stp K ι w H ι' w' H' → ∀ V, VRel K ι' (mz ι' w') H' V v → Q V H') → r vx vy H Q
theorem OpSS.run {r : R2} {g : Op2S} (s : OpSS K r g) {ι : List (List Addr)} {w : Sto} {H : Hp} {vx vy : V} {x y : SV} {Q : VK} {W : Value → Option Addr → Hp → Prop} (R : SRel K ι w H) (hx : VRel K ι (mz ι w) H vx x) (hy : VRel K ι (mz ι w) H vy y)
    (h : Hyp K EA ι w H ((g x y w).map fun p => (Res.ok p.1, p.2)) (fun v ι' w' H' => ∀ V, VRel K ι' (mz ι' w') H' V v → Q V H') W) : r vx vy H Q := by
  cases e : g x y w with
  | none => rw [e] at h; exact h.elim
  | some p =>
    obtain ⟨v, w'⟩ := p
    rw [e] at h
    exact s ι w H vx vy x y v w' Q R hx hy e fun ι' H' st V rv => h ι' H' st V rv
theorem de_opS {op : Operator} {r : R2} {g : Op2S} (ho : OpR X (binaryOp op) r) (hs : OpSS X.K r g) (ha : DE X EA W a ma) (hb : DE X EA W b mb) : DE X EA W (.BinOp a op b pos) (mBinS ma mb g) := by
  obtain ⟨ta, pa, sa⟩ := ha.ex
  obtain ⟨tb, pb, sb⟩ := hb.ex
  refine ⟨_, pe_op ho pa pb, fun ι w σ H ρ Q R E h => ?_⟩
  exact two (R := fun x y H => r x y H Q) sa sb R E h fun ι2 w2 H2 vx vy x y s2 rx ry h2 => hs.run s2.rel rx ry h2
/-- xs + ys as a list that may change -/
def gCatO : Op2S := fun x y w => match toL w x, toL w y with
  | some xs, some ys => if fitsN (xs.length + ys.length) then some (.obj w.length, w ++ [.lst (xs ++ ys)]) else none
  | _, _ => none
theorem os_catO : OpSS K rCat gCatO := by
  intro ι w H vx vy x y v w' Q R rx ry e k
  unfold gCatO at e
  cases ex : toL w x with
  | none => simp only [ex] at e; cases e
  | some xs =>
    cases ey : toL w y with
    | none => simp only [ex, ey] at e; cases e
    | some ys =>
      simp only [ex, ey] at e
      obtain ⟨p1, vs, rfl, g1, q1⟩ := rx.l R ex
      obtain ⟨p2, us, rfl, g2, q2⟩ := ry.l R ey
      by_cases c : fitsN (xs.length + ys.length) = true
      · rw [if_pos c] at e
        cases e
        refine ⟨_, _, _, _, rfl, rfl, g1, g2, by rw [q1.length, q2.length]; exact of_decide_eq_true c, fun z hz => ?_⟩
        exact k _ _ (Stp.newLst R hz (q1.app q2)) _ (VRel.last R.len)
      · rw [if_neg c] at e; cases e
/-- xs * k -/
def gRep : Op2 := fun x y w => match toL w x, y with
  | some xs, .dat (.int k) => if decide (-(2 ^ 63) ≤ k ∧ k < 2 ^ 63) && fitsN (xs.length * k.toNat) then some (.dat (.list (List.replicate k.toNat xs).flatten)) else none
  | _, _ => none
theorem DtA.rep {M : List Addr} {H : Hp} {vs : List V} {ds : List PyData} (h : DtA K M H vs ds) : ∀ n, DtA K M H (List.replicate n vs).flatten (List.replicate n ds).flatten
  | 0 => .nil
  | n + 1 => by
    rw [List.replicate_succ, List.replicate_succ, List.flatten_cons, List.flatten_cons]
    exact h.app (DtA.rep h n)
theorem os_rep : OpS K rRep gRep := by
  intro ι w H vx vy x y v Q R rx ry e k
  unfold gRep at e
  cases ex : toL w x with
  | none => simp only [ex] at e; cases e
  | some xs =>
    simp only [ex] at e
    cases y with
    | dat d =>
      cases d with
      | int j =>
        simp only at e
        obtain ⟨p1, vs, rfl, g1, q1⟩ := rx.l R ex
        cases ry
        by_cases c : (decide (-(2 ^ 63) ≤ j ∧ j < 2 ^ 63) && fitsN (xs.length * j.toNat)) = true
        · rw [if_pos c] at e
          cases e
          rw [Bool.and_eq_true] at c
          have c1 := of_decide_eq_true c.1
          refine ⟨_, _, _, rfl, rfl, g1, c1.1, c1.2, by rw [q1.length]; exact of_decide_eq_true c.2, fun z hz => ?_⟩
          have s3 := Stp.new (o := .lst (List.replicate j.toNat vs).flatten) R hz
          exact k _ s3 _ (Dt.lst upd_same (fun m => R.ne m hz rfl) ((DtA.rep q1 j.toNat).go s3.go))
        · rw [if_neg c] at e; cases e
      | _ => cases e
    | _ => cases e
/-! ### xs.append(e), xs[i] = e -/
def appO (n : Nat) (y : SV) : Mo SV := fun w => match fz1 y w with
  | some (d, w') => match w'[n]? with
    | some (.lst ds) => if ds.length < sizeLine then some (.ok (.dat .none), w'.set n (.lst (ds ++ [d]))) else none
    | _ => none
  | none => none
def isLst : Option SO → Bool
  | some (.lst _) => true
  | _ => false
def mApp (mo me : Env → Mo SV) : Env → Mo SV := fun ρ => mBind (mo ρ) fun x => match x with
  | .obj n => fun w => if isLst w[n]? then mBind (me ρ) (appO n) w else none
  | _ => mFail
theorem Stp.wLst {ι : List (List Addr)} {w : Sto} {H : Hp} {n : Nat} {q : Addr} {ds es : List PyData} {us : List V} (R : SRel K ι w H) (h1 : ι[n]? = some [q]) (h2 : w[n]? = some (.lst ds)) (h : ∀ M H', Go (mz ι w) H M H' → DtA K M H' us es) :
    Stp K ι w H ι (w.set n (.lst es)) (upd H q (.lst us)) := by
  refine Stp.write R h1 h2 rfl (fun b x nb e => by rw [upd_ne (fun z => nb (by rw [z]; simp [footOf]))]; exact e) (fun _ _ _ => .inr True.intro) ?_
  exact ⟨q, us, rfl, upd_same, h _ _ (Go.write (mem_mz h1 h2 (by simp [footOf])))⟩
theorem lst_at {ι : List (List Addr)} {w : Sto} {H : Hp} {n : Nat} {q : Addr} {l : List Addr} {ds : List PyData} (R : SRel K ι w H) (h1 : ι[n]? = some (q :: l)) (h2 : w[n]? = some (.lst ds)) : l = [] ∧ ∃ vs, H q = some (.lst vs) ∧ DtA K (mz ι w) H vs ds := by
  obtain ⟨b, vs, e1, e2, e3⟩ := R.ok n _ _ h1 h2
  injection e1 with e1 e4
  subst e1
  exact ⟨e4, vs, e2, e3⟩
theorem de_app {apos cpos : Pos} (ho : DE X EA W a ma) (he : DE X EA W b mb)
    (hbase : attributeBase a "append" X.env (eval a X.env) = eval a X.env := by rfl)
    (hfew : ((backTo cpos (starEach (b :: []) X.env)).all (fun x => !x.1) && (backToKw cpos (keywordEach [] X.env)).all (fun x => x.1.isSome)
      && decide ((b :: ([] : List Expr)).length + ([] : List Keyword).length + (if ([] : List Keyword).isEmpty then 0 else 1) < 30)) = true := by rfl)
    (hline : (apos.endLine == cpos.line) = true := by rfl) (hs : starEach (b :: []) X.env = (false, eval b X.env) :: starEach [] X.env := by rfl) (hplain : (backTo cpos (starEach [] X.env)).any (·.1) = false := by rfl) :
    DE X EA W (.Call (.Attribute a "append" apos) [b] [] cpos) (mApp ma mb) := by
  obtain ⟨ta, pa, sa⟩ := ho.ex
  obtain ⟨tb, pb, sb⟩ := he.ex
  refine ⟨_, pe_bm PySem.F.plainAttrs_list PySem.F.slot_list_append PySem.F.type_list_append mt_append pa (pa_cons pb pa_nil hs) hbase hfew hline hs hplain, fun ι w σ H ρ Q R E h => ?_⟩
  refine sa ι w σ H ρ _ R E ((Hyp.bind h).imp fun x ι1 w1 H1 s1 h1 V1 r1 => ?_)
  cases x with
  | obj n =>
    obtain ⟨q, l, hn, rfl⟩ := r1
    by_cases c : isLst w1[n]? = true
    · simp only [if_pos c] at h1
      cases hw : w1[n]? with
      | none => rw [hw] at c; cases c
      | some o =>
        cases o with
        | lst ds =>
          obtain ⟨rfl, vs, g1, q1⟩ := lst_at s1.rel hn hw
          refine ⟨.inl ⟨rfl, _, SqL.of g1⟩, ?_⟩
          refine sb ι1 w1 σ H1 ρ _ s1.rel (E.stp s1) ((Hyp.bind h1).imp fun y ι2 w2 H2 s2 h2 V2 r2 => ?_)
          unfold appO at h2
          cases f : fz1 y w2 with
          | none => simp only [f] at h2; exact h2.elim
          | some p =>
            obtain ⟨d, w3⟩ := p
            simp only [f] at h2
            obtain ⟨s3, r3⟩ := fz1_ok s2.rel r2 f
            have hn3 : ι2[n]? = some [q] := by
              obtain ⟨t, rfl⟩ := s2.pre
              rw [List.getElem?_append_left (List.getElem?_eq_some_iff.mp hn).1]
              exact hn
            cases hw3 : w3[n]? with
            | none => simp only [hw3] at h2; exact h2.elim
            | some o =>
              cases o with
              | lst es =>
                simp only [hw3] at h2
                by_cases c2 : es.length < sizeLine
                · rw [if_pos c2] at h2
                  obtain ⟨_, us, g3, q3⟩ := lst_at s3.rel hn3 hw3
                  refine ⟨_, _, _, rfl, rfl, g3, by rw [q3.length]; exact c2, ?_⟩
                  exact h2 _ _ (s3.trans (Stp.wLst s3.rel hn3 hw3 fun M H' g => (q3.go g).app (.cons (r3.go g) .nil))) _ Dt.non
                · rw [if_neg c2] at h2; exact h2.elim
              | _ => simp only [hw3] at h2; exact h2.elim
        | _ => rw [hw] at c; cases c
    · simp only [if_neg c] at h1; exact h1.elim
  | _ => exact h1.elim
/-- xs[i] = e -/
def stiO (n : Nat) (k : Int) (y : SV) (ρ : Env) : Mo Out := fun w => match fz1 y w with
  | some (d, w') => match w'[n]? with
    | some (.lst ds) => match ixN ds.length k with
      | some j => some (.ok (.nx ρ), w'.set n (.lst (ds.set j d)))
      | none => none
    | _ => none
  | none => none
def mSti (me mo mi : Env → Mo SV) : Env → Mo Out := fun ρ => mBind (me ρ) fun y => mBind (mo ρ) fun x => mBind (mi ρ) fun i => match x, i with
  | .obj n, .dat (.int k) => stiO n k y ρ
  | _, _ => mFail
theorem ds_sti {sp : Pos} (he : DE X EA W e m) (ho : DE X EA W a ma) (hi : DE X EA W b mb)
    (hb : ∀ v, assign (.Subscript a b sp) X.env v = (do
      let ov ← holding [v] (eval a X.env)
      let iv ← holding [v, ov] (eval b X.env)
      standAt sp
      holding [v, ov, iv] (setItem ov iv v)
      release [v, ov, iv] []) := by intro _; rfl)
    (hs : swapsWithSole [.Subscript a b sp] e pos.line X.env = pure false := by rfl) (hw : swappedStores [.Subscript a b sp] e X.env = pure none := by rfl)
    (h1 : (assignEach [.Subscript a b sp] X.env).map (·.2) = [assign (.Subscript a b sp) X.env] := by rfl) : DS X EA W (.Assign [.Subscript a b sp] e pos) (mSti m ma mb) := by
  obtain ⟨te, pe, se⟩ := he.ex
  obtain ⟨ta, pa, sa⟩ := ho.ex
  obtain ⟨tb, pb, sb⟩ := hi.ex
  refine ⟨_, ps_asg pe (pg_sub pa pb set_list hb) hs hw h1, fun ι w σ H ρ D R E h => ?_⟩
  refine se ι w σ H ρ _ R E ((Hyp.bind (h.wE σ)).imp fun y ι1 w1 H1 s1 h1 V1 r1 => ?_)
  refine sa ι1 w1 σ H1 ρ _ s1.rel (E.stp s1) ((Hyp.bind h1).imp fun x ι2 w2 H2 s2 h2 V2 r2 => ?_)
  refine sb ι2 w2 σ H2 ρ _ s2.rel ((E.stp s1).stp s2) ((Hyp.bind h2).imp fun i ι3 w3 H3 s3 h3 V3 r3 => ?_)
  have r1' := (r1.stp s2).stp s3
  have r2' := r2.stp s3
  cases x with
  | obj n =>
    cases i with
    | dat d =>
      cases d with
      | int k =>
        cases r3
        obtain ⟨q, l, hn, rfl⟩ := r2'
        simp only [stiO] at h3
        cases f : fz1 y w3 with
        | none => simp only [f] at h3; exact h3.elim
        | some p =>
          obtain ⟨d, w4⟩ := p
          simp only [f] at h3
          obtain ⟨s4, r4⟩ := fz1_ok s3.rel r1' f
          cases hw4 : w4[n]? with
          | none => simp only [hw4] at h3; exact h3.elim
          | some o =>
            cases o with
            | lst es =>
              simp only [hw4] at h3
              cases hj : ixN es.length k with
              | none => simp only [hj] at h3; exact h3.elim
              | some j =>
                simp only [hj] at h3
                obtain ⟨rfl, us, g3, q3⟩ := lst_at s4.rel hn hw4
                refine ⟨_, _, _, j, rfl, rfl, g3, by rw [q3.length]; exact hj, ?_⟩
                have s5 := Stp.wLst s4.rel hn hw4 fun M H' g => (DtA.set (r4.go g) j (q3.go g))
                exact (show OutP X D (.nx ρ) _ _ _ from h3 _ _ (s4.trans s5)) σ ((((E.stp s1).stp s2).stp s3).stp (s4.trans s5))
            | _ => simp only [hw4] at h3; exact h3.elim
      | _ => exact h3.elim
    | _ => exact h3.elim
  | _ => exact h3.elim
/-- x, y = a, b -/
def mPar (i j : Nat) (m : Env → Mo (List SV)) : Env → Mo Out := fun ρ => mBind (m ρ) fun xs => match xs with
  | [x, y] => mPure (.nx ((ρ.set i (some x)).set j (some y)))
  | _ => mFail
theorem ds_par {i j : Nat} {x y : Str} {px py pt : Pos} {kt k2 pt2} (hc : X.calm = true) (hN : X.N.Nodup) (ha : DA X EA W [a, b] ml) (hij : i ≠ j := by decide) (hi : X.N[i]? = some x := by rfl) (hj : X.N[j]? = some y := by rfl)
    (hx : X.env.scope.names.lookup x = some .local := by rfl) (hy : X.env.scope.names.lookup y = some .local := by rfl)
    (hw : swappedStores [.Tuple [.Name x px, .Name y py] kt pt] (.Tuple [a, b] k2 pt2) X.env = pure (some [x, y]) := by rfl)
    (hs : swapsWithSole [.Tuple [.Name x px, .Name y py] kt pt] (.Tuple [a, b] k2 pt2) pos.line X.env = pure false := by rfl) :
    DS X EA W (.Assign [.Tuple [.Name x px, .Name y py] kt pt] (.Tuple [a, b] k2 pt2) pos) (mPar i j ml) := by
  obtain ⟨t, q, s⟩ := ha.ex
  refine ⟨_, ps_par hc hN hi hj hij hx hy q hw hs, fun ι w σ H ρ D R E h => ?_⟩
  refine s ι w σ H ρ _ R E ((Hyp.bind (h.wE σ)).imp fun xs ι1 w1 H1 s1 h1 Vs rs => ?_)
  cases rs with
  | nil => exact h1.elim
  | cons r1 rs =>
    cases rs with
    | nil => exact h1.elim
    | cons r2 rs =>
      cases rs with
      | nil => exact ⟨_, _, rfl, Hyp.pure h1 s1.rel _ (((E.stp s1).set r1).set r2)⟩
      | cons _ _ => exact h1.elim
/-! ### for n, x in enumerate(xs) -/
def enumI : Nat → List PyData → List PyData
  | _, [] => []
  | i, d :: r => .tuple [.int (i : Int), d] :: enumI (i + 1) r
theorem enumI_get : ∀ {ds : List PyData} {i k : Nat} {e : PyData}, (enumI k ds)[i]? = some e → ∃ d, ds[i]? = some d ∧ e = .tuple [.int ((k + i : Nat) : Int), d]
  | [], _, _, _, h => by simp [enumI] at h
  | d :: r, 0, k, e, h => by
    cases (Option.some.inj h)
    exact ⟨d, rfl, rfl⟩
  | d :: r, i + 1, k, e, h => by
    obtain ⟨d', h1, h2⟩ := enumI_get (i := i) (k := k + 1) (by simpa [enumI] using h)
    exact ⟨d', by simpa using h1, by rw [h2]; congr 3; omega⟩
theorem enumI_len : ∀ {ds : List PyData} {k : Nat}, (enumI k ds).length = ds.length
  | [], _ => rfl
  | _ :: r, k => congrArg (· + 1) (enumI_len (ds := r))
theorem walk_e {M : List Addr} {H : Hp} {a : Addr} {vs : List V} {ds : List PyData} (h : ∀ M' H', Go M H M' H' → SqL K H' a vs) (q : DtA K M H vs ds) : Walks K (Ite K a) (enumI 0 ds) M H where
  go := fun M' H' g i d e => by
    obtain ⟨d0, e0, _⟩ := enumI_get e
    obtain ⟨v, h1, h2⟩ := q.getD e0
    exact ⟨vs, v, h M' H' g, h1⟩
  yld := fun M' H' g th i d e x H'' y => by
    obtain ⟨T, x0, rfl, hT, rfl, y⟩ := y
    obtain ⟨d0, e0, rfl⟩ := enumI_get e
    obtain ⟨v, h1, h2⟩ := q.getD e0
    have e2 := y vs (h M' _ g)
    rw [h1] at e2
    cases e2
    refine ⟨.inr ⟨T, _, hT, rfl⟩, ?_⟩
    rw [Nat.zero_add]
    refine Dt.tup (.inl ⟨.inl upd_same, fun z => ?_⟩) (.cons (.int _) (.cons ((h2.go g).go (Go.new hT)) .nil))
    obtain ⟨u, hu⟩ := th T z
    rw [hT] at hu
    cases hu
  stop := fun M' H' g => ⟨vs, h M' H' g, by rw [enumI_len, q.length]; exact Nat.le_refl _⟩
def mEnum (m : Env → Mo SV) : Env → Mo (List PyData) := fun ρ => mBind (m ρ) fun x w => match x with
  | .dat (.list ds) => some (.ok (enumI 0 ds), w)
  | .scr ns => some (.ok (enumI 0 (ns.map .int)), w)
  | _ => none
theorem di_enum {elts : List Expr} {kk : Nat} {tpos : Pos} (hm : X.mg "enumerate" = none) (ha : DE X EA W a ma) (hg : Gl X "enumerate" := by rfl) (hs : starEach [a] X.env = [(false, eval a X.env)] := by rfl)
    (hs' : starEach (a :: []) X.env = (false, eval a X.env) :: starEach [] X.env := by rfl) : DI X EA W (.Tuple elts kk tpos) (.Call (.Name "enumerate" p) [a] [] pos) (mEnum ma) := by
  obtain ⟨t, q, s⟩ := ha.ex
  refine ⟨_, pi_enum hg hm (pa_cons q pa_nil hs') hs, fun ι w σ H ρ R S E h => ?_⟩
  refine s ι w σ H ρ _ S E ((Hyp.bind h).imp fun x ι1 w1 H1 s1 h1 V rv => ?_)
  cases x with
  | dat d =>
    cases d with
    | list ds =>
      cases rv with
      | lst h n q => exact ⟨_, _, rfl, SqL.of h, Hyp.here h1 s1.rel _ (walk_e (fun M' H' g => SqL.of (g _ _ n h).1) q)⟩
    | _ => exact h1.elim
  | scr ns =>
    obtain ⟨a, rfl, q⟩ := rv
    exact ⟨_, _, rfl, q.sq, Hyp.here h1 s1.rel _ (walk_e (fun M' H' g => (q.go g).sq) (DtA.ints ns))⟩
  | _ => exact h1.elim
/-! ### what a body leaves in the store is dropped -/
def trimV (k : Nat) : Option SV → Option SV
  | some (.obj n) => if n < k then some (.obj n) else none
  | some (.drg n) => if n < k then some (.drg n) else none
  | x => x
def trimE (k : Nat) (ρ : Env) : Env := ρ.map (trimV k)
def trimO (k : Nat) : Out → Option Out
  | .nx ρ => some (.nx (trimE k ρ))
  | .ct ρ => some (.ct (trimE k ρ))
  | .bk ρ => some (.bk (trimE k ρ))
  | _ => none
def mGc (m : Env → Mo Out) : Env → Mo Out := fun ρ w => match m ρ w with
  | some (.ok o, w') => match trimO w.length o with
    | some o' => some (.ok o', w'.take w.length)
    | none => some (.ok o, w')
  | r => r
theorem EnvR.trim {ι ι' : List (List Addr)} {w w' : Sto} {H H' : Hp} {σ : L2.St} {ρ : Env} (R : SRel K ι w H) (s : Stp K ι w H ι' w' H') (E : EnvR K ι' (mz ι' w') H' σ ρ) : EnvR K ι (mz ι (w'.take w.length)) H' σ (trimE w.length ρ) := by
  refine ⟨by rw [E.1, trimE, List.length_map], fun i v h => ?_⟩
  rw [trimE, List.getElem?_map] at h
  cases e : ρ[i]? with
  | none => rw [e] at h; cases h
  | some x =>
    rw [e] at h
    have h : trimV w.length x = some v := Option.some.inj h
    cases x with
    | none => cases h
    | some y =>
      have sub := (s.rel.cut s.pre).2
      rw [R.len] at sub
      have g : Go (mz ι' w') H' (mz ι (w'.take w.length)) H' := Go.less fun b hb => sub.subset hb
      have pre : ∀ {n : Nat} {l : List Addr}, n < w.length → ι'[n]? = some l → ι[n]? = some l := fun {n l} hn hl => by
        obtain ⟨t, q⟩ := s.pre
        rw [← q, List.getElem?_append_left (by rw [R.len]; exact hn)] at hl
        exact hl
      obtain ⟨V, h1, h2⟩ := E.2 i y e
      refine ⟨V, h1, ?_⟩
      cases y with
      | dat d => cases h; exact Dt.go g h2
      | scr ns =>
        cases h
        obtain ⟨a, e, q⟩ := h2
        exact ⟨a, e, q.go g⟩
      | exc c => cases h; exact ExR.go g h2
      | excs l =>
        cases h
        obtain ⟨a, vs, e, h1, n1, q⟩ := h2
        exact ⟨a, vs, e, (g _ _ n1 h1).1, (g _ _ n1 h1).2, q.go g⟩
      | obj n =>
        have h : (if n < w.length then some (SV.obj n) else none) = some v := h
        by_cases c : n < w.length
        · rw [if_pos c] at h
          cases h
          obtain ⟨a, l, e, q⟩ := h2
          exact ⟨a, l, pre c e, q⟩
        · rw [if_neg c] at h; cases h
      | drg n =>
        have h : (if n < w.length then some (SV.drg n) else none) = some v := h
        by_cases c : n < w.length
        · rw [if_pos c] at h
          cases h
          obtain ⟨a, l, e, q⟩ := h2
          exact ⟨a, l, pre c e, q⟩
        · rw [if_neg c] at h; cases h
theorem dss_gc {body : List Stmt} {mb : Env → Mo Out} (hb : DSs X EA W body mb) : DSs X EA W body (mGc mb) := by
  obtain ⟨t, p, s⟩ := hb.ex
  refine ⟨t, p, fun ι w σ H ρ D R E h => s ι w σ H ρ D R E ?_⟩
  have cutS : ∀ {ι' w' H'}, Stp X.K ι w H ι' w' H' → Stp X.K ι w H ι (w'.take w.length) H' := fun {ι' w' H'} s => by
    have := s.cut
    rw [R.len] at this
    exact this
  unfold mGc at h
  cases q : mb ρ w with
  | none => rw [q] at h; exact h
  | some r =>
    obtain ⟨o, w'⟩ := r
    cases o with
    | err c fs => rw [q] at h; exact h
    | ok o =>
      simp only [q] at h
      cases o with
      | nx ρ' => exact fun ι' H' st σ' E' => (show OutP X D (.nx (trimE w.length ρ')) _ _ _ from h _ _ (cutS st)) σ' (E'.trim R st)
      | bk ρ' => exact fun ι' H' st σ' E' => (show OutP X D (.bk (trimE w.length ρ')) _ _ _ from h _ _ (cutS st)) σ' (E'.trim R st)
      | ct ρ' => exact fun ι' H' st σ' E' => (show OutP X D (.ct (trimE w.length ρ')) _ _ _ from h _ _ (cutS st)) σ' (E'.trim R st)
      | rt v => exact h
end
end EG


set_option Elab.async false
set_option linter.all false
set_option maxRecDepth 100000
set_option maxHeartbeats 4000000
namespace EG
open PySem PySem.Spec PyProof.Rows L2
section
variable {X : Cx} {K : PySem.W.Frag} {EA : EAt} {W : WX} {a b c e : Expr} {es : List Expr} {ma mb mc m : Env → Mo SV} {ml : Env → Mo (List SV)} {pos p : Pos} {x : Str}
/-! ### dict displays -/
theorem merge_new : ∀ {more acc : List (Key × V)}, ((acc ++ more).map (·.1)).Nodup → mergeK acc more = acc ++ more
  | [], acc, _ => by rw [List.append_nil]; rfl
  | (k, v) :: r, acc, h => by
    have hk : valV acc k = none := by
      unfold valV
      have : acc.find? (fun kv => decide (kv.1 = k)) = none := by
        rw [List.find?_eq_none]
        intro q hq z
        have z := of_decide_eq_true z
        rw [List.map_append, List.nodup_append] at h
        exact h.2.2 q.1 (List.mem_map_of_mem hq) k (by simp) z
      rw [this]
      rfl
    show mergeK (putK acc k v) r = _
    rw [putK_new v hk, merge_new (by simpa using h)]
    simp
structure DPs (X : Cx) (EA : EAt) (W : WX) (pos : Pos) (keys : List (Option Expr)) (values : List Expr) (ks : List Key) (m : Env → Mo (List SV)) : Prop where
  ex : ∃ trs, PPs X pos keys values trs ∧ ∀ ι w σ H ρ Q, SRel X.K ι w H → EnvR X.K ι (mz ι w) H σ ρ → Hyp X.K EA ι w H (m ρ w) (fun xs ι' w' H' => ∀ Vs, VsR X.K ι' (mz ι' w') H' Vs xs → Vs.length = ks.length → Q ((ks.zip Vs).map fun kv => (kV kv.1, kv.2)) H') (fun cls d H' => W cls d σ H') → tPairs trs σ H Q
theorem dps_nil : DPs X EA W pos [] [] [] mNil := ⟨_, pps_nil, fun ι w σ H ρ Q R E h => Hyp.here h R _ .nil rfl⟩
theorem dps_cons {k : Str} {j : Nat} {p2 : Pos} {v : Expr} {keys : List (Option Expr)} {values : List Expr} {ks : List Key} (hv : DE X EA W v m) (hr : DPs X EA W pos keys values ks ml) :
    DPs X EA W pos (some (.Constant (.str k) j p2) :: keys) (v :: values) (Sum.inr k :: ks) (mCons m ml) := by
  obtain ⟨t, q, s⟩ := hv.ex
  obtain ⟨trs, u, z⟩ := hr.ex
  refine ⟨_, pps_cons pe_str q u, fun ι w σ H ρ Q R E h => ?_⟩
  refine s ι w σ H ρ _ R E ((Hyp.bind h).imp fun y ι1 w1 H1 s1 h1 V1 r1 => ?_)
  refine z ι1 w1 σ H1 ρ _ s1.rel (E.stp s1) ((Hyp.bind h1).imp fun ys ι2 w2 H2 s2 h2 Vs rs hl => ?_)
  exact Hyp.here h2 s2.rel _ (.cons (r1.stp s2) rs) (congrArg (· + 1) hl)
def dspO (ks : List Key) (k : Nat) (xs : List SV) : Mo SV := fun w => match fzs xs w with
  | some (ds, w') => match w'[k]? with
    | some (.dic []) => some (.ok (.obj k), w'.set k (.dic (ks.zip ds)))
    | _ => none
  | none => none
def mDisp (ks : List Key) (m : Env → Mo (List SV)) : Env → Mo SV := fun ρ w => mBind (m ρ) (dspO ks w.length) (w ++ [.dic []])
theorem Stp.newDic {ι : List (List Addr)} {w : Sto} {H : Hp} {p : Addr} (r : SRel K ι w H) (hp : H p = none) : Stp K ι w H (ι ++ [[p]]) (w ++ [.dic []]) (upd H p (.dK [])) :=
  Stp.alloc r hp rfl fun M hM => ⟨p, [], rfl, upd_same, rfl, .nil⟩
theorem Stp.wDic {ι : List (List Addr)} {w : Sto} {H : Hp} {n : Nat} {q : Addr} {ds es : List (Key × PyData)} {us : List (Key × V)} (R : SRel K ι w H) (h1 : ι[n]? = some [q]) (h2 : w[n]? = some (.dic ds)) (hk : us.map (·.1) = es.map (·.1)) (h : ∀ M H', Go (mz ι w) H M H' → DtA K M H' (us.map (·.2)) (es.map (·.2))) :
    Stp K ι w H ι (w.set n (.dic es)) (upd H q (.dK us)) := by
  refine Stp.write R h1 h2 rfl (fun b x nb e => by rw [upd_ne (fun z => nb (by rw [z]; simp [footOf]))]; exact e) (fun _ _ _ => .inr True.intro) ?_
  exact ⟨q, us, rfl, upd_same, hk, h _ _ (Go.write (mem_mz h1 h2 (by simp [footOf])))⟩
theorem zip1 {α β : Type} : ∀ {l : List α} {r : List β}, l.length = r.length → (l.zip r).map (·.1) = l
  | [], _, _ => rfl
  | _ :: _, [], h => by simp at h
  | _ :: l, _ :: r, h => by simpa using zip1 (l := l) (r := r) (by simpa using h)
theorem zip2 {α β : Type} : ∀ {l : List α} {r : List β}, l.length = r.length → (l.zip r).map (·.2) = r
  | [], [], _ => rfl
  | [], _ :: _, h => by simp at h
  | _ :: _, [], h => by simp at h
  | _ :: l, _ :: r, h => by simpa using zip2 (l := l) (r := r) (by simpa using h)
theorem de_disp {keys : List (Option Expr)} {values : List Expr} {ks : List Key} (hm : DPs X EA W pos keys values ks ml) (hnd : ks.Nodup := by decide) (h15 : ks.length ≤ 15 := by decide) (hall : keys.all (·.isSome) = true := by rfl) (hl : keys.length = values.length := by rfl) (h0 : keys ≠ [] := by exact fun z => by cases z)
    (hk15 : keys.length ≤ 15 := by decide) : DE X EA W (.Dict keys values pos) (mDisp ks ml) := by
  obtain ⟨trs, u, z⟩ := hm.ex
  refine ⟨_, pe_disp u hall hl h0 hk15, fun ι w σ H ρ Q R E h p hp => ?_⟩
  have s0 := Stp.newDic R hp
  have hn : (ι ++ [[p]])[w.length]? = some [p] := by rw [← R.len, List.getElem?_append_right (Nat.le_refl _), Nat.sub_self]; rfl
  refine z _ _ σ _ ρ _ s0.rel (E.stp s0) ((Hyp.bind (h.on s0)).imp fun xs ι1 w1 H1 s1 h1 Vs rs hlen => ?_)
  unfold dspO at h1
  cases f : fzs xs w1 with
  | none => simp only [f] at h1; exact h1.elim
  | some q =>
    obtain ⟨ds, w2⟩ := q
    simp only [f] at h1
    obtain ⟨s2, q2⟩ := fzs_ok s1.rel rs f
    have hn1 : ι1[w.length]? = some [p] := by
      obtain ⟨t, rfl⟩ := s1.pre
      rw [List.getElem?_append_left (List.getElem?_eq_some_iff.mp hn).1]
      exact hn
    cases hw : w2[w.length]? with
    | none => simp only [hw] at h1; exact h1.elim
    | some o =>
      cases o with
      | dic kvs =>
        cases kvs with
        | nil =>
          simp only [hw] at h1
          obtain ⟨b, us, e1, e2, e3, e4⟩ := s2.rel.ok _ _ _ hn1 hw
          injection e1 with e1 _
          subst e1
          have hus : us = [] := by simpa using e3
          subst hus
          have k1 : (ks.zip Vs).map (·.1) = ks := zip1 hlen.symm
          have hd : ks.length = ds.length := by rw [← hlen, q2.length]
          refine ⟨e2, ks.zip Vs, rfl, by rw [List.length_zip]; omega, ?_⟩
          rw [merge_new (by rw [List.nil_append, k1]; exact hnd), List.nil_append]
          refine h1 _ _ (s2.trans (Stp.wDic s2.rel hn1 hw (by rw [k1, zip1 hd]) fun M H' g => ?_)) _ ⟨p, [], hn1, rfl⟩
          rw [zip2 hlen.symm, zip2 hd]
          exact q2.go g
        | cons _ _ => simp only [hw] at h1; exact h1.elim
      | _ => simp only [hw] at h1; exact h1.elim
/-- {} -/
def mDisp0 : Env → Mo SV := fun _ w => some (.ok (.obj w.length), w ++ [.dic []])
theorem de_disp0 : DE X EA W (.Dict [] [] pos) mDisp0 :=
  ⟨_, pe_dnewK, fun ι w σ H ρ Q R E h p hp => h _ _ (Stp.newDic R hp) _ (VRel.last R.len)⟩
end
end EG


set_option Elab.async false
set_option linter.all false
set_option maxRecDepth 100000
set_option maxHeartbeats 4000000
namespace EG
open PySem PySem.Spec PyProof.Rows L2
section
variable {X : Cx} {K : PySem.W.Frag} {EA : EAt} {W : WX} {a b c e : Expr} {es : List Expr} {ma mb mc m : Env → Mo SV} {ml : Env → Mo (List SV)} {pos p : Pos} {x : Str}
/-! ### what is drawn from -/
def gSpot : Op1 := fun x w => match x with
  | .obj n => match w[n]? with
    | some (.draw _ _ i) => some (.dat (.int i))
    | _ => none
  | _ => none
def gCells : Op1 := fun x w => match x with
  | .obj n => match w[n]? with
    | some (.draw cs _ _) => some (.dat (.list (cs.map .int)))
    | _ => none
  | _ => none
def gGreat : Op1 := fun x w => match x with
  | .obj n => match w[n]? with
    | some (.draw _ _ _) => some (.drg n)
    | _ => none
  | _ => none
theorem draw_at {ι : List (List Addr)} {w : Sto} {H : Hp} {n : Nat} {q : Addr} {l : List Addr} {cs gs : List Int} {i : Int} (R : SRel K ι w H) (h1 : ι[n]? = some (q :: l)) (h2 : w[n]? = some (.draw cs gs i)) :
    ∃ b c, l = [c] ∧ H q = some (.dK [(Sum.inr "cells", .ref b), (Sum.inr "great", .ref c), (Sum.inr "spot", .int i)]) ∧ (H b = some (.lst (cs.map V.int)) ∧ b ∉ mz ι w) ∧ H c = some (.lst (gs.map V.int)) := by
  obtain ⟨a, b, c, e1, e2, e3, e4⟩ := R.ok n _ _ h1 h2
  injection e1 with e1 e5
  subst e1
  exact ⟨b, c, e5, e2, e3, e4⟩
theorem de_dkG {k : Str} {j : Nat} {p2 : Pos} {g : Op1} (hu : X.A.units + 1 < cLine) (ha : DE X EA W a ma)
    (hg : ∀ ι w H q l n v, SRel X.K ι w H → ι[n]? = some (q :: l) → g (.obj n) w = some v → ∃ kvs V, H q = some (.dK kvs) ∧ valV kvs (Sum.inr k) = some V ∧ VRel X.K ι (mz ι w) H V v) (h0 : ∀ x w v, g x w = some v → ∃ n, x = .obj n) :
    DE X EA W (.Subscript a (.Constant (.str k) j p2) pos) (mUn ma g) := by
  obtain ⟨t, q, s⟩ := ha.ex
  refine ⟨_, pe_dget hu q pe_str (fun _ _ => rfl), fun ι w σ H ρ Q R E h => ?_⟩
  refine s ι w σ H ρ _ R E ((Hyp.bind h).imp fun y ι1 w1 H1 s1 h1 V rv => ?_)
  cases f : g y w1 with
  | none => rw [f] at h1; exact h1.elim
  | some v =>
    rw [f] at h1
    obtain ⟨n, rfl⟩ := h0 _ _ _ f
    obtain ⟨q, l, hn, rfl⟩ := rv
    obtain ⟨kvs, V, g1, g2, g3⟩ := hg _ _ _ _ _ _ _ s1.rel hn f
    refine ⟨q, V, rfl, ?_, h1 _ _ (Stp.refl s1.rel) _ g3⟩
    have := DGet.k (k := Sum.inr k) g1
    rw [g2] at this
    exact this
theorem de_spot {j : Nat} {p2 : Pos} (hu : X.A.units + 1 < cLine) (ha : DE X EA W a ma) : DE X EA W (.Subscript a (.Constant (.str "spot") j p2) pos) (mUn ma gSpot) := by
  refine de_dkG hu ha (fun ι w H q l n v R h1 e => ?_) fun x w v e => ?_
  · unfold gSpot at e
    cases hw : w[n]? with
    | none => simp only [hw] at e; cases e
    | some o =>
      cases o with
      | draw cs gs i =>
        simp only [hw] at e
        cases e
        obtain ⟨b, c, rfl, e1, e2, e3⟩ := draw_at R h1 hw
        exact ⟨_, _, e1, rfl, Dt.int _⟩
      | _ => simp only [hw] at e; cases e
  · cases x with
    | obj n => exact ⟨n, rfl⟩
    | _ => cases e
theorem de_cells {j : Nat} {p2 : Pos} (hu : X.A.units + 1 < cLine) (ha : DE X EA W a ma) : DE X EA W (.Subscript a (.Constant (.str "cells") j p2) pos) (mUn ma gCells) := by
  refine de_dkG hu ha (fun ι w H q l n v R h1 e => ?_) fun x w v e => ?_
  · unfold gCells at e
    cases hw : w[n]? with
    | none => simp only [hw] at e; cases e
    | some o =>
      cases o with
      | draw cs gs i =>
        simp only [hw] at e
        cases e
        obtain ⟨b, c, rfl, e1, e2, e3⟩ := draw_at R h1 hw
        exact ⟨_, _, e1, rfl, Dt.lst e2.1 e2.2 (DtA.ints cs)⟩
      | _ => simp only [hw] at e; cases e
  · cases x with
    | obj n => exact ⟨n, rfl⟩
    | _ => cases e
theorem de_great {j : Nat} {p2 : Pos} (hu : X.A.units + 1 < cLine) (ha : DE X EA W a ma) : DE X EA W (.Subscript a (.Constant (.str "great") j p2) pos) (mUn ma gGreat) := by
  refine de_dkG hu ha (fun ι w H q l n v R h1 e => ?_) fun x w v e => ?_
  · unfold gGreat at e
    cases hw : w[n]? with
    | none => simp only [hw] at e; cases e
    | some o =>
      cases o with
      | draw cs gs i =>
        simp only [hw] at e
        cases e
        obtain ⟨b, c, rfl, e1, e2, e3⟩ := draw_at R h1 hw
        exact ⟨_, _, e1, rfl, _, _, h1, rfl⟩
      | _ => simp only [hw] at e; cases e
  · cases x with
    | obj n => exact ⟨n, rfl⟩
    | _ => cases e
/-- m['spot'] = e -/
def mSpotS (ma me : Env → Mo SV) : Env → Mo Out := fun ρ => mBind (me ρ) fun y => mBind (ma ρ) fun x w => match x, y with
  | .obj n, .dat (.int i) => match w[n]? with
    | some (.draw cs gs _) => some (.ok (.nx ρ), w.set n (.draw cs gs i))
    | _ => none
  | _, _ => none
theorem ds_spot {j : Nat} {p2 p3 : Pos} (hu : X.A.units + 1 < cLine) (ha : DE X EA W a ma) (he : DE X EA W e m) (hs : swapsWith e (some (.Subscript a (.Constant (.str "spot") j p2) p3)) pos.line X.env = pure false := by rfl) :
    DS X EA W (.Assign [.Subscript a (.Constant (.str "spot") j p2) p3] e pos) (mSpotS ma m) := by
  obtain ⟨t, q, s⟩ := ha.ex
  obtain ⟨te, qe, se⟩ := he.ex
  refine ⟨_, ps_dput hu q pe_str qe hs, fun ι w σ H ρ D R E h => ?_⟩
  refine se ι w σ H ρ _ R E ((Hyp.bind (h.wE σ)).imp fun y ι1 w1 H1 s1 h1 V1 r1 => ?_)
  refine s ι1 w1 σ H1 ρ _ s1.rel (E.stp s1) ((Hyp.bind h1).imp fun x ι2 w2 H2 s2 h2 V2 r2 => ?_)
  have r1' := r1.stp s2
  cases x with
  | obj n =>
    cases y with
    | dat d =>
      cases d with
      | int i =>
        cases r1'
        obtain ⟨q, l, hn, rfl⟩ := r2
        simp only at h2
        cases hw : w2[n]? with
        | none => simp only [hw] at h2; exact h2.elim
        | some o =>
          cases o with
          | draw cs gs i0 =>
            simp only [hw] at h2
            obtain ⟨b, c, rfl, e1, e2, e3⟩ := draw_at s2.rel hn hw
            refine ⟨q, _, rfl, DPut.k (k := Sum.inr "spot") e1 (by rw [sizeLine_eq]; show 3 < _; decide), ?_⟩
            have qc : q ≠ c := fun z => by
              rw [z, e3] at e1
              cases e1
            have qb : b ≠ q := fun z => by
              rw [z, e1] at e2
              cases e2.1
            have s3 : Stp X.K ι2 w2 H2 ι2 (w2.set n (.draw cs gs i)) (upd H2 q (.dK (putK [(Sum.inr "cells", .ref b), (Sum.inr "great", .ref c), (Sum.inr "spot", .int i0)] (Sum.inr "spot") (.int i)))) := by
              refine Stp.write s2.rel hn hw rfl (fun b x nb e => by rw [upd_ne (fun z => nb (by rw [z]; simp [footOf]))]; exact e) (fun _ _ _ => .inr True.intro) ?_
              exact ⟨q, b, c, rfl, upd_same, ⟨by rw [upd_ne qb]; exact e2.1, e2.2⟩, by rw [upd_ne (Ne.symm qc)]; exact e3⟩
            exact (show OutP X D (.nx ρ) _ _ _ from h2 _ _ s3) σ (((E.stp s1).stp s2).stp s3)
          | _ => simp only [hw] at h2; exact h2.elim
      | _ => exact h2.elim
    | _ => exact h2.elim
  | _ => exact h2.elim
/-- lot[i] = e, lot the inner list -/
def mGreatS (me mo mi : Env → Mo SV) : Env → Mo Out := fun ρ => mBind (me ρ) fun y => mBind (mo ρ) fun x => mBind (mi ρ) fun i w => match x, i, y with
  | .drg n, .dat (.int k), .dat (.int v) => match w[n]? with
    | some (.draw cs gs s) => match ixN gs.length k with
      | some j => some (.ok (.nx ρ), w.set n (.draw cs (gs.set j v) s))
      | none => none
    | _ => none
  | _, _, _ => none
theorem ds_great {sp : Pos} (he : DE X EA W e m) (ho : DE X EA W a ma) (hi : DE X EA W b mb)
    (hb : ∀ v, assign (.Subscript a b sp) X.env v = (do
      let ov ← holding [v] (eval a X.env)
      let iv ← holding [v, ov] (eval b X.env)
      standAt sp
      holding [v, ov, iv] (setItem ov iv v)
      release [v, ov, iv] []) := by intro _; rfl)
    (hs : swapsWithSole [.Subscript a b sp] e pos.line X.env = pure false := by rfl) (hw : swappedStores [.Subscript a b sp] e X.env = pure none := by rfl)
    (h1 : (assignEach [.Subscript a b sp] X.env).map (·.2) = [assign (.Subscript a b sp) X.env] := by rfl) : DS X EA W (.Assign [.Subscript a b sp] e pos) (mGreatS m ma mb) := by
  obtain ⟨te, pe, se⟩ := he.ex
  obtain ⟨ta, pa, sa⟩ := ho.ex
  obtain ⟨tb, pb, sb⟩ := hi.ex
  refine ⟨_, ps_asg pe (pg_sub pa pb set_list hb) hs hw h1, fun ι w σ H ρ D R E h => ?_⟩
  refine se ι w σ H ρ _ R E ((Hyp.bind (h.wE σ)).imp fun y ι1 w1 H1 s1 h1 V1 r1 => ?_)
  refine sa ι1 w1 σ H1 ρ _ s1.rel (E.stp s1) ((Hyp.bind h1).imp fun x ι2 w2 H2 s2 h2 V2 r2 => ?_)
  refine sb ι2 w2 σ H2 ρ _ s2.rel ((E.stp s1).stp s2) ((Hyp.bind h2).imp fun i ι3 w3 H3 s3 h3 V3 r3 => ?_)
  have r1' := (r1.stp s2).stp s3
  have r2' := r2.stp s3
  cases x with
  | drg n =>
    cases i with
    | dat d =>
      cases d with
      | int k =>
        cases y with
        | dat d =>
          cases d with
          | int v =>
            cases r3
            cases r1'
            obtain ⟨q, c, hn, rfl⟩ := r2'
            simp only at h3
            cases hw4 : w3[n]? with
            | none => simp only [hw4] at h3; exact h3.elim
            | some o =>
              cases o with
              | draw cs gs i0 =>
                simp only [hw4] at h3
                cases hj : ixN gs.length k with
                | none => simp only [hj] at h3; exact h3.elim
                | some j =>
                  simp only [hj] at h3
                  obtain ⟨b, c', e0, e1, e2, e3⟩ := draw_at s3.rel hn hw4
                  injection e0 with e0 _
                  subst e0
                  refine ⟨_, _, _, j, rfl, rfl, e3, by rw [List.length_map]; exact hj, ?_⟩
                  have qc : q ≠ c := fun z => by
                    rw [z, e3] at e1
                    cases e1
                  have s5 : Stp X.K ι3 w3 H3 ι3 (w3.set n (.draw cs (gs.set j v) i0)) (upd H3 c (.lst ((gs.map V.int).set j (.int v)))) := by
                    refine Stp.write s3.rel hn hw4 rfl (fun b x nb e => by rw [upd_ne (fun z => nb (by rw [z]; simp [footOf]))]; exact e) (fun _ _ _ => .inr True.intro) ?_
                    have bc : b ≠ c := fun z => e2.2 (by rw [z]; exact mem_mz hn hw4 (by simp [footOf]))
                    exact ⟨q, b, c, rfl, by rw [upd_ne qc]; exact e1, ⟨by rw [upd_ne bc]; exact e2.1, e2.2⟩, by rw [upd_same, List.map_set]⟩
                  exact (show OutP X D (.nx ρ) _ _ _ from h3 _ _ s5) σ ((((E.stp s1).stp s2).stp s3).stp s5)
              | _ => simp only [hw4] at h3; exact h3.elim
          | _ => exact h3.elim
        | _ => exact h3.elim
      | _ => exact h3.elim
    | _ => exact h3.elim
  | _ => exact h3.elim
/-- two objects of the store become one -/
theorem Stp.join {ι : List (List Addr)} {w : Sto} {H H1 : Hp} {k j : Nat} {p q : Addr} {o1 o2 u : SO} (R : SRel K ι w H) (k1 : ι[k]? = some [p]) (k2 : w[k]? = some o1) (kf : footOf [p] o1 = [p]) (j1 : ι[j]? = some [q]) (j2 : w[j]? = some o2) (jf : footOf [q] o2 = [q]) (kj : k ≠ j)
    (uf : footOf [p, q] u = [p, q]) (st : ∀ b, b ≠ p → b ≠ q → H1 b = H b) (ok : SOk K (mz ((ι ++ [[p, q]]) ) (((w.set k .dead).set j .dead) ++ [u])) H1 [p, q] u) :
    Stp K ι w H (ι ++ [[p, q]]) (((w.set k .dead).set j .dead) ++ [u]) H1 := by
  have s1 := Stp.kill R k
  have j2' : (w.set k .dead)[j]? = some o2 := by rw [List.getElem?_set_ne kj]; exact j2
  have s2 := Stp.kill s1.rel j
  have em : mz (ι ++ [[p, q]]) (((w.set k .dead).set j .dead) ++ [u]) = mz ι ((w.set k .dead).set j .dead) ++ [p, q] := by
    rw [mz_app s2.rel.len]
    show mz ι ((w.set k .dead).set j .dead) ++ (footOf [p, q] u ++ mz [] []) = _
    rw [uf]
    rfl
  have np1 : p ∉ mz ι (w.set k .dead) := gone R k1 k2 (by rw [kf]; simp)
  have nq : q ∉ mz ι ((w.set k .dead).set j .dead) := gone s1.rel j1 j2' (by rw [jf]; simp)
  have np : p ∉ mz ι ((w.set k .dead).set j .dead) := fun z => np1 (mz_dead.subset z)
  have pM : p ∈ mz ι w := mem_mz k1 k2 (by rw [kf]; simp)
  have qM : q ∈ mz ι w := mem_mz j1 j2 (by rw [jf]; simp)
  have pq : p ≠ q := fun z => kj (mz_apart R.nd (b := p) k1 k2 (by rw [kf]; simp) j1 j2 (by rw [jf, z]; simp))
  have sub : ∀ b, b ∈ mz ι ((w.set k .dead).set j .dead) → b ∈ mz ι w := fun b hb => mz_dead.subset (mz_dead.subset hb)
  have sub2 : ∀ b, b ∈ mz (ι ++ [[p, q]]) (((w.set k .dead).set j .dead) ++ [u]) → b ∈ mz ι w := fun b hb => by
    rw [em] at hb
    rcases List.mem_append.mp hb with z | z
    · exact sub b z
    · have z : b = p ∨ b = q := by simpa using z
      rcases z with z | z
      · rw [z]; exact pM
      · rw [z]; exact qM
  have st' : ∀ b, b ∉ mz ι w → H1 b = H b := fun b hb => st b (fun z => hb (by rw [z]; exact pM)) (fun z => hb (by rw [z]; exact qM))
  have g : Go (mz ι w) H (mz (ι ++ [[p, q]]) (((w.set k .dead).set j .dead) ++ [u])) H1 := fun b x n e => ⟨by rw [st' b n]; exact e, fun z => n (sub2 b z)⟩
  have g2 : Go (mz ι ((w.set k .dead).set j .dead)) H (mz (ι ++ [[p, q]]) (((w.set k .dead).set j .dead) ++ [u])) H1 ∨ True := .inr True.intro
  refine ⟨List.prefix_append _ _, g, ⟨by simp [s2.rel.len, R.len], fun n l x h1 h2 => ?_, ?_⟩⟩
  · by_cases hn : n < ι.length
    · rw [List.getElem?_append_left hn] at h1
      rw [List.getElem?_append_left (by rw [← s2.rel.len]; exact hn)] at h2
      by_cases hk : n = k
      · subst hk
        rw [List.getElem?_set_ne (Ne.symm kj), List.getElem?_set_self (List.getElem?_eq_some_iff.mp k2).1] at h2
        cases h2
        exact True.intro
      · by_cases hj : n = j
        · subst hj
          rw [List.getElem?_set_self (by rw [List.length_set]; exact (List.getElem?_eq_some_iff.mp j2).1)] at h2
          cases h2
          exact True.intro
        · rw [List.getElem?_set_ne (Ne.symm hj), List.getElem?_set_ne (Ne.symm hk)] at h2
          refine (R.ok n l x h1 h2).go g fun b hb => st b (fun z => ?_) fun z => ?_
          · exact hk (mz_apart R.nd h1 h2 hb k1 k2 (by rw [kf, z]; simp))
          · exact hj (mz_apart R.nd h1 h2 hb j1 j2 (by rw [jf, z]; simp))
    · have hlt : n < (ι ++ [[p, q]]).length := (List.getElem?_eq_some_iff.mp h1).1
      rw [List.length_append, List.length_singleton] at hlt
      have e : n = ι.length := by omega
      subst e
      rw [List.getElem?_append_right (Nat.le_refl _), Nat.sub_self] at h1
      rw [List.getElem?_append_right (by rw [s2.rel.len]; exact Nat.le_refl _), s2.rel.len, Nat.sub_self] at h2
      cases (Option.some.inj h1)
      cases (Option.some.inj h2)
      exact ok
  · rw [em, List.nodup_append]
    refine ⟨s2.rel.nd, by simp [pq], fun a ha b hb z => ?_⟩
    have hb : b = p ∨ b = q := by simpa using hb
    rcases hb with e | e
    · exact np (by rw [← e, ← z]; exact ha)
    · exact nq (by rw [← e, ← z]; exact ha)
def intsD : List PyData → Option (List Int)
  | [] => some []
  | .int i :: r => (intsD r).map (i :: ·)
  | _ :: _ => none
theorem intsD_eq : ∀ {ds : List PyData} {ns : List Int}, intsD ds = some ns → ds = ns.map .int
  | [], ns, h => by cases h; rfl
  | d :: r, ns, h => by
    cases d with
    | int i =>
      unfold intsD at h
      cases q : intsD r with
      | none => rw [q] at h; cases h
      | some ms =>
        rw [q] at h
        cases h
        rw [intsD_eq q]
        rfl
    | _ => cases h
/-- m['great'] = e, m a dict that is being made a draw; m is the slot i -/
def begO (i k j : Nat) (ρ : Env) : Mo Out := fun w => match w[k]?, w[j]? with
  | some (.dic [(Sum.inr a, .list cs), (Sum.inr b, _), (Sum.inr c, .int s)]), some (.lst gs) => if a = "cells" ∧ b = "great" ∧ c = "spot" ∧ k ≠ j then match intsD cs, intsD gs with
    | some cs', some gs' => some (.ok (.nx (ρ.set i (some (.obj w.length)))), ((w.set k .dead).set j .dead) ++ [.draw cs' gs' s])
    | _, _ => none
    else none
  | _, _ => none
def mBeg (i : Nat) (me : Env → Mo SV) : Env → Mo Out := fun ρ => mBind (me ρ) fun v => match v, ρ[i]? with
  | .obj j, some (some (.obj k)) => begO i k j ρ
  | _, _ => mFail
theorem ds_beg {i j0 : Nat} {x : Str} {p1 p2 p3 : Pos} (hu : X.A.units + 1 < cLine) (he : DE X EA W e m) (hN : X.N[i]? = some x := by rfl) (hv : Vis X.env.scope x := by first | exact Or.inl rfl | exact Or.inr (Or.inl rfl) | exact Or.inr (Or.inr rfl)) (hd : (x == ("__debug__" : Str)) = false := by decide) (hcd : (x == ("__classdict__" : Str)) = false := by decide)
    (hs : swapsWith e (some (.Subscript (.Name x p1) (.Constant (.str "great") j0 p2) p3)) pos.line X.env = pure false := by rfl) :
    DS X EA W (.Assign [.Subscript (.Name x p1) (.Constant (.str "great") j0 p2) p3] e pos) (mBeg i m) := by
  obtain ⟨te, qe, se⟩ := he.ex
  refine ⟨_, ps_dput hu (pv i hN hv hd hcd) pe_str qe hs, fun ι w σ H ρ D R E h => ?_⟩
  refine se ι w σ H ρ _ R E ((Hyp.bind (h.wE σ)).imp fun y ι1 w1 H1 s1 h1 V1 r1 => ?_)
  have E1 := E.stp s1
  cases y with
  | obj j =>
    cases hi : ρ[i]? with
    | none => simp only [hi] at h1; exact h1.elim
    | some x =>
      cases x with
      | none => simp only [hi] at h1; exact h1.elim
      | some x =>
        cases x with
        | obj k =>
          simp only [hi] at h1
          have R2 := s1.rel
          obtain ⟨V2, sp, r2⟩ := E1.2 i _ hi
          refine ⟨V2, sp, ?_⟩
          obtain ⟨p, lp, kp, rfl⟩ := r2
          obtain ⟨q, lq, jq, rfl⟩ := r1
          unfold begO at h1
          split at h1
          · rename_i a cs b z c s gs hk hj
            by_cases cc : a = "cells" ∧ b = "great" ∧ c = "spot" ∧ k ≠ j
            · rw [if_pos cc] at h1
              obtain ⟨rfl, rfl, rfl, kj⟩ := cc
              cases f1 : intsD cs with
              | none => simp only [f1] at h1; exact h1.elim
              | some cs' =>
                cases f2 : intsD gs with
                | none => simp only [f1, f2] at h1; exact h1.elim
                | some gs' =>
                  simp only [f1, f2] at h1
                  obtain rfl := intsD_eq f1
                  obtain rfl := intsD_eq f2
                  obtain ⟨p', kvs, e1, e2, e3, e4⟩ := R2.ok _ _ _ kp hk
                  injection e1 with e1 e1'
                  subst e1 e1'
                  obtain ⟨rfl, us, e5, e6⟩ := lst_at R2 jq hj
                  have e7 := DtA.of_ints e6
                  subst e7
                  match kvs, e3, e4 with
                  | [(a1, v1), (a2, v2), (a3, v3)], e3, .cons t1 (.cons t2 (.cons t3 .nil)) =>
                    have e3 : a1 = (Sum.inr ("cells" : Str) : Key) ∧ a2 = (Sum.inr ("great" : Str) : Key) ∧ a3 = (Sum.inr ("spot" : Str) : Key) := by simpa using e3
                    obtain ⟨rfl, rfl, rfl⟩ := e3
                    cases t3
                    cases t1 with
                    | @lst ba us _ hb nb qb =>
                      have e8 := DtA.of_ints qb
                      subst e8
                      refine ⟨p, _, rfl, DPut.k (k := Sum.inr "great") e2 (by rw [sizeLine_eq]; show 3 < _; decide), ?_⟩
                      have pM : p ∈ mz ι1 w1 := mem_mz kp hk (by simp [footOf])
                      have qM : q ∈ mz ι1 w1 := mem_mz jq hj (by simp [footOf])
                      have qp : q ≠ p := fun z => by
                        rw [z, e2] at e5
                        cases e5
                      have bp : ba ≠ p := fun z => nb (by rw [z]; exact pM)
                      have s3 : Stp X.K ι1 w1 H1 (ι1 ++ [[p, q]]) (((w1.set k .dead).set j .dead) ++ [.draw cs' gs' s]) (upd H1 p (.dK (putK [((Sum.inr ("cells" : Str) : Key), V.ref ba), (Sum.inr ("great" : Str), v2), (Sum.inr ("spot" : Str), V.int s)] (Sum.inr ("great" : Str)) (V.ref q)))) := by
                        refine Stp.join R2 kp hk rfl jq hj rfl kj rfl (fun b n _ => upd_ne n) ?_
                        refine ⟨p, ba, q, rfl, upd_same, ⟨by rw [upd_ne bp]; exact hb, fun z => nb ?_⟩, by rw [upd_ne qp]; exact e5⟩
                        have sk := Stp.kill R2 k
                        rw [mz_app (by simp [R2.len])] at z
                        rcases List.mem_append.mp z with z | z
                        · exact mz_dead.subset (mz_dead.subset z)
                        · have z : ba = p ∨ ba = q := by simpa [mz, footOf] using z
                          rcases z with z | z
                          · exact absurd z bp
                          · rw [z]; exact qM
                      have hw : w1.length = (((w1.set k .dead).set j .dead)).length := by simp
                      refine (show OutP X D (.nx (ρ.set i (some (.obj w1.length)))) _ _ _ from h1 _ _ s3) σ ?_
                      have E3 := E1.stp s3
                      have hV : VRel X.K (ι1 ++ [[p, q]]) (mz (ι1 ++ [[p, q]]) (((w1.set k .dead).set j .dead) ++ [.draw cs' gs' s])) (upd H1 p (.dK (putK [((Sum.inr ("cells" : Str) : Key), V.ref ba), (Sum.inr ("great" : Str), v2), (Sum.inr ("spot" : Str), V.int s)] (Sum.inr ("great" : Str)) (V.ref q)))) (.ref p) (.obj w1.length) :=
                        ⟨p, [q], by rw [← R2.len, List.getElem?_append_right (Nat.le_refl _), Nat.sub_self]; rfl, rfl⟩
                      have := E3.set (i := i) hV
                      have es : σ.set i (some (V.ref p)) = σ := by
                        obtain ⟨hl, e⟩ := List.getElem?_eq_some_iff.mp sp
                        rw [← e, List.set_getElem_self]
                      rw [es] at this
                      exact this
            · rw [if_neg cc] at h1; exact h1.elim
          · exact h1.elim
        | _ => simp only [hi] at h1; exact h1.elim
  | _ => exact h1.elim
end
end EG


set_option Elab.async false
set_option linter.all false
set_option maxRecDepth 100000
set_option maxHeartbeats 4000000
namespace EG
open PySem PySem.Spec PyProof.Rows L2
/-! ### own exceptions over any built-in class -/
structure EC (K : PySem.W.Frag) (C : Addr) (B newId initId : String) (bmB : List Value) : Prop where
  F : ExcBaseFacts B newId initId bmB
  SF : StoreFacts B bmB "object.__setattr__" "object"
  q : PySem.W.excInitIn K C bmB newId = true
  ov : PySem.W.excOver K C bmB = true
  hd : PySem.W.hasDictIn K C = true
  sa : PySem.W.findIn K (.ref C) "__setattr__" = some (some (.builtin "object.__setattr__"))
  kC : PySem.W.keepIn K (.ref C) = true
section
variable {X : Cx} {pins : List (Addr × Obj)} {σ : L2.St} {H : Hp} {s : Shared} {a C dx : Addr} {f : Str} {y : V} {u : Value} {fs : List (Str × V)} {Q : Unit → Shared → Prop} {E : Value → Shared → Prop} {A : Around} {B newId initId : String} {bmB : List Value}
theorem inst_of (I : Inv X pins σ H s) {d : Option Addr} (e : H a = some (exo a C d)) (od : Option Obj) (h : match d with | none => od = none | some x => ∃ o, od = some o ∧ s.heap.get? x = some o) : ∃ ox, PySem.W.InstAt s.heap a ox C od ∧ ∃ t1 : Addr, ox = { cls := .ref C, dict := d, data := .fields #[.ref t1, .none, .none, .none, .bool false, .none] } := by
  obtain ⟨t1, ho⟩ := exo_at I.hok e
  refine ⟨_, ⟨ho, rfl, rfl, ?_⟩, t1, rfl⟩
  cases d with
  | none => subst h; trivial
  | some x =>
    obtain ⟨o, rfl, h⟩ := h
    exact h
/-- self.f = y, the first one: the dict comes up -/
theorem gst_new (T : EC X.K C B newId initId bmB) (I : Inv X pins σ H s) (e : H a = some (exo a C none)) (hno : PySem.W.takerIn X.K C f = some none) (ry : RelV y u)
    (h : ∀ dx s', H dx = none → dx ≠ a → Inv X pins σ (upd (upd H dx (exd dx [(f, y)])) a (exo a C (some dx))) s' → Q () s') : wpAny (model X.prog X.w) A (setAttr (.ref a) f u) Q E s := by
  obtain ⟨ox, J, t1, rfl⟩ := inst_of I e none rfl
  obtain ⟨cd, hc, hd'⟩ := PySem.W.any_some T.hd
  obtain ⟨hp, g, d, t, os⟩ := s
  have ho := J.1
  refine PySem.W.set_plain I.kIn J T.sa (PySem.W.osa_openX T.SF I.kIn J T.ov hno fun b => ?_)
  refine wpAny_bind (wpAny_pure (wpAny_bind (PySem.W.instanceDict_exc ho (PySem.W.looks_clsIn I.kIn hc) hd' ?_)))
  have hxs : a ≠ hp.objs.size := Nat.ne_of_lt (Heap.lt_size ho)
  refine PySem.HandSPX.store_in_new ?_ fun h' tk' hn hs => ?_
  · exact ⟨_, #[], _, (Heap.get?_update_ne _ _ _ _ hxs.symm).trans (Heap.get?_push_at rfl rfl), rfl, fun e he => absurd he (by simp), fun _ => rfl⟩
  · have dn : hp.objs.size ≤ hp.objs.size := Nat.le_refl _
    have hnd : H hp.objs.size = none := I.hok.fresh dn
    have k : ∀ b o, b ≠ a → hp.get? b = some o → h'.get? b = some o := fun b o hb q => (hs.2 b (Nat.ne_of_lt (Heap.lt_size q))).trans ((Heap.get?_update_ne _ _ _ _ hb).trans (Heap.get?_push_of_some _ q))
    have hx : h'.get? a = some ({ cls := .ref C, dict := some hp.objs.size, data := .fields #[.ref t1, .none, .none, .none, .bool false, .none] } : Obj) := (hs.2 a hxs).trans (Heap.get?_update_self _ (Heap.get?_push_of_some _ ho) rfl)
    have nd : ∀ {b : Addr} {o : Obj}, hp.get? b = some o → b ≠ hp.objs.size := fun {b o} q => Nat.ne_of_lt (Heap.lt_size q)
    have na : ∀ {b : Addr}, H b = none → b ≠ a := fun {b} n z => by rw [z, e] at n; cases n
    refine h hp.objs.size _ hnd hxs.symm (I.un (t' := tk') (H' := upd (upd H hp.objs.size (exd hp.objs.size [(f, y)])) a (exo a C (some hp.objs.size))) ?un fun b o q => ?ok)
    case un => exact {
      keep := fun b o q n _ _ => k b o (na n) q
      slot := fun b o q n _ _ => ⟨o.slots, k b o (na n) q⟩
      free := fun b o q n _ => by rw [upd_ne (na n), upd_ne (nd q)]; exact n
      there := fun b o q _ => by
        by_cases hb : b = a
        · exact ⟨_, by rw [hb]; exact hx⟩
        · exact ⟨o, k b o hb q⟩
      tups := fun b xs q => by rw [upd_ne (at_ne e q exo_tup), upd_ne (ne_of_none q hnd)]; exact q
      frzs := fun b o v q => by rw [upd_ne (at_ne e q exo_frz), upd_ne (ne_of_none q hnd)]; exact q
      tbls := fun b ps q => ⟨#[], by rw [upd_ne (at_ne e q exo_tbl), upd_ne (ne_of_none q hnd), q]; simp⟩ }
    case ok =>
      by_cases hb : b = a
      · subst hb
        rw [upd_same] at q
        cases q
        exact exo_ok hx
      · rw [upd_ne hb] at q
        by_cases hd : b = hp.objs.size
        · subst hd
          rw [upd_same] at q
          cases q
          exact exd_ok hn (relO_put (fs := []) ry fun g => True.intro)
        · rw [upd_ne hd] at q
          have ne1 : ∀ c v, (c = b ∨ H c = some (.own b)) → hp.get? c = some v → h'.get? c = some v := fun c v hc z => k c v (by
            rcases hc with rfl | hc
            · exact hb
            · exact at_ne e hc exo_own) z
          exact (I.hok b o q).stay ne1 (fun c hc => by rw [upd_ne (at_ne e hc exo_own), upd_ne (ne_of_none hc hnd)]; exact hc) (fun c xs hc => by rw [upd_ne (at_ne e hc exo_tup), upd_ne (ne_of_none hc hnd)]; exact hc)
/-- self.f = y, a further one -/
theorem gst_old (T : EC X.K C B newId initId bmB) (I : Inv X pins σ H s) (e : H a = some (exo a C (some dx))) (ed : H dx = some (exd dx fs)) (hl : fs.length ≤ 900) (hno : PySem.W.takerIn X.K C f = some none) (ry : RelV y u)
    (h : ∀ s', Inv X pins σ (upd H dx (exd dx ((f, y) :: fs))) s' → Q () s') : wpAny (model X.prog X.w) A (setAttr (.ref a) f u) Q E s := by
  obtain ⟨mA, hns, rel⟩ := exd_at I.hok ed
  have hw := within_of rel
  obtain ⟨oD, _, _, hoD, _, _⟩ := hns.count hw
  obtain ⟨ox, J, t1, rfl⟩ := inst_of I e (some oD) ⟨oD, rfl, hoD⟩
  obtain ⟨cd, hc, hd'⟩ := PySem.W.any_some T.hd
  obtain ⟨hp, g, d, t, os⟩ := s
  refine PySem.W.set_plain I.kIn J T.sa (PySem.W.osa_openX T.SF I.kIn J T.ov hno fun b => ?_)
  have Lc : PySem.W.Looks (model X.prog X.w) hp (classData C) cd := PySem.W.looks_clsIn I.kIn hc
  refine wpAny_bind (wpAny_pure (wpAny_bind (wpAny_bind (wpAny_loadPart J.1 (wpAny_bind (Lc.at ?_))))))
  rw [hd']
  refine wpAny_pure (a := some dx) ?_
  refine PySem.OEX.store_in_old hns hw (by rw [List.length_map]; omega) fun h' tk' hn hs => ?_
  have hd : ∃ o, h'.get? dx = some o := by
    obtain ⟨o, _, _, e', _⟩ := hn
    exact ⟨o, e'⟩
  have k : ∀ b o, b ≠ dx → hp.get? b = some o → h'.get? b = some o := fun b o hb q => (hs.2 b hb).trans q
  exact h _ (I.write (t' := tk') (x := dx) (e := dx) (o := exd dx ((f, y) :: fs)) (by rw [ed]; exact True.intro) (.inl rfl) k hd (exd_ok hn (relO_put ry rel)))
/-- B.__init__(self, ..) -/
theorem gini {us : List Value} {Q : Value → Shared → Prop} (T : EC X.K C B newId initId bmB) (I : Inv X pins σ H s) (e : H a = some (exo a C none)) (hl : us.length ≤ sizeLine) (h : ∀ s', Inv X pins σ H s' → Q .none s') :
    wpAny (model X.prog X.w) A (call (.builtin initId) (.ref a :: us)) Q E s := by
  obtain ⟨nm, N', qn, bs, bm, hdct, sn, sub, ab, col, dd, k0, k1, k2, k3, k5, hC, hT⟩ := PySem.W.excInit_of I.kIn T.q
  obtain ⟨t1, ho⟩ := exo_at I.hok e
  obtain ⟨hp, g, d, t, os⟩ := s
  refine wpAny_call (PySem.HandSPX.init_base T.F hT hC ho hl fun h' t2 k hx => ?_)
  have eu : upd H a (exo a C none) = H := by
    funext b
    by_cases hb : b = a
    · rw [hb, upd_same, e]
    · rw [upd_ne hb]
  have J := I.write (t' := t) (x := a) (e := a) (o := exo a C none) (by rw [e]; exact True.intro) (.inl rfl) k ⟨_, hx⟩ (exo_ok hx)
  rw [eu] at J
  exact h _ J
end
end EG


set_option Elab.async false
set_option linter.all false
set_option maxRecDepth 100000
set_option maxHeartbeats 4000000
namespace EG
open PySem PySem.Spec PyProof.Rows L2
/-! ### B.__init__(self, ..), self.f = e -/
def tGin (K : PySem.W.Frag) (B newId initId : String) (bmB : List Value) (ta : TA) : TE := fun σ H Q => ta σ H fun vs H1 => ∃ (a C : Addr) (ws : List V), vs = .ref a :: ws ∧ ws.length ≤ 1000 ∧ EC K C B newId initId bmB ∧ H1 a = some (exo a C none) ∧ Q .non H1
def tGst (K : PySem.W.Frag) (B newId initId : String) (bmB : List Value) (f : Str) (to te : TE) : TS := fun D σ H => te σ H fun y H1 => to σ H1 fun x H2 => ∃ a C : Addr, x = .ref a ∧ EC K C B newId initId bmB ∧ PySem.W.takerIn K C f = some none ∧
  ((H2 a = some (exo a C none) ∧ ∀ dx, H2 dx = none → dx ≠ a → D.nx σ (upd (upd H2 dx (exd dx [(f, y)])) a (exo a C (some dx)))) ∨
    ∃ (dx : Addr) (fs : List (Str × V)), H2 a = some (exo a C (some dx)) ∧ H2 dx = some (exd dx fs) ∧ fs.length ≤ 900 ∧ D.nx σ (upd H2 dx (exd dx ((f, y) :: fs))))
/-- the class of whose __init__ is asked: an own one, a built-in one -/
inductive MI (X : Cx) (initId : String) (x : Str) : Prop
  | own (CW : Addr) (hm : X.mg x = some (.ref CW)) (rd : PySem.W.readsIn X.K CW (.type "type") = true) (ga : PySem.W.specialIn X.K (.ref CW) "__getattribute__" = some (some (.builtin "type.__getattribute__"))) (fi : PySem.W.findCls X.K (.ref CW) (.type "type") "__init__" = some (.val (.builtin initId)))
  | blt (T : String) (hm : X.mg x = none) (hb : bootBuiltins x = some (.type T)) (hx : x ≠ "__name__") (ty : typeOf (.type T) = pure (.type "type")) (st : Manifest.isStub T = false) (fi : PySem.W.findCls X.K (.type T) (.type "type") "__init__" = some (.val (.builtin initId)))
section
variable {X : Cx} {e o : Expr} {es : List Expr} {to te : TE} {ta : TA} {f x : Str} {p p' p1 p2 pos : Pos} {B newId initId : String} {bmB : List Value}
theorem pe_gin {pl : Sem Bool} (M : MI X initId x) (hi : PySem.W.handedIn (.builtin initId) = true) (hg : Gl X x) (ha : PA X (e :: es) ta) (hdb : (x == ("__debug__" : Str)) = false := by decide)
    (hc : eval (.Call (.Attribute (.Name x p1) "__init__" p2) (e :: es) [] pos) X.env = (do
      let ov ← eval (.Name x p1) X.env
      standAt p2.atName
      let (f, first) ← holding [ov] (getMethod ov "__init__" pl)
      callWith pos f first (backTo pos (starEach (e :: es) X.env)) (backToKw pos (keywordEach [] X.env))) := by rfl)
    (he : starEach (e :: es) X.env = (false, eval e X.env) :: starEach es X.env := by rfl) (hpl : (backTo pos (starEach es X.env)).any (·.1) = false := by rfl) :
    PE X (.Call (.Attribute (.Name x p1) "__init__" p2) (e :: es) [] pos) (tGin X.K B newId initId bmB ta) := by
  refine ⟨fun pins s σ H Q I h => ?_⟩
  have fin : ∀ s2 : Shared, Inv X pins σ H s2 → wpAny (model X.prog X.w) X.A (callWith pos (Value.builtin initId) [] (backTo pos (starEach (e :: es) X.env)) []) (EP X pins σ Q) X.xe s2 := fun s2 I2 => by
    refine PyProof.Rows.callWith_method1 (thn (ha.run pos pins _ σ H _ I2 h) fun us s1 ⟨vs, H1, I1, r1, a, C, ws, ev, hl, T, ea, q⟩ => ?_) he hpl
    subst ev
    cases r1 with
    | @cons _ u0 _ ur ra rw' =>
      obtain rfl : u0 = Value.ref a := ra
      have hlen : ur.length ≤ sizeLine := by
        rw [← Paired.length rw', sizeLine_eq]
        omega
      exact gini T I1 ea hlen fun s' J => ⟨.non, H1, J, rfl, q⟩
  cases M with
  | own CW hm rd ga fi =>
    refine PySem.W.methodCall_KW (ld_glob I hg hm ?_ hdb) hc
    refine PySem.W.method_cls I.kIn ga (PySem.W.cls_value I.kIn rd fi hi ?_)
    exact fin _ (I.tok _)
  | blt T hm hb hx ty st fi =>
    refine PySem.W.methodCall_KW (ld_blt I hg hm hb ?_ hx hdb) hc
    obtain ⟨m, fr⟩ := I.fr
    refine PySem.W.method_type fr I.ok.mod.kin ty st fi hi ?_
    exact fin _ (I.tok _)
theorem ps_gst (ho : PE X o to) (he : PE X e te) (hs : swapsWith e (some (.Attribute o f p')) pos.line X.env = pure false := by rfl) : PS X (.Assign [.Attribute o f p'] e pos) (tGst X.K B newId initId bmB f to te) := by
  refine ⟨fun pins s σ H D I h => ?_⟩
  refine plainObj_wpAny_Assign_Attribute (thn (he.run pins s σ H _ I h) fun v s1 ⟨y, H1, I1, r1, q1⟩ => thn (ho.run pins s1 σ H1 _ I1 q1) fun u s2 ⟨x, H2, I2, r2, a, C, ex, T, hno, q⟩ => ?_) hs
  subst ex
  obtain rfl : u = Value.ref a := r2
  rcases q with ⟨ea, q⟩ | ⟨dx, fs, ea, ed, hl, q⟩
  · exact gst_new T I2 ea hno r1 fun dx s' n ne J => ⟨σ, _, J, q dx n ne⟩
  · exact gst_old T I2 ea ed hl hno r1 fun s' J => ⟨σ, _, J, q⟩
end
/-! ### such an __init__ -/
/-- self gets a dict with these fields; nothing else changes -/
def spIni (C : Addr) (flds : List Str) : Sp := fun vs H Q _ => ∃ (a : Addr) (ws : List V), vs = .ref a :: ws ∧ ws.length = flds.length ∧ H a = some (exo a C none) ∧
  ∀ dx H', H dx = none → dx ≠ a → H' a = some (exo a C (some dx)) → H' dx = some (exd dx (flds.zip ws).reverse) → (∀ b, b ≠ a → b ≠ dx → H' b = H b) → Q .non H'
section
variable {P : Program} {w : World} {K : PySem.W.Frag} {mg : Str → Option Value} {base : Heap} {B newId initId : String} {bmB : List Value} {k : Nat} {f C : Addr} {x qual cn fl fl2 pn pn2 tx : Str} {st : Stmt} {fd : FuncData} {p1 p2 p3 p4 p5 p6 q1 q2 q3 q4 r1 r2 r3 r4 : Pos} {j : Nat}
theorem ini1 (T : EC K C B newId initId bmB) (ht : PySem.W.takerIn K C fl = some none) (hi : PySem.W.handedIn (.builtin initId) = true) (F : Fun K x qual st f fd) (S : FnScope ["self", pn] ["self", pn] (defScope st))
    (hb : defBody st = [.Expr (.Call (.Attribute (.Name cn p1) "__init__" p2) [.Name "self" p3, .Constant (.str tx) j p4] [] p5) p6, .Assign [.Attribute (.Name "self" q1) fl q2] (.Name pn q3) q4])
    (hgin : ∀ (cdv : Value) (A : Around) (outer : List PySem.Env) (s : Shared) (H : Hp) (E : XK), PS (cxOf (L2.CX P w) P w K mg base ["self", pn] qual (defScope st) f cdv A outer s H E) (.Expr (.Call (.Attribute (.Name cn p1) "__init__" p2) [.Name "self" p3, .Constant (.str tx) j p4] [] p5) p6) (tDrop (tGin K B newId initId bmB (tCons (tVar 0) (tCons (tC (.str tx)) tNil)))))
    (hst : ∀ (cdv : Value) (A : Around) (outer : List PySem.Env) (s : Shared) (H : Hp) (E : XK), PS (cxOf (L2.CX P w) P w K mg base ["self", pn] qual (defScope st) f cdv A outer s H E) (.Assign [.Attribute (.Name "self" q1) fl q2] (.Name pn q3) q4) (tGst K B newId initId bmB fl (tVar 0) (tVar 1))) : FnG P w K mg base (k + 1) f fd ["self", pn] (spIni C [fl]) := by
  refine fnG_of F S (fun vs H Q E h => ?_) fun cdv A outer s H vs Q E hg hr h => ?_
  · obtain ⟨a, ws, rfl, hl, _⟩ := h
    simpa using hl
  obtain ⟨a, ws, rfl, hl, ea, h⟩ := h
  match ws, hl with
  | [v], _ =>
    rw [hb]
    refine ⟨_, pss_cons (hgin cdv A outer s H E) (pss_one (hst cdv A outer s H E)), ?_⟩
    refine ⟨_, rfl, a, C, [.str tx], rfl, (show 1 ≤ 1000 from by decide), T, ea, ?_⟩
    refine ⟨_, rfl, _, rfl, a, C, rfl, T, ht, .inl ⟨ea, fun dx hd hda => ?_⟩⟩
    exact h dx _ hd hda upd_same (by rw [upd_ne hda, upd_same]; rfl) fun b hb1 hb2 => by rw [upd_ne hb1, upd_ne hb2]
theorem ini2 (T : EC K C B newId initId bmB) (ht : PySem.W.takerIn K C fl = some none) (ht2 : PySem.W.takerIn K C fl2 = some none) (hi : PySem.W.handedIn (.builtin initId) = true) (F : Fun K x qual st f fd) (S : FnScope ["self", pn, pn2] ["self", pn, pn2] (defScope st))
    (hb : defBody st = [.Expr (.Call (.Attribute (.Name cn p1) "__init__" p2) [.Name "self" p3, .Constant (.str tx) j p4] [] p5) p6, .Assign [.Attribute (.Name "self" q1) fl q2] (.Name pn q3) q4, .Assign [.Attribute (.Name "self" r1) fl2 r2] (.Name pn2 r3) r4])
    (hgin : ∀ (cdv : Value) (A : Around) (outer : List PySem.Env) (s : Shared) (H : Hp) (E : XK), PS (cxOf (L2.CX P w) P w K mg base ["self", pn, pn2] qual (defScope st) f cdv A outer s H E) (.Expr (.Call (.Attribute (.Name cn p1) "__init__" p2) [.Name "self" p3, .Constant (.str tx) j p4] [] p5) p6) (tDrop (tGin K B newId initId bmB (tCons (tVar 0) (tCons (tC (.str tx)) tNil)))))
    (hst : ∀ (cdv : Value) (A : Around) (outer : List PySem.Env) (s : Shared) (H : Hp) (E : XK), PS (cxOf (L2.CX P w) P w K mg base ["self", pn, pn2] qual (defScope st) f cdv A outer s H E) (.Assign [.Attribute (.Name "self" q1) fl q2] (.Name pn q3) q4) (tGst K B newId initId bmB fl (tVar 0) (tVar 1)))
    (hst2 : ∀ (cdv : Value) (A : Around) (outer : List PySem.Env) (s : Shared) (H : Hp) (E : XK), PS (cxOf (L2.CX P w) P w K mg base ["self", pn, pn2] qual (defScope st) f cdv A outer s H E) (.Assign [.Attribute (.Name "self" r1) fl2 r2] (.Name pn2 r3) r4) (tGst K B newId initId bmB fl2 (tVar 0) (tVar 2))) : FnG P w K mg base (k + 1) f fd ["self", pn, pn2] (spIni C [fl, fl2]) := by
  refine fnG_of F S (fun vs H Q E h => ?_) fun cdv A outer s H vs Q E hg hr h => ?_
  · obtain ⟨a, ws, rfl, hl, _⟩ := h
    simpa using hl
  obtain ⟨a, ws, rfl, hl, ea, h⟩ := h
  match ws, hl with
  | [v, v2], _ =>
    rw [hb]
    refine ⟨_, pss_cons (hgin cdv A outer s H E) (pss_cons (hst cdv A outer s H E) (pss_one (hst2 cdv A outer s H E))), ?_⟩
    refine ⟨_, rfl, a, C, [.str tx], rfl, (show 1 ≤ 1000 from by decide), T, ea, ?_⟩
    refine ⟨_, rfl, _, rfl, a, C, rfl, T, ht, .inl ⟨ea, fun dx hd hda => ?_⟩⟩
    refine ⟨_, rfl, _, rfl, a, C, rfl, T, ht2, .inr ⟨dx, [(fl, v)], upd_same, by rw [upd_ne hda, upd_same], (show 1 ≤ 900 from by decide), ?_⟩⟩
    exact h dx _ hd hda (by rw [upd_ne (Ne.symm hda), upd_same]) (by rw [upd_same]; rfl) fun b hb1 hb2 => by rw [upd_ne hb2, upd_ne hb1, upd_ne hb2]
end
/-! ### C(e, ..): a new exception -/
def tMkG (C : Addr) (sp : Sp) (ta : TA) : TE := fun σ H Q => ta σ H fun vs H1 => vs.length ≤ 1000 ∧ ∀ a, H1 a = none → sp (.ref a :: vs) (upd H1 a (exo a C none)) (fun v H2 => v = .non ∧ Q (.ref a) H2) (fun _ _ _ => False)
section
variable {X : Cx} {e : Expr} {es : List Expr} {ta : TA} {x : Str} {p pos : Pos} {B newId initId : String} {bmB : List Value} {C fI : Addr} {k : Nat} {fd : FuncData} {ps : List Str} {sp : Sp}
theorem pe_mkG (T : EC X.K C B newId initId bmB) (iC : PySem.W.findIn X.K (.ref C) "__init__" = some (some (.ref fI))) (tI : PySem.W.typeIn X.K (.ref fI) = some (.type "function")) (F1 : FnG X.prog X.w X.K X.mg X.base k fI fd ps sp) (hg : X.A.guards = some []) (hr : Room (k + 1) X.A)
    (hb : Binds X.K fd ps []) (hm : X.mg x = some (.ref C)) (ha : PA X (e :: es) ta) (hgl : Gl X x := by rfl) (hdb : (x == ("__debug__" : Str)) = false := by decide)
    (he : starEach (e :: es) X.env = (false, eval e X.env) :: starEach es X.env := by rfl) (hpl : (backTo pos (starEach es X.env)).any (·.1) = false := by rfl) :
    PE X (.Call (.Name x p) (e :: es) [] pos) (tMkG C sp ta) := by
  refine ⟨fun pins s σ H Q I h => ?_⟩
  refine wpAny_Call_Name_kw (ld_glob I hgl hm ?_ hdb)
  refine PySem.W.callWith_K (h₀ := X.base) I.ok.mod.kin T.kC (thn (ha.run pos pins s σ H _ I h) fun us s1 ⟨vs, H1, I1, r1, hz, q1⟩ => ⟨I1.kIn, ?_⟩) he hpl
  show wpAny _ _ (call (.ref C) us) _ _ _
  obtain ⟨nm, N', qn, bs, bm, hdct, sn, sub, ab, col, dd, k0, k1, k2, k3, k5, hC, hT⟩ := PySem.W.excInit_of I1.kIn T.q
  obtain ⟨hp, g, dr, tk, os⟩ := s1
  have hn : H1 (hp.objs.size + 1) = none := I1.hok.fresh (Nat.le_succ _)
  have hq := q1 _ hn
  have kk : ∀ b o, hp.get? b = some o → ((hp.push (PySem.W.kdv_tup us)).push (PySem.HandSPX.excO C hp.objs.size)).get? b = some o := fun b o e => Heap.get?_push_of_some _ (Heap.get?_push_of_some _ e)
  have hget : ((hp.push (PySem.W.kdv_tup us)).push (PySem.HandSPX.excO C hp.objs.size)).get? (hp.objs.size + 1) = some (PySem.HandSPX.excO C hp.objs.size) := by heap_get
  have I2 : Inv X pins σ (upd H1 (hp.objs.size + 1) (exo (hp.objs.size + 1) C none)) ⟨(hp.push (PySem.W.kdv_tup us)).push (PySem.HandSPX.excO C hp.objs.size), g, dr, tk, os⟩ :=
    I1.laid (t' := tk) (a := hp.objs.size + 1) (o := exo (hp.objs.size + 1) C none) kk (Nat.le_succ _) (exo_ok hget)
  have r2 : Vals (V.ref (hp.objs.size + 1) :: vs) (Value.ref (hp.objs.size + 1) :: us) := .cons rfl r1
  have hl : (Value.ref (hp.objs.size + 1) :: us ++ []).length = ps.length := by
    have e := r2.length
    rw [F1.len _ _ _ _ hq] at e
    rw [List.append_nil]
    exact e.symm
  have hus : us.length ≤ sizeLine := by
    rw [← Paired.length r1, sizeLine_eq]
    omega
  have b := hb _ (Value.ref (hp.objs.size + 1) :: us) I2.kIn hl
  rw [List.append_nil] at b
  refine wpAny_call (PySem.HandSPX.call_own T.F hT hC (PySem.W.looks_findIn I1.kIn iC) (fun self => PySem.W.bind_fn I1.kIn self tI) hus
    (codeAny_mono (F1.run _ X.stack _ _ ⟨Value.ref (hp.objs.size + 1) :: us, []⟩ (Value.ref (hp.objs.size + 1) :: us) _ _ (fun _ _ _ => False) hg (hr.make C us []) (I2.env0.make C us []) b r2 hq) fun r s' hq' => ?_))
  match r, hq' with
  | .error er, hq' =>
    obtain ⟨_, _, _, _, _, _, _, _, _, _, _, _, z⟩ := hq'
    exact z.elim
  | .ok (.ret u), hq' =>
    obtain ⟨v, H2, I3, rv, ev, q2⟩ := I2.after hq'
    subst ev
    exact ⟨rv, .ref (hp.objs.size + 1), H2, I3, rfl, q2⟩
end
end EG


set_option Elab.async false
set_option linter.all false
set_option maxRecDepth 100000
set_option maxHeartbeats 4000000
namespace EG
open PySem PySem.Spec PyProof.Rows L2
section
variable {X : Cx} {K : PySem.W.Frag} {EA : EAt} {W : WX} {a b c e : Expr} {es : List Expr} {ma mb mc m : Env → Mo SV} {ml : Env → Mo (List SV)} {pos p : Pos} {x : Str}
theorem Stp.more {ι : List (List Addr)} {w : Sto} {H H' : Hp} (R : SRel K ι w H) (h : ∀ b o, H b = some o → H' b = some o) : Stp K ι w H ι w H' := by
  have g : Go (mz ι w) H (mz ι w) H' := fun b o n e => ⟨h b o e, n⟩
  refine ⟨List.prefix_rfl, g, ⟨R.len, fun n l u h1 h2 => (R.ok n l u h1 h2).go g fun b hb => ?_, R.nd⟩⟩
  obtain ⟨o, ho⟩ := (R.ok n l u h1 h2).there hb
  rw [ho, h b o ho]
/-! ### exceptions as values -/
def mMkE (C : Addr) (flds : List Str) (m : Env → Mo (List SV)) : Env → Mo SV := fun ρ => mBind (m ρ) fun xs w => match fzs xs w with
  | some (ds, w') => if ds.length = flds.length then some (.ok (.exc (C, (flds.zip ds).reverse)), w') else none
  | none => none
theorem mk_snd {ι : List (List Addr)} {w : Sto} {H : Hp} {C : Addr} {flds : List Str} {vs : List V} {xs : List SV} {Q : VK} {W' : Value → Option Addr → Hp → Prop} (hz : flds.length ≤ 1000) (R : SRel K ι w H) (rs : VsR K ι (mz ι w) H vs xs)
    (h : Hyp K EA ι w H ((fun w => match fzs xs w with
      | some (ds, w') => if ds.length = flds.length then some (Res.ok (SV.exc (C, (flds.zip ds).reverse)), w') else none
      | none => none) w) (fun v ι' w' H' => ∀ V, VRel K ι' (mz ι' w') H' V v → Q V H') W') :
    vs.length ≤ 1000 ∧ vs.length = flds.length ∧ ∀ a, H a = none → spIni C flds (.ref a :: vs) (upd H a (exo a C none)) (fun v H2 => v = .non ∧ Q (.ref a) H2) (fun _ _ _ => False) := by
  cases f : fzs xs w with
  | none => simp only [f] at h; exact h.elim
  | some q =>
    obtain ⟨ds, w2⟩ := q
    simp only [f] at h
    obtain ⟨s2, q2⟩ := fzs_ok R rs f
    by_cases c : ds.length = flds.length
    · rw [if_pos c] at h
      have hl : vs.length = flds.length := by rw [q2.length]; exact c
      refine ⟨by rw [hl]; exact hz, hl, fun a ha => ⟨a, vs, rfl, hl, upd_same, fun dx H' hd hda e1 e2 e3 => ⟨rfl, ?_⟩⟩⟩
      have hd' : H dx = none := by
        rw [upd_ne hda] at hd
        exact hd
      have s3 : Stp K ι w2 H ι w2 H' := Stp.more s2.rel fun b o hb => by
        have na := ne_of_none hb ha
        rw [e3 b na (ne_of_none hb hd'), upd_ne na]
        exact hb
      refine h _ _ (s2.trans s3) _ ⟨a, dx, _, rfl, e1, fun z => s2.rel.ne z ha rfl, e2, fun z => s2.rel.ne z hd' rfl, ?_, ?_⟩
      · rw [List.map_reverse, List.map_reverse, zip1 hl.symm, zip1 c.symm]
      · rw [List.map_reverse, List.map_reverse, zip2 hl.symm, zip2 c.symm]
        exact (q2.go s3.go).rev
    · rw [if_neg c] at h; exact h.elim
section
variable {B newId initId : String} {bmB : List Value} {C fI : Addr} {k : Nat} {fd : FuncData} {ps flds : List Str}
theorem de_mkE (T : EC X.K C B newId initId bmB) (iC : PySem.W.findIn X.K (.ref C) "__init__" = some (some (.ref fI))) (tI : PySem.W.typeIn X.K (.ref fI) = some (.type "function")) (F1 : FnG X.prog X.w X.K X.mg X.base k fI fd ps (spIni C flds)) (hg : X.A.guards = some []) (hr : Room (k + 1) X.A)
    (hb : Binds X.K fd ps []) (hm : X.mg x = some (.ref C)) (ha : DA X EA W (e :: es) ml) (hz : flds.length ≤ 1000 := by decide) (hgl : Gl X x := by rfl) (hdb : (x == ("__debug__" : Str)) = false := by decide)
    (he : starEach (e :: es) X.env = (false, eval e X.env) :: starEach es X.env := by rfl) (hpl : (backTo pos (starEach es X.env)).any (·.1) = false := by rfl) :
    DE X EA W (.Call (.Name x p) (e :: es) [] pos) (mMkE C flds ml) := by
  obtain ⟨t, q, s⟩ := ha.ex
  refine ⟨_, pe_mkG T iC tI F1 hg hr hb hm q hgl hdb he hpl, fun ι w σ H ρ Q R E h => ?_⟩
  refine s ι w σ H ρ _ R E ((Hyp.bind h).imp fun xs ι1 w1 H1 s1 h1 Vs rs => ?_)
  obtain ⟨h2, _, h3⟩ := mk_snd hz s1.rel rs h1
  exact ⟨h2, h3⟩
end
/-- what the class D must say, so that isinstance and the fields are asked rightly -/
structure ExK (K : PySem.W.Frag) (D : Addr) : Prop where
  c : (PySem.W.clsIn K D).isSome = true
  ga : PySem.W.findIn K (.ref D) "__getattribute__" = some (some (.builtin "BaseException.__getattribute__"))
  gg : PySem.W.findIn K (.ref D) "__getattr__" = some none
  sb : PySem.W.subIn K (.ref D) (.type "BaseException") = some true
  hd : PySem.W.hasDictIn K D = true
  cl : PySem.W.findIn K (.ref D) "__class__" = some (some (.builtin "object.__class__"))
  cg : PySem.W.specialIn K (.builtin "object.__class__") "__get__" = some (some (.builtin "getset_descriptor.__get__"))
  ct : PySem.W.takesIn K (.builtin "object.__class__") = some true
  mo : PySem.W.mroIn K D (.type "object") = some true
theorem exc_inst {pins : List (Addr × Obj)} {σ : L2.St} {H : Hp} {s : Shared} (I : Inv X pins σ H s) {M : List Addr} {v : V} {cf : ExV} (h : ExR X.K M H v cf) : ∃ a dx gs, v = .ref a ∧ H dx = some (exd dx gs) ∧ gs.map (·.1) = cf.2.map (·.1) ∧ DtA X.K M H (gs.map (·.2)) (cf.2.map (·.2)) ∧
    ∃ ox od mA, PySem.W.InstAt s.heap a ox cf.1 (some od) ∧ s.heap.Ns1 dx mA ∧ s.heap.get? dx = some od ∧ ∀ f, RelO (gs.lookup f) (mA f) := by
  obtain ⟨a, dx, gs, rfl, h1, n1, h2, n2, h3, h4⟩ := h
  obtain ⟨mA, hns, rel⟩ := exd_at I.hok h2
  obtain ⟨oD, _, _, hoD, _, _⟩ := hns.count (within_of rel)
  obtain ⟨ox, J, _, _⟩ := inst_of I h1 (some oD) ⟨oD, rfl, hoD⟩
  exact ⟨a, dx, gs, rfl, h2, h3, h4, ox, oD, mA, J, hns, hoD, rel⟩
/-- isinstance(x, c), x an exception -/
def rIsX (K : PySem.W.Frag) : List V → Hp → VK → Prop := fun xs H Q => ∃ (M : List Addr) (v c : V) (cf : ExV) (cv : Value) (b : Bool), xs = [v, c] ∧ ExR K M H v cf ∧ ExK K cf.1 ∧ (∀ u, RelV c u → u = cv) ∧ PySem.W.kitOne K (.ref cf.1) cv = some b ∧ Q (.bl b) H
theorem call_isX : CallR X (.builtin "isinstance") (rIsX X.K) := by
  intro pins s σ H xs us Q I r h
  obtain ⟨M, v, c, cf, cv, b, rfl, hx, C, hcv, e, q⟩ := h
  obtain ⟨a, dx, gs, rfl, _, _, _, ox, od, mA, J, _⟩ := exc_inst I hx
  cases r with
  | cons rx rr =>
    cases rr with
    | cons rt rr =>
      cases rr
      cases rx
      have ec := hcv _ rt
      subst ec
      exact PySem.W.kia_one (PySem.W.kitx_exc C.c C.ga C.gg C.sb C.cl C.cg C.ct C.mo) I.kIn J e (fun z => nomatch z) fun tk => ⟨.bl b, H, I.kept (t' := tk) fun _ _ z => z, rfl, q⟩
def gIsE (tab : List (Addr × Bool)) : Op1 := fun x _ => match x with
  | .exc c => (tab.lookup c.1).map fun b => .dat (.bool b)
  | _ => none
theorem lookup_mem {β : Type} : ∀ {l : List (Addr × β)} {k : Addr} {b : β}, l.lookup k = some b → (k, b) ∈ l
  | [], _, _, h => by cases h
  | (j, d) :: r, k, b, h => by
    by_cases e : k = j
    · subst e
      have h : some d = some b := by simpa [List.lookup] using h
      cases h
      exact List.mem_cons_self
    · have e' : (k == j) = false := by simpa using e
      have h : r.lookup k = some b := by simpa [List.lookup, e'] using h
      exact List.mem_cons_of_mem _ (lookup_mem h)
theorem de_isE {T : Str} {q0 : Pos} {c : V} {cv : Value} {tab : List (Addr × Bool)} (hm : X.mg "isinstance" = none) (hc : PE X (.Name T q0) (tC c)) (hcv : ∀ u, RelV c u → u = cv) (ht : ∀ p ∈ tab, ExK X.K p.1 ∧ PySem.W.kitOne X.K (.ref p.1) cv = some p.2) (ha : DE X EA W a ma) (hg : Gl X "isinstance" := by rfl)
    (he : starEach (a :: [.Name T q0]) X.env = (false, eval a X.env) :: starEach [.Name T q0] X.env := by rfl) (he2 : starEach (.Name T q0 :: []) X.env = (false, eval (.Name T q0) X.env) :: starEach [] X.env := by rfl) (hpl : (backTo pos (starEach [.Name T q0] X.env)).any (·.1) = false := by rfl) :
    DE X EA W (.Call (.Name "isinstance" p) [a, .Name T q0] [] pos) (mUn ma (gIsE tab)) := by
  obtain ⟨t, q, s⟩ := ha.ex
  refine ⟨_, pe_callB call_isX hg hm (by decide +kernel) (pa_cons q (pa_cons hc pa_nil he2) he) (by decide) (by decide) he hpl, fun ι w σ H ρ Q R E h => ?_⟩
  refine s ι w σ H ρ _ R E ((Hyp.bind h).imp fun y ι1 w1 H1 s1 h1 V rv => ?_)
  cases y with
  | exc cf =>
    have h1 : Hyp X.K EA ι1 w1 H1 (((tab.lookup cf.1).map fun b => SV.dat (.bool b)).map fun v => (Res.ok v, w1)) _ _ := h1
    cases hl : tab.lookup cf.1 with
    | none => rw [hl] at h1; exact h1.elim
    | some b =>
      rw [hl] at h1
      obtain ⟨k1, k2⟩ := ht _ (lookup_mem hl)
      exact ⟨_, V, c, cf, cv, b, rfl, rv, k1, hcv, k2, Hyp.here h1 s1.rel _ (Dt.bl _)⟩
  | _ => exact h1.elim
/-- err.f -/
def gFld (cs : List Addr) (f : Str) : Op1 := fun x _ => match x with
  | .exc c => if c.1 ∈ cs then (c.2.lookup f).map .dat else none
  | _ => none
theorem lookup_rel {M : List Addr} {H : Hp} {f : Str} {d : PyData} : ∀ {gs : List (Str × V)} {fs : List (Str × PyData)}, gs.map (·.1) = fs.map (·.1) → DtA K M H (gs.map (·.2)) (fs.map (·.2)) → fs.lookup f = some d → ∃ v, gs.lookup f = some v ∧ Dt K M H v d
  | [], [], _, _, h => by cases h
  | [], _ :: _, h, _, _ => by simp at h
  | _ :: _, [], h, _, _ => by simp at h
  | (g, v) :: r, (g', d') :: r', h, q, e => by
    have h' : g = g' ∧ r.map (·.1) = r'.map (·.1) := by simpa using h
    obtain ⟨rfl, h'⟩ := h'
    cases q with
    | cons q1 q2 =>
      by_cases c : f = g
      · subst c
        have e : some d' = some d := by simpa [List.lookup] using e
        cases e
        exact ⟨v, by simp [List.lookup], q1⟩
      · have c' : (f == g) = false := by simpa using c
        obtain ⟨u, h1, h2⟩ := lookup_rel h' q2 (by simpa [List.lookup, c'] using e)
        exact ⟨u, by simpa [List.lookup, c'] using h1, h2⟩
theorem de_fld {f : Str} {cs : List Addr} (hc : ∀ C ∈ cs, ExK X.K C ∧ PySem.W.findIn X.K (.ref C) f = some none) (ha : DE X EA W a ma) (hb : attributeBase a f X.env (eval a X.env) = eval a X.env := by rfl) : DE X EA W (.Attribute a f pos) (mUn ma (gFld cs f)) := by
  obtain ⟨t, q, s⟩ := ha.ex
  refine ⟨fun σ H Q => t σ H fun v H1 => ∃ (M : List Addr) (cf : ExV) (dx : Addr) (gs : List (Str × V)) (y : V), ExR X.K M H1 v cf ∧ ExK X.K cf.1 ∧ PySem.W.findIn X.K (.ref cf.1) f = some none ∧ (∃ a, v = .ref a ∧ H1 a = some (exo a cf.1 (some dx))) ∧ H1 dx = some (exd dx gs) ∧ gs.lookup f = some y ∧ Q y H1,
    ⟨fun pins z σ H Q I h => ?_⟩, fun ι w σ H ρ Q R E h => ?_⟩
  · refine attr_of hb (thn (q.run pins z σ H _ I h) fun u s1 hh => ?_)
    obtain ⟨x, H1, I1, rx, M, cf, dx, gs, y, _, C, hno, ⟨a, rfl, ea⟩, ed, hl, k⟩ := hh
    obtain rfl : u = Value.ref a := rx
    obtain ⟨mA, hns, rel⟩ := exd_at I1.hok ed
    obtain ⟨od, ho, hlk⟩ := lookIn_ns hns
    obtain ⟨ox, J, _, _⟩ := inst_of I1 ea (some od) ⟨od, rfl, ho⟩
    obtain ⟨u, hu, ru⟩ := RelO.some_of (v := y) (o := mA f) (by rw [← hl]; exact rel f)
    exact HandSPX.exc_get I1.kIn J C.ga C.gg C.sb (PySem.W.findObj_own C.hd hno rfl (by rw [hlk, hu])) (handed_of ru) ⟨y, H1, I1.tok _, ru, k⟩
  · refine s ι w σ H ρ _ R E ((Hyp.bind h).imp fun y ι1 w1 H1 s1 h1 V rv => ?_)
    cases y with
    | exc cf =>
      have h1 : Hyp X.K EA ι1 w1 H1 ((if cf.1 ∈ cs then (cf.2.lookup f).map SV.dat else none).map fun v => (Res.ok v, w1)) _ _ := h1
      by_cases c : cf.1 ∈ cs
      · rw [if_pos c] at h1
        cases hl : cf.2.lookup f with
        | none => rw [hl] at h1; exact h1.elim
        | some d =>
          rw [hl] at h1
          have rv' : ExR X.K (mz ι1 w1) H1 V cf := rv
          obtain ⟨a, dx, gs, rfl, g1, n1, g2, n2, g3, g4⟩ := rv
          obtain ⟨v, k1, k2⟩ := lookup_rel g3 g4 hl
          obtain ⟨C1, C2⟩ := hc _ c
          exact ⟨_, cf, dx, gs, v, rv', C1, C2, ⟨a, rfl, g1⟩, g2, k1, Hyp.here h1 s1.rel _ k2⟩
      · rw [if_neg c] at h1; exact h1.elim
    | _ => exact h1.elim
end
end EG


set_option Elab.async false
set_option linter.all false
set_option maxRecDepth 100000
set_option maxHeartbeats 4000000
namespace PySem
namespace EGX
open Builtin Builtin.ObjectAttr HandSPX
section
variable {M : Model} {A : Around} {E : Value → Shared → Prop} {h : Heap} {g : Array GenState} {d : Drawn} {t : Nat} {os : OsState}
variable {nm q : Str} {C N : Addr} {bs bm bmB : List Value} {hdct : Bool} {sn : List Str} {sub : List Value} {ab : Bool} {col : Option Bool} {dd : Option Addr} {k0 k1 k2 k3 k5 : Option Value} {B newId initId : String}
theorem kw_check (F : ExcBaseFacts B newId initId bmB) (hT : ∀ X : String, bm.contains (.type X) = bmB.contains (.type X)) {us : List Value} {kw : List (Str × Value)} {Q : Unit → Shared → Prop}
    (hC : h.get? C = some (excClassObj nm q C N bs bm hdct sn sub ab col dd k0 k1 k2 k3 k5 newId)) (hq : Q () ⟨h, g, d, t, os⟩) : wpAny M A (checkBuiltinCall newId ⟨.ref C :: us, kw⟩) Q E ⟨h, g, d, t, os⟩ := by
  have c1 : (Value.ref C :: bm).contains (.type B) = true := (List.contains_cons).trans (by rw [hT, F.hasB, Bool.or_true])
  have st := F.noStar
  simp only [checkBuiltinCall, F.newKind, F.newSplit, F.newRow]

  repeat (first | refine wpAny_staticBase_exc hC ?_ | refine wpAny_madeBy_exc hC ?_ | refine wpAny_loadPart_at hC ?_ | (refine wpAny_isSubtype_exc hC ?_; rw [c1]) | simp only [bne_self_eq_false, Bool.false_eq_true, if_false] | wp_step)

  exact hq
end
section
variable {prog : Program} {w : World} {A : Around} {E : Value → Shared → Prop} {R : Result → Shared → Prop} {h : Heap} {g : Array GenState} {d : Drawn} {t : Nat} {os : OsState}
variable {nm q : Str} {C N : Addr} {bs bm bmB : List Value} {hdct : Bool} {sn : List Str} {sub : List Value} {ab : Bool} {col : Option Bool} {dd : Option Addr} {k0 k1 k2 k3 k5 : Option Value} {B newId initId : String}
theorem kw_new (F : ExcBaseFacts B newId initId bmB) (hT : ∀ X : String, bm.contains (.type X) = bmB.contains (.type X)) {us : List Value} {kw : List (Str × Value)} (hl : us.length ≤ sizeLine)
    (hC : h.get? C = some (excClassObj nm q C N bs bm hdct sn sub ab col dd k0 k1 k2 k3 k5 newId))
    (z : R (.ok (.ret (.ref (h.objs.size + 1)))) ⟨(h.push (W.kdv_tup us)).push (excO C h.objs.size), g, d, t, os⟩) :
    codeAny (model prog w) A (.builtin newId ⟨.ref C :: us, kw⟩) R ⟨h, g, d, t, os⟩ := by
  have e0 := F.ends
  have c1 : (Value.ref C :: bm).contains (.type B) = true := (List.contains_cons).trans (by rw [hT, F.hasB, Bool.or_true])
  have c2 : (Value.ref C :: bm).contains (.type "AttributeError") = false := (List.contains_cons).trans (by rw [hT, F.noAttr]; rfl)
  have c3 : (Value.ref C :: bm).contains (.type "NameError") = false := (List.contains_cons).trans (by rw [hT, F.noName]; rfl)
  refine codeAny_builtinAt F.entry ?_
  unfold Builtin.«BaseException.__new__»
  refine wpAt_bind ?_
  show wpAt _ _ _ (stack >>= _) _ _ _
  refine wpAt_bind (wpAt_stack fun p below => wpAt_of_wpAny ?_)
  wp_walk
  refine wpAt_of_wpAny ?_
  rw [F.owner]
  repeat (first | with_reducible refine wpAny_loadPart_at hC ?_ | with_reducible refine wpAny_madeHere_exc F.canon hC ?_ | (with_reducible refine wpAny_isSubtype_exc hC ?_; first | rw [c1] | rw [c2] | rw [c3]) | wp_step)
  show R _ _
  rw [Heap.size_push]
  exact z
theorem kw_type (F : ExcBaseFacts B newId initId bmB) (hT : ∀ X : String, bm.contains (.type X) = bmB.contains (.type X)) {us : List Value} {kw : List (Str × Value)} {fI : Addr} {Q : Fin → Shared → Prop} (hl : us.length ≤ sizeLine)
    (hC : h.get? C = some (excClassObj nm q C N bs bm hdct sn sub ab col dd k0 k1 k2 k3 k5 newId))
    (hi : W.Looks (model prog w) h (typeLookup (.ref C) "__init__") (some (.ref fI))) (hb : ∀ self, W.Looks (model prog w) h (bindSpecial (.ref fI) self) (.ref fI, [self]))
    (z : codeAny (model prog w) A (.call (.ref fI) ⟨.ref (h.objs.size + 1) :: us, kw⟩)
      (fun r s' => match r with | .ok (.ret v) => v = .none ∧ Q (.done (.ret (.ref (h.objs.size + 1)))) s' | .ok _ => False | .error e => E e s')
      ⟨(h.push (W.kdv_tup us)).push (excO C h.objs.size), g, d, t, os⟩) :
    wpAny (model prog w) A (Builtin.«type.__call__» ⟨.ref C :: us, kw⟩) Q E ⟨h, g, d, t, os⟩ := by
  repeat (first | with_reducible refine wpAny_madeBy_exc hC ?_ | with_reducible refine wpAny_loadPart_at hC ?_ | wp_step)
  refine codeAny_call_builtin_code (Code.quiet_builtin _ F.quiet) (kw_check F hT hC ?_)
  refine kw_new F hT hl hC ?_
  show wpAny _ _ _ _ _ _
  have k : ∀ b o, h.get? b = some o → ((h.push (W.kdv_tup us)).push (excO C h.objs.size)).get? b = some o := fun b o e => Heap.get?_push_of_some _ (Heap.get?_push_of_some _ e)
  have hC1 := k _ _ hC
  have hg1 : ((h.push (W.kdv_tup us)).push (excO C h.objs.size)).get? (h.objs.size + 1) = some (excO C h.objs.size) := by heap_get
  have c0 : (Value.ref C :: bm).contains (.ref C) = true := by simp
  have i1 := hi.keeps k
  have b1 := (hb (.ref (h.objs.size + 1))).keeps k
  unfold isInstance
  repeat (first | with_reducible refine wpAny_loadPart_at hg1 ?_ | (with_reducible refine wpAny_isSubtype_exc hC1 ?_; rw [c0]) | wp_step)
  show wpAny _ _ (typeLookup (.ref C) _) _ _ _
  refine i1.at (wpAny_holding (wpAny_bind (b1.at ?_)))
  refine wpAny_bind (wpAny_call (codeAny_mono z fun r s' y => ?_))
  rcases r with e | (v | _ | _ | _) <;> first | exact y | exact y.elim | skip
  obtain ⟨rfl, y⟩ := y
  first
    | exact wpAny_pure (wpAny_pure y)
    | (wp_walk; exact y)
theorem kw_call (F : ExcBaseFacts B newId initId bmB) (hT : ∀ X : String, bm.contains (.type X) = bmB.contains (.type X)) {us : List Value} {kw : List (Str × Value)} {fI : Addr} (hl : us.length ≤ sizeLine)
    (hC : h.get? C = some (excClassObj nm q C N bs bm hdct sn sub ab col dd k0 k1 k2 k3 k5 newId))
    (hi : W.Looks (model prog w) h (typeLookup (.ref C) "__init__") (some (.ref fI))) (hb : ∀ self, W.Looks (model prog w) h (bindSpecial (.ref fI) self) (.ref fI, [self]))
    (z : codeAny (model prog w) (A.under (.builtin "type.__call__" ⟨.ref C :: us, kw⟩)) (.call (.ref fI) ⟨.ref (h.objs.size + 1) :: us, kw⟩) (W.InitBack (h.objs.size + 1) R)
      ⟨(h.push (W.kdv_tup us)).push (excO C h.objs.size), g, d, t, os⟩) :
    codeAny (model prog w) A (.call (.ref C) ⟨us, kw⟩) R ⟨h, g, d, t, os⟩ := by
  have f1 := tc_lookup
  have f2 := tc_bind (.ref C)
  have ty : (⟨h, g, d, t, os⟩ : Shared).TypeIs (.ref C) "type" := ⟨_, hC, rfl⟩
  refine codeAny_of_tree ?_
  show wpAny _ _ (callAny (.ref C) _) _ _ _
  repeat (any_goals (first | assumption | with_reducible refine wpAny_loadPart_at hC ?_ | wp_step))
  refine ⟨rfl, codeAny_call_builtin_at (Code.quiet_builtin _ (by decide +kernel)) entry_typeCall (wpAny_check_type_call_sub hC (kw_type F hT hl hC hi hb ?_))⟩
  refine codeAny_mono z fun r s' y => ?_
  rcases r with e | (v | _ | _ | _) <;> exact y
end
end EGX
end PySem


set_option Elab.async false
set_option linter.all false
set_option maxRecDepth 100000
set_option maxHeartbeats 4000000
namespace EG
open PySem PySem.Spec PyProof.Rows L2
/-! ### C(k = v, ..) -/
structure DK (X : Cx) (EA : EAt) (W : WX) (kws : List Keyword) (m : Env → Mo (List SV)) : Prop where
  ex : ∃ t : TA, PK X kws t ∧ ∀ ι w σ H ρ Q, SRel X.K ι w H → EnvR X.K ι (mz ι w) H σ ρ → Hyp X.K EA ι w H (m ρ w) (fun xs ι' w' H' => ∀ Vs, VsR X.K ι' (mz ι' w') H' Vs xs → Q Vs H') (fun cls d H' => W cls d σ H') → t σ H Q
/-- in the order of the parameters -/
def turn {α : Type} (r : Bool) (xs : List α) : List α := if r then xs.reverse else xs
theorem turn_len {α : Type} {r : Bool} {xs : List α} : (turn r xs).length = xs.length := by cases r <;> simp [turn]
def mTurn (r : Bool) (m : Env → Mo (List SV)) : Env → Mo (List SV) := fun ρ => mBind (m ρ) fun xs => mPure (turn r xs)
section
variable {X : Cx} {EA : EAt} {W : WX} {e : Expr} {m : Env → Mo SV} {ml : Env → Mo (List SV)} {kws : List Keyword} {nm : Option Str} {kpos : Pos}
theorem dk_nil : DK X EA W [] mNil := ⟨tNil, pk_nil, fun ι w σ H ρ Q R E h => Hyp.here h R _ .nil⟩
theorem dk_cons (ha : DE X EA W e m) (hr : DK X EA W kws ml) : DK X EA W (⟨nm, e, kpos⟩ :: kws) (mCons m ml) := by
  obtain ⟨t, p, s⟩ := ha.ex
  obtain ⟨u, q, z⟩ := hr.ex
  refine ⟨tCons t u, pk_cons p q, fun ι w σ H ρ Q R E h => ?_⟩
  refine s ι w σ H ρ _ R E ((Hyp.bind h).imp fun x ι1 w1 H1 s1 h1 V rv => ?_)
  refine z _ _ σ H1 ρ _ s1.rel (E.stp s1) ((Hyp.bind h1).imp fun xs ι2 w2 H2 s2 h2 Vs rs => ?_)
  exact Hyp.here h2 s2.rel _ (.cons (rv.stp s2) rs)
end
theorem vals_app1 {a : V} {u : Value} (h : RelV a u) : ∀ {vs : List V} {us : List Value}, Vals vs us → Vals (vs ++ [a]) (us ++ [u])
  | _, _, .nil => .cons h .nil
  | _, _, .cons g r => .cons g (vals_app1 h r)
theorem vals_rev : ∀ {vs : List V} {us : List Value}, Vals vs us → Vals vs.reverse us.reverse
  | _, _, .nil => .nil
  | _, _, .cons g r => by
    rw [List.reverse_cons, List.reverse_cons]
    exact vals_app1 g (vals_rev r)
theorem vals_turn {r : Bool} {vs : List V} {us : List Value} (h : Vals vs us) : Vals (EG.turn r vs) (EG.turn r us) := by
  cases r
  · exact h
  · exact vals_rev h
section
variable {K : PySem.W.Frag} {ι : List (List Addr)} {M : List Addr} {H : Hp}
theorem VsR.app1 {a : V} {x : SV} (h : VRel K ι M H a x) : ∀ {vs : List V} {xs : List SV}, VsR K ι M H vs xs → VsR K ι M H (vs ++ [a]) (xs ++ [x])
  | _, _, .nil => .cons h .nil
  | _, _, .cons g r => .cons g (VsR.app1 h r)
theorem VsR.rev : ∀ {vs : List V} {xs : List SV}, VsR K ι M H vs xs → VsR K ι M H vs.reverse xs.reverse
  | _, _, .nil => .nil
  | _, _, .cons g r => by
    rw [List.reverse_cons, List.reverse_cons]
    exact VsR.app1 g (VsR.rev r)
theorem VsR.turn {r : Bool} {vs : List V} {xs : List SV} (h : VsR K ι M H vs xs) : VsR K ι M H (EG.turn r vs) (EG.turn r xs) := by
  cases r
  · exact h
  · exact VsR.rev h
end
def tMkK (C : Addr) (n : Nat) (r : Bool) (sp : Sp) (ta : TA) : TE := fun σ H Q => ta σ H fun vs H1 => vs.length = n ∧ ∀ a, H1 a = none → sp (.ref a :: turn r vs) (upd H1 a (exo a C none)) (fun v H2 => v = .non ∧ Q (.ref a) H2) (fun _ _ _ => False)
section
variable {X : Cx} {EA : EAt} {W : WX} {kws : List Keyword} {ta : TA} {ml : Env → Mo (List SV)} {x : Str} {p pos : Pos} {B newId initId : String} {bmB : List Value} {C fI : Addr} {k : Nat} {fd : FuncData} {ps ks flds : List Str} {sp : Sp} {r : Bool}
theorem pe_mkK (T : EC X.K C B newId initId bmB) (iC : PySem.W.findIn X.K (.ref C) "__init__" = some (some (.ref fI))) (tI : PySem.W.typeIn X.K (.ref fI) = some (.type "function")) (F1 : FnG X.prog X.w X.K X.mg X.base k fI fd ps sp) (hg : X.A.guards = some []) (hr : Room (k + 1) X.A)
    (hb : ∀ (s : Shared) (u : Value) (ws : List Value), X.K.In s.heap → ws.length = ks.length → BindsTo s fd ⟨[u], ks.zip ws⟩ (ps.zip (u :: turn r ws))) (hm : X.mg x = some (.ref C)) (ha : PK X kws ta) (hgl : Gl X x := by rfl) (hdb : (x == ("__debug__" : Str)) = false := by decide)
    (hall : (backToKw pos (keywordEach kws X.env)).all (·.1.isSome) = true := by rfl) (hks : (backToKw pos (keywordEach kws X.env)).filterMap (·.1) = ks := by rfl)
    (hpl : ((backTo pos (starEach [] X.env)).any (·.1) || (backToKw pos (keywordEach kws X.env)).any (·.1.isNone)) = false := by rfl) :
    PE X (.Call (.Name x p) [] kws pos) (tMkK C ks.length r sp ta) := by
  refine ⟨fun pins s σ H Q I h => ?_⟩
  refine wpAny_Call_Name_kw (ld_glob I hgl hm ?_ hdb)
  refine PySem.W.callWith_KW0 (h₀ := X.base) I.ok.mod.kin T.kC hall (thn (ha.run pos pins s σ H _ I h) fun ws s1 ⟨vs, H1, I1, r1, hz, q1⟩ => ⟨I1.kIn, ?_⟩) hpl
  rw [hks]
  show wpAny _ _ (call (.ref C) [] (ks.zip ws)) _ _ _
  obtain ⟨nm, N', qn, bs, bm, hdct, sn, sub, ab, col, dd, k0, k1, k2, k3, k5, hC, hT⟩ := PySem.W.excInit_of I1.kIn T.q
  obtain ⟨hp, g, dr, tk, os⟩ := s1
  have hn : H1 (hp.objs.size + 1) = none := I1.hok.fresh (Nat.le_succ _)
  have hq := q1 _ hn
  have kk : ∀ b o, hp.get? b = some o → ((hp.push (PySem.W.kdv_tup [])).push (PySem.HandSPX.excO C hp.objs.size)).get? b = some o := fun b o e => Heap.get?_push_of_some _ (Heap.get?_push_of_some _ e)
  have hget : ((hp.push (PySem.W.kdv_tup [])).push (PySem.HandSPX.excO C hp.objs.size)).get? (hp.objs.size + 1) = some (PySem.HandSPX.excO C hp.objs.size) := by heap_get
  have I2 : Inv X pins σ (upd H1 (hp.objs.size + 1) (exo (hp.objs.size + 1) C none)) ⟨(hp.push (PySem.W.kdv_tup [])).push (PySem.HandSPX.excO C hp.objs.size), g, dr, tk, os⟩ :=
    I1.laid (t' := tk) (a := hp.objs.size + 1) (o := exo (hp.objs.size + 1) C none) kk (Nat.le_succ _) (exo_ok hget)
  have r2 : Vals (V.ref (hp.objs.size + 1) :: turn r vs) (Value.ref (hp.objs.size + 1) :: turn r ws) := .cons rfl (vals_turn r1)
  have b := hb _ (Value.ref (hp.objs.size + 1)) ws I2.kIn (by rw [← r1.length]; exact hz)
  refine wpAny_call (PySem.EGX.kw_call T.F hT (us := []) (kw := ks.zip ws) (by rw [sizeLine_eq]; decide) hC (PySem.W.looks_findIn I1.kIn iC) (fun self => PySem.W.bind_fn I1.kIn self tI)
    (codeAny_mono (F1.run _ X.stack _ _ ⟨[Value.ref (hp.objs.size + 1)], ks.zip ws⟩ (Value.ref (hp.objs.size + 1) :: turn r ws) _ _ (fun _ _ _ => False) hg (hr.make C [] (ks.zip ws)) (I2.env0.make C [] (ks.zip ws)) b r2 hq) fun r s' hq' => ?_))
  match r, hq' with
  | .error er, hq' =>
    obtain ⟨_, _, _, _, _, _, _, _, _, _, _, _, z⟩ := hq'
    exact z.elim
  | .ok (.ret u), hq' =>
    obtain ⟨v, H2, I3, rv, ev, q2⟩ := I2.after hq'
    subst ev
    exact ⟨rv, .ref (hp.objs.size + 1), H2, I3, rfl, q2⟩
theorem de_mkK (T : EC X.K C B newId initId bmB) (iC : PySem.W.findIn X.K (.ref C) "__init__" = some (some (.ref fI))) (tI : PySem.W.typeIn X.K (.ref fI) = some (.type "function")) (F1 : FnG X.prog X.w X.K X.mg X.base k fI fd ps (spIni C flds)) (hg : X.A.guards = some []) (hr : Room (k + 1) X.A)
    (hb : ∀ (s : Shared) (u : Value) (ws : List Value), X.K.In s.heap → ws.length = ks.length → BindsTo s fd ⟨[u], ks.zip ws⟩ (ps.zip (u :: turn r ws))) (hm : X.mg x = some (.ref C)) (ha : DK X EA W kws ml) (hz : flds.length ≤ 1000 := by decide) (hkf : flds.length = ks.length := by rfl) (hgl : Gl X x := by rfl) (hdb : (x == ("__debug__" : Str)) = false := by decide)
    (hall : (backToKw pos (keywordEach kws X.env)).all (·.1.isSome) = true := by rfl) (hks : (backToKw pos (keywordEach kws X.env)).filterMap (·.1) = ks := by rfl)
    (hpl : ((backTo pos (starEach [] X.env)).any (·.1) || (backToKw pos (keywordEach kws X.env)).any (·.1.isNone)) = false := by rfl) :
    DE X EA W (.Call (.Name x p) [] kws pos) (mMkE C flds (mTurn r ml)) := by
  obtain ⟨t, q, s⟩ := ha.ex
  refine ⟨_, pe_mkK T iC tI F1 hg hr hb hm q hgl hdb hall hks hpl, fun ι w σ H ρ Q R E h => ?_⟩
  refine s ι w σ H ρ _ R E ((Hyp.bind (Hyp.bind h)).imp fun xs ι1 w1 H1 s1 h1 Vs rs => ?_)
  have h2 := Hyp.pure h1 s1.rel
  obtain ⟨h3, h4, h5⟩ := mk_snd hz s1.rel rs.turn h2
  rw [turn_len] at h4
  exact ⟨by rw [h4, hkf], h5⟩
end
/-! ### lists of exceptions -/
def excsO : List SV → Option (List ExV)
  | [] => some []
  | .exc c :: r => (excsO r).map (c :: ·)
  | _ :: _ => none
section
variable {X : Cx} {K : PySem.W.Frag} {EA : EAt} {W : WX} {a b : Expr} {es : List Expr} {ma mb : Env → Mo SV} {ml : Env → Mo (List SV)} {pos p : Pos}
theorem excsO_rel {ι : List (List Addr)} {M : List Addr} {H : Hp} : ∀ {vs : List V} {xs : List SV} {cs : List ExV}, VsR K ι M H vs xs → excsO xs = some cs → ExA K M H vs cs
  | _, _, _, .nil, e => by cases e; exact .nil
  | _, _, cs, .cons (x := x) (xs := xs) h r, e => by
    cases x with
    | exc c =>
      have e : (excsO xs).map (c :: ·) = some cs := e
      cases q : excsO xs with
      | none => rw [q] at e; cases e
      | some ds =>
        rw [q] at e
        cases e
        exact .cons h (excsO_rel r q)
    | _ => cases e
def mExcs (m : Env → Mo (List SV)) : Env → Mo SV := fun ρ => mBind (m ρ) fun xs w => match excsO xs with
  | some cs => if fitsN cs.length then some (.ok (.excs cs), w) else none
  | none => none
theorem de_excs (ha : DA X EA W es ml) : DE X EA W (.List es pos) (mExcs ml) := by
  obtain ⟨t, p, s⟩ := ha.ex
  refine ⟨tLst t, pe_lst p, fun ι w σ H ρ Q R E h => ?_⟩
  refine s ι w σ H ρ _ R E ((Hyp.bind h).imp fun xs ι1 w1 H1 s1 h1 Vs rs => ?_)
  cases e : excsO xs with
  | none => simp only [e] at h1; exact h1.elim
  | some cs =>
    simp only [e] at h1
    have q2 := excsO_rel rs e
    by_cases c : fitsN cs.length = true
    · rw [if_pos c] at h1
      refine ⟨by rw [q2.length]; exact of_decide_eq_true c, fun z hz => ?_⟩
      have s3 := Stp.new (o := .lst Vs) s1.rel hz
      exact h1 _ _ s3 _ ⟨z, Vs, rfl, upd_same, fun m => s1.rel.ne m hz rfl, q2.go s3.go⟩
    · rw [if_neg c] at h1; exact h1.elim
def gIxE : Op2 := fun x y _ => match x, y with
  | .excs l, .dat (.int i) => (atD l i).map .exc
  | _, _ => none
theorem atD_ex {M : List Addr} {H : Hp} {vs : List V} {ds : List ExV} {i : Int} {d : ExV} (h : ExA K M H vs ds) (e : atD ds i = some d) : ∃ v, atI vs i = some v ∧ ExR K M H v d := by
  unfold atD at e
  cases q : ixN ds.length i with
  | none => rw [q] at e; cases e
  | some j =>
    rw [q] at e
    obtain ⟨v, h1, h2⟩ := h.getD e
    refine ⟨v, ?_, h2⟩
    unfold atI
    rw [h.length, q]
    exact h1
theorem de_ixE (ha : DE X EA W a ma) (hb : DE X EA W b mb) (hs : PlainIx b := by exact fun _ _ => rfl) : DE X EA W (.Subscript a b pos) (mBin ma mb gIxE) := by
  obtain ⟨ta, pa, sa⟩ := ha.ex
  obtain ⟨tb, pb, sb⟩ := hb.ex
  refine ⟨_, pe_ix ix_list pa pb hs, fun ι w σ H ρ Q R E h => ?_⟩
  refine two (R := fun x y H2 => rIxL X.K x y H2 Q) sa sb R E h fun ι2 w2 H2 vx vy x y s rx ry h2 => ?_
  cases x with
  | excs l =>
    cases y with
    | dat d =>
      cases d with
      | int i =>
        have h2 : Hyp X.K EA ι2 w2 H2 (((atD l i).map SV.exc).map fun v => (Res.ok v, w2)) _ _ := h2
        cases q : atD l i with
        | none => rw [q] at h2; exact h2.elim
        | some c =>
          rw [q] at h2
          obtain ⟨a, vs, rfl, g1, g2, g3⟩ := rx
          cases ry
          obtain ⟨v, k1, k2⟩ := atD_ex g3 q
          exact ⟨a, vs, i, v, rfl, rfl, SqL.of g1, k1, Hyp.here h2 s.rel _ k2⟩
      | _ => exact h2.elim
    | _ => exact h2.elim
  | _ => exact h2.elim
/-- for x in (a, b, ..) -/
def forS (i : Nat) (body : Env → Mo Out) : List SV → Env → Mo Out
  | [], ρ => mPure (.nx ρ)
  | x :: r, ρ => mBind (body (ρ.set i (some x))) fun o => match o with
    | .nx ρ2 => forS i body r ρ2
    | .ct ρ2 => forS i body r ρ2
    | .bk ρ2 => mPure (.nx ρ2)
    | .rt v => mPure (.rt v)
def mForS (i : Nat) (m : Env → Mo (List SV)) (body : Env → Mo Out) : Env → Mo Out := fun ρ => mBind (m ρ) fun xs => if fitsN xs.length then forS i body xs ρ else mFail
theorem VsR.getS {ι : List (List Addr)} {M : List Addr} {H : Hp} : ∀ {vs : List V} {xs : List SV} {i : Nat} {x : SV}, VsR K ι M H vs xs → xs[i]? = some x → ∃ v, vs[i]? = some v ∧ VRel K ι M H v x := VsR.getx
theorem drop_getS {ds : List SV} {i : Nat} (h : i < ds.length) : ds.drop i = ds[i] :: ds.drop (i + 1) := List.drop_eq_getElem_cons h
theorem ds_forS {i0 : Nat} {x : Str} {x1 : Nat} {p1 p2 : Pos} {body : List Stmt} {mbody : Env → Mo Out} (hp : PassesOwn (model X.prog X.w) X.A X.env X.xe) (hc : X.calm = true) (hN : X.N.Nodup) (ha : DA X EA W es ml) (hb : DSs X EA W body mbody) (hi : X.N[i0]? = some x := by rfl) (hx : Loc X.env.scope x := by first | exact Or.inl rfl | exact Or.inr rfl)
    (hf : X.fn x = true ∨ X.env.scope.names.lookup x = some .local := by first | exact .inl rfl | exact .inr rfl | assumption) (hs : ∀ y, foldedSetIterable (.Tuple es x1 p2) X.env y = pure y := by intro _; rfl) : DS X EA W (.For (.Name x p1) (.Tuple es x1 p2) body [] pos) (mForS i0 ml mbody) := by
  obtain ⟨ta, pa, sa⟩ := ha.ex
  obtain ⟨tb, pb, sb⟩ := hb.ex
  refine ⟨_, ps_for hp hc (pi_tup (pe_tup pa)) (pg_name hN hi hx hf) pb hs, fun ι w σ H ρ D R E h => ?_⟩
  refine sa ι w σ H ρ _ R E (((Hyp.bind h).wE σ).imp fun xs ι0 w0 H0 s0 h0 Vs rs => ?_)
  by_cases c : fitsN xs.length = true
  · rw [if_pos c] at h0
    refine ⟨by rw [rs.length]; exact of_decide_eq_true c, fun z hz => ?_⟩
    have sz := Stp.new (o := .tup Vs) s0.rel hz
    have rs1 := rs.stp sz
    have h1 := h0.on sz
    have hzM : z ∉ mz ι0 w0 := fun m => s0.rel.ne m hz rfl
    refine ⟨z, rfl, ⟨_, SqT.of upd_same⟩, ?_⟩
    refine ⟨fun i m σ H => ∃ ι w ρ, m = xs.length - i ∧ i ≤ xs.length ∧ Stp X.K ι0 w0 (upd H0 z (.tup Vs)) ι w H ∧ EnvR X.K ι (mz ι w) H σ ρ ∧ Hyp X.K EA ι w H (forS i0 mbody (xs.drop i) ρ w) (OutP X D) (WE' W),
      ⟨xs.length, ι0, w0, ρ, rfl, Nat.zero_le _, Stp.refl sz.rel, (E.stp s0).stp sz, h1⟩, ?_⟩
    rintro i m σ2 H2 ⟨ι2, w2, ρ2, rfl, hi, s2, E2, h2⟩
    have hz2 : SqT X.K H2 z Vs := SqT.of (s2.go z _ hzM upd_same).1
    by_cases hlt : i < xs.length
    · obtain ⟨v, hv, rv⟩ := (rs1.stp s2).getx (List.getElem?_eq_getElem hlt)
      refine .inr ⟨⟨_, v, hz2, hv⟩, fun σ H => ∃ m', m' < xs.length - i ∧ ∃ ι w ρ, m' = xs.length - (i + 1) ∧ i + 1 ≤ xs.length ∧ Stp X.K ι0 w0 (upd H0 z (.tup Vs)) ι w H ∧ EnvR X.K ι (mz ι w) H σ ρ ∧ Hyp X.K EA ι w H (forS i0 mbody (xs.drop (i + 1)) ρ w) (OutP X D) (WE' W),
        fun σ' H' q => q, fun y H3 hy => ?_⟩
      obtain ⟨rfl, hy⟩ := hy
      have ey := hy Vs hz2
      rw [hv] at ey
      cases ey
      rw [drop_getS hlt] at h2
      refine sb ι2 w2 _ _ _ _ s2.rel (E2.set rv) ((Hyp.bind h2).imp fun o ι5 w5 H5 s5 h5 => ?_)
      have s15 := s2.trans s5
      cases o with
      | nx ρ5 => exact fun σ5 E5 => ⟨xs.length - (i + 1), by omega, ι5, w5, ρ5, rfl, hlt, s15, E5, h5⟩
      | ct ρ5 => exact fun σ5 E5 => ⟨xs.length - (i + 1), by omega, ι5, w5, ρ5, rfl, hlt, s15, E5, h5⟩
      | bk ρ5 =>
        have g : Hyp X.K EA ι5 w5 H5 (mPure (.nx ρ5) w5) (OutP X D) (WE' W) := h5
        exact fun σ5 E5 => (Hyp.pure g s5.rel : OutP X D (.nx ρ5) ι5 w5 H5) σ5 E5
      | rt v =>
        have g : Hyp X.K EA ι5 w5 H5 (mPure (.rt v) w5) (OutP X D) (WE' W) := h5
        exact (Hyp.pure g s5.rel : OutP X D (.rt v) ι5 w5 H5)
    · have e : i = xs.length := by omega
      subst e
      rw [List.drop_length] at h2
      have g : Hyp X.K EA ι2 w2 H2 (mPure (.nx ρ2) w2) (OutP X D) (WE' W) := h2
      exact .inl ⟨⟨Vs, hz2, by rw [rs.length]; exact Nat.le_refl _⟩, (Hyp.pure g s2.rel : OutP X D (.nx ρ2) ι2 w2 H2) σ2 E2⟩
  · rw [if_neg c] at h0; exact h0.elim
end
end EG


set_option Elab.async false
set_option linter.all false
set_option maxRecDepth 100000
set_option maxHeartbeats 4000000
namespace EG
open PySem PySem.Spec PyProof.Rows L2
/-! ### the law's own call -/
/-- no error leaves -/
def EA0 : EAt := fun _ _ _ _ _ _ => False
theorem EA0_go : EGo EA0 := fun _ _ _ _ _ _ _ _ _ h => h
/-- the abstract heap at the start: the script alone, where it is not one of the written part's own -/
def scrH (K : PySem.W.Frag) (a : Addr) (vs : List Value) (ns : List Int) : Hp := match K.lookup a with
  | some _ => fun _ => none
  | none => upd (fun _ => none) a (.frz { cls := .type "list", data := .seq vs.toArray } (.lst (ns.map V.int)))
theorem scrH_at {K : PySem.W.Frag} {a b : Addr} {vs : List Value} {ns : List Int} {u : HO} (h : scrH K a vs ns b = some u) : b = a ∧ K.lookup a = none ∧ u = .frz { cls := .type "list", data := .seq vs.toArray } (.lst (ns.map V.int)) := by
  unfold scrH at h
  cases k : K.lookup a with
  | some o => rw [k] at h; cases h
  | none =>
    rw [k] at h
    by_cases e : b = a
    · subst e
      have h2 : upd (fun _ => none) b _ b = some u := h
      rw [upd_same] at h2
      exact ⟨rfl, rfl, (Option.some.inj h2).symm⟩
    · have h2 : upd (fun _ => none) a _ b = some u := h
      rw [upd_ne e] at h2
      cases h2
theorem law_from {P : Program} {w : World} {K : PySem.W.Frag} {mg mb : Str → Option Value} {k : Nat} {fa a : Addr} {fd : FuncData} {x : Str} {g : Fn} {s : Shared} {vs : List Value} {ns : List Int}
    (KX : K.In s.heap) (n1 : s.heap.Ns mainGlobals mg) (n2 : s.heap.Ns builtinsNs mb) (n3 : ∀ x : Str, x ≠ "__name__" → mb x = bootBuiltins x) (lim : s.heap.NoLimit) (gens : s.gens = #[]) (oa : s.heap.get? a = some { cls := .type "list", data := .seq vs.toArray }) (hin : IntsAre vs ns) (len : ns.length ≤ sizeLine)
    (room : Room k callerA) (F : ∀ base : Heap, K.In base → base.Ns mainGlobals mg → FnG P w K mg base k fa fd [x] (spD 1 K EA0 g)) (bnd : ∀ (s : Shared) (u : Value), BindsTo s fd ⟨[u], []⟩ [(x, u)]) (ans : ∃ w', g [.scr ns] [] = some (.ok (.dat (.bool true)), w')) :
    codeAny (model P w) callerA (.call (.ref fa) ⟨[.ref a], []⟩) (fun r s' => r = .ok (.ret (.bool true)) ∧ OldK s.heap s'.heap ∧ s'.os = s.os ∧ AllBare s'.gens) s := by
  have vi := vals_ints hin
  obtain ⟨H, eH⟩ : ∃ H, H = scrH K a vs ns := ⟨_, rfl⟩
  have at1 : ∀ {b u}, H b = some u → b = a ∧ K.lookup a = none ∧ u = .frz { cls := .type "list", data := .seq vs.toArray } (.lst (ns.map V.int)) := fun {b u} h => scrH_at (by rw [← eH]; exact h)
  have script : SL K [] H a (ns.map V.int) := by
    cases hk : K.lookup a with
    | some o =>
      have e := KX a o hk
      rw [oa] at e
      cases e
      exact .inr (.inr ⟨_, vs.toArray, _, hk, rfl, rfl, rfl, by rw [List.size_toArray, hin.length]; exact len, by simpa using vi⟩)
    | none =>
      refine .inl ⟨.inr ⟨{ cls := .type "list", data := .seq vs.toArray }, ?_⟩, by simp⟩
      rw [eH]
      unfold scrH
      rw [hk]
      exact upd_same
  -- what the base keeps
  have none_of : ∀ {b : Addr} {o : Obj}, s.heap.get? b = some o → (b = a → K.lookup a ≠ none ∨ o.data ≠ .seq vs.toArray) → H b = none := fun {b o} e h => by
    cases q : H b with
    | none => rfl
    | some u =>
      obtain ⟨e1, e2, _⟩ := at1 q
      rcases h e1 with z | z
      · exact absurd e2 z
      · rw [e1, oa] at e
        cases e
        exact absurd rfl z
  have keepNs : ∀ {b : Addr} {m : Str → Option Value}, s.heap.Ns b m → (hidT s.heap H).Ns b m := fun {b m} ⟨o, es, ep, e, d, r⟩ => ⟨o, es, ep, hidT_get e (none_of e fun _ => .inr (by rw [d]; exact fun z => nomatch z)), d, r⟩
  have inB : K.In (hidT s.heap H) := fun b o e => hidT_get (KX b o e) (none_of (KX b o e) fun z => .inl (by rw [← z, e]; exact fun y => nomatch y))
  have hok : HOk P w H s.heap := fun b u h => by
    obtain ⟨rfl, _, rfl⟩ := at1 h
    exact ⟨oa, by rw [List.length_map]; exact len, vs, _, vi, oa⟩
  have e0 : Env0 P w K mg (hidT s.heap H) callerA [] s H := {
    frames := rfl
    mod := ⟨inB, keepNs n1, ⟨mb, keepNs n2, n3⟩, by obtain ⟨mc, q1, q2⟩ := lim; exact ⟨mc, keepNs q1, q2⟩⟩
    bs := fun _ _ e => of_hidT e
    bsz := Nat.le_of_eq (hidT_size _ _)
    funs := trivial
    frf := fun b hb => nomatch hb
    hok := hok
    bare := .of_eq gens }
  have start : spD 1 K EA0 g [V.ref a] H (fun v _ => v = .bl true) (fun _ _ _ => False) := by
    obtain ⟨w', ans⟩ := ans
    have r0 : SRel K [] [] H := ⟨rfl, fun n l o h => by simp at h, List.nodup_nil⟩
    refine ⟨[], [], [.scr ns], r0, .cons ⟨a, rfl, script⟩ .nil, rfl, ?_⟩
    rw [ans]
    intro ι' H' _ V r
    cases r
    rfl
  have run := (F _ inB (keepNs n1)).run callerA [] s H ⟨[.ref a], []⟩ [.ref a] [.ref a] _ _ rfl room e0 (bnd s (.ref a)) (.cons rfl .nil) start
  refine codeAny_mono run fun r s' h => ?_
  match r, h with
  | .error e, h =>
    obtain ⟨_, _, _, _, _, _, _, _, _, _, _, _, z⟩ := h
    exact z.elim
  | .ok (.ret u), h =>
    obtain ⟨v, H', os, bare, un, hok', r', rfl⟩ := h
    obtain rfl : u = Value.bool true := r'
    refine ⟨rfl, OldK.of_keep fun b o e => ?_, os, bare⟩
    cases q : H b with
    | none => exact un.keep b o e q (fun z => nomatch z) (by simp)
    | some u =>
      obtain ⟨rfl, _, rfl⟩ := at1 q
      have y := hok' b _ (un.frzs b _ _ q)
      rw [oa] at e
      cases e
      exact y.1
theorem law_end {l : PySem.W.OpenLaw} {n k : Nat} {q : Program} {loose : List Str} {XP : (Str → Option Value) → Heap → Prop} {YP : World → Heap → Prop} {d : DefRec} {K : Params → PySem.W.Frag} {x : Str} {g : World → Fn}
    (most : l.most = some n) (fits : n ≤ sizeLine) (plain : d.params.defaults = []) (room : Room k callerA) (hY : ∀ (w : World) (h : Heap), YP w h → (K w.params).In h)
    (F : ∀ (w : World) (mg : Str → Option Value) (fa : Addr) (h : Heap), (K w.params).In h → h.Ns mainGlobals mg → mg d.name = some (.ref fa) →
      ∃ fd : FuncData, (∀ (s : Shared) (u : Value), BindsTo s fd ⟨[u], []⟩ [(x, u)]) ∧ ∀ base : Heap, (K w.params).In base → base.Ns mainGlobals mg → FnG l.prog w (K w.params) mg base k fa fd [x] (spD 1 (K w.params) EA0 (g w)))
    (ans : ∀ (w : World) (ns : List Int), ns.length ≤ n → ∃ w', g w [.scr ns] [] = some (.ok (.dat (.bool true)), w')) :
    PySem.W.WalkO q loose XP YP l.row.toRowW d [] (fun f vs => PySem.call f vs) := by
  refine Att.attach_call most plain fun w s0 s mg mb fa o pm cd doc a vs ns G Y ho hd hcd hmg hobj hints hlen hg => ?_
  obtain ⟨fd, b, f⟩ := F w mg fa _ (hY w _ Y) G.T.g hmg
  exact law_from (hY w _ Y) G.T.g G.T.b G.T.builtins G.T.nolimit hg hobj hints (Nat.le_trans hlen fits) room f b (ans w ns hlen)
end EG


set_option Elab.async false
set_option linter.all false
set_option maxRecDepth 100000
set_option maxHeartbeats 4000000
namespace EG
open PySem PySem.Spec PyProof.Rows L2
/-! ### short names -/
section
variable {X : Cx} {EA : EAt} {W : WX} {a b c : Expr} {ma mb mc : Env → Mo SV} {pos : Pos}
theorem de_add (ha : DE X EA W a ma) (hb : DE X EA W b mb) : DE X EA W (.BinOp a .Add b pos) (mBin ma mb gAdd) := de_op op_add os_add ha hb
theorem de_sub (ha : DE X EA W a ma) (hb : DE X EA W b mb) : DE X EA W (.BinOp a .Sub b pos) (mBin ma mb gSub) := de_op op_sub os_sub ha hb
theorem de_mul (ha : DE X EA W a ma) (hb : DE X EA W b mb) : DE X EA W (.BinOp a .Mult b pos) (mBin ma mb gMul) := de_op op_mul os_mul ha hb
theorem de_mod (ha : DE X EA W a ma) (hb : DE X EA W b mb) : DE X EA W (.BinOp a .Mod b pos) (mBin ma mb gMod) := de_op op_mod os_mod ha hb
theorem de_fdv (ha : DE X EA W a ma) (hb : DE X EA W b mb) : DE X EA W (.BinOp a .FloorDiv b pos) (mBin ma mb gFdiv) := de_op op_fdiv os_fdiv ha hb
theorem de_pow (ha : DE X EA W a ma) (hb : DE X EA W b mb) : DE X EA W (.BinOp a .Pow b pos) (mBin ma mb gPow) := de_op op_pow os_pow ha hb
theorem de_rep (ha : DE X EA W a ma) (hb : DE X EA W b mb) : DE X EA W (.BinOp a .Mult b pos) (mBin ma mb gRep) := de_op op_rep os_rep ha hb
theorem de_cat (ha : DE X EA W a ma) (hb : DE X EA W b mb) : DE X EA W (.BinOp a .Add b pos) (mBin ma mb gCat) := de_op (OpR.or op_catA op_cat) os_cat ha hb
theorem de_catO (ha : DE X EA W a ma) (hb : DE X EA W b mb) : DE X EA W (.BinOp a .Add b pos) (mBinS ma mb gCatO) := de_opS op_cat os_catO ha hb
theorem dt_gt (ha : DE X EA W a ma) (hb : DE X EA W b mb) : DT X EA W (.Compare a [.Gt] [b] pos) (mTB (mBin ma mb gGt)) := dt_cmp op_gt os_gt ha hb
theorem dt_ge (ha : DE X EA W a ma) (hb : DE X EA W b mb) : DT X EA W (.Compare a [.GtE] [b] pos) (mTB (mBin ma mb gGe)) := dt_cmp op_ge os_ge ha hb
theorem dt_lt (ha : DE X EA W a ma) (hb : DE X EA W b mb) : DT X EA W (.Compare a [.Lt] [b] pos) (mTB (mBin ma mb gLt)) := dt_cmp op_lt os_lt ha hb
theorem dt_le (ha : DE X EA W a ma) (hb : DE X EA W b mb) : DT X EA W (.Compare a [.LtE] [b] pos) (mTB (mBin ma mb gLe)) := dt_cmp op_le os_le ha hb
theorem de_eq (hu : X.A.units + 64 < cLine) (ha : DE X EA W a ma) (hb : DE X EA W b mb) : DE X EA W (.Compare a [.Eq] [b] pos) (mBin ma mb gEq) := de_cmp (OpR.or (op_eqD hu) op_eq) os_eq ha hb
theorem dt_eq (hu : X.A.units + 64 < cLine) (ha : DE X EA W a ma) (hb : DE X EA W b mb) : DT X EA W (.Compare a [.Eq] [b] pos) (mTB (mBin ma mb gEq)) := dt_cmp (OpR.or (op_eqD hu) op_eq) os_eq ha hb
theorem dt_ne (hu : X.A.units + 64 < cLine) (ha : DE X EA W a ma) (hb : DE X EA W b mb) : DT X EA W (.Compare a [.NotEq] [b] pos) (mTB (mBin ma mb gNe)) := dt_cmp (OpR.or (op_neD hu) op_ne) os_ne ha hb
end
/-- a def of the module, by its name -/
structure OwnF (P : Program) (w : World) (K : PySem.W.Frag) (mg : Str → Option Value) (base : Heap) (EA : EAt) (k : Nat) (x : Str) (n : Nat) (g : Fn) : Prop where
  ex : ∃ f fd ps, FnG P w K mg base k f fd ps (spD n K EA g) ∧ mg x = some (.ref f) ∧ PySem.W.keepIn K (.ref f) = true ∧ Binds K fd ps []
section
variable {X : Cx} {EA : EAt} {W : WX} {k n : Nat} {g : Fn} {x : Str} {p pos : Pos} {e : Expr} {es : List Expr} {ml : Env → Mo (List SV)}
theorem de_own (F : OwnF X.prog X.w X.K X.mg X.base EA k x n g) (hg : X.A.guards = some []) (hr : Room k X.A) (tk : Takes X W) (ha : DA X EA W (e :: es) ml) (hn : LenM n ml)
    (hgl : Gl X x := by rfl) (hdb : (x == ("__debug__" : Str)) = false := by decide) (he : starEach (e :: es) X.env = (false, eval e X.env) :: starEach es X.env := by rfl) (hpl : (backTo pos (starEach es X.env)).any (·.1) = false := by rfl) :
    DE X EA W (.Call (.Name x p) (e :: es) [] pos) (mCall g ml) := by
  obtain ⟨f, fd, ps, F1, hm, hk, hb⟩ := F.ex
  exact de_call F1 hg hr hm hk hb tk ha hn hgl hdb he hpl
end
theorem OwnF.mono {P : Program} {w : World} {K : PySem.W.Frag} {mg : Str → Option Value} {base : Heap} {EA : EAt} {j k : Nat} {x : Str} {n : Nat} {g : Fn} (F : OwnF P w K mg base EA j x n g) (h : j ≤ k) : OwnF P w K mg base EA k x n g := by
  obtain ⟨f, fd, ps, F1, r⟩ := F.ex
  exact ⟨f, fd, ps, F1.mono h, r⟩
/-- an own exception class, by its name -/
structure OwnE (P : Program) (w : World) (K : PySem.W.Frag) (mg : Str → Option Value) (base : Heap) (B newId initId : String) (bmB : List Value) (k : Nat) (x : Str) (C : Addr) (flds : List Str) : Prop where
  T : EC K C B newId initId bmB
  xk : ExK K C
  mgx : mg x = some (.ref C)
  no : ∀ f ∈ flds, PySem.W.findIn K (.ref C) f = some none
  ex : ∃ fI fd ps, PySem.W.findIn K (.ref C) "__init__" = some (some (.ref fI)) ∧ PySem.W.typeIn K (.ref fI) = some (.type "function") ∧ FnG P w K mg base k fI fd ps (spIni C flds) ∧ Binds K fd ps [] ∧
    ∀ (r : Bool) (ks : List Str), turn r ks = flds → ∀ (s : Shared) (u : Value) (ws : List Value), ws.length = ks.length → BindsTo s fd ⟨[u], ks.zip ws⟩ (ps.zip (u :: turn r ws))
section
variable {X : Cx} {EA : EAt} {W : WX} {k : Nat} {x : Str} {p pos : Pos} {e : Expr} {es : List Expr} {ml : Env → Mo (List SV)} {B newId initId : String} {bmB : List Value} {C : Addr} {flds ks : List Str} {kws : List Keyword}
theorem de_exc (O : OwnE X.prog X.w X.K X.mg X.base B newId initId bmB k x C flds) (hg : X.A.guards = some []) (hr : Room (k + 1) X.A) (ha : DA X EA W (e :: es) ml) (hz : flds.length ≤ 1000 := by decide) (hgl : Gl X x := by rfl) (hdb : (x == ("__debug__" : Str)) = false := by decide)
    (he : starEach (e :: es) X.env = (false, eval e X.env) :: starEach es X.env := by rfl) (hpl : (backTo pos (starEach es X.env)).any (·.1) = false := by rfl) : DE X EA W (.Call (.Name x p) (e :: es) [] pos) (mMkE C flds ml) := by
  obtain ⟨fI, fd, ps, iC, tI, F1, hb, _⟩ := O.ex
  exact de_mkE O.T iC tI F1 hg hr hb O.mgx ha hz hgl hdb he hpl
theorem de_excK (r : Bool) (O : OwnE X.prog X.w X.K X.mg X.base B newId initId bmB k x C flds) (hg : X.A.guards = some []) (hr : Room (k + 1) X.A) (ha : DK X EA W kws ml) (ht : turn r ks = flds := by rfl) (hz : flds.length ≤ 1000 := by decide) (hgl : Gl X x := by rfl) (hdb : (x == ("__debug__" : Str)) = false := by decide)
    (hall : (backToKw pos (keywordEach kws X.env)).all (·.1.isSome) = true := by rfl) (hks : (backToKw pos (keywordEach kws X.env)).filterMap (·.1) = ks := by rfl)
    (hpl : ((backTo pos (starEach [] X.env)).any (·.1) || (backToKw pos (keywordEach kws X.env)).any (·.1.isNone)) = false := by rfl) :
    DE X EA W (.Call (.Name x p) [] kws pos) (mMkE C flds (mTurn r ml)) := by
  obtain ⟨fI, fd, ps, iC, tI, F1, hb, hk⟩ := O.ex
  exact de_mkK O.T iC tI F1 hg hr (fun s u ws _ hl => hk r ks ht s u ws hl) O.mgx ha hz (by rw [← ht, turn_len]) hgl hdb hall hks hpl
end
end EG


set_option Elab.async false
set_option linter.all false
set_option maxRecDepth 100000
set_option maxHeartbeats 4000000
namespace EG
open PySem PySem.Spec PyProof.Rows L2
theorem ne_nil : ∀ f ∈ ([] : List (PyData → Env → Mo Env)), NoErr f := fun _ h => nomatch h
theorem ne_cons {f : PyData → Env → Mo Env} {fs : List (PyData → Env → Mo Env)} (h : NoErr f) (r : ∀ g ∈ fs, NoErr g) : ∀ g ∈ f :: fs, NoErr g := fun g hg => by
  rcases List.mem_cons.mp hg with rfl | hg
  · exact h
  · exact r g hg
def blkB (N : List Str) (sc scope : Scope) (own : List (Str × Nat)) : Bool :=
  decide (scope.kind = .function) && (scope.names.all (fun y => decide (scope.names.lookup y.1 = some y.2)) && (own.all (fun p => decide (N[p.2]? = some p.1)) &&
    (scope.names.all (fun y => !decide (y.2 = .free) || (decide (sc.names.lookup y.1 = some .cell) || decide (sc.names.lookup y.1 = some .free))) && scope.names.all (fun y => !(decide (y.2 = .local) || decide (y.2 = .cell)) || (decide (y.1 ∈ own.map (·.1)) || !decide (y.1 ∈ N))))))
theorem blk_of {N : List Str} {sc scope : Scope} {own : List (Str × Nat)} (h : blkB N sc scope own = true) : BlkOk N sc scope own := by
  unfold blkB at h
  simp only [Bool.and_eq_true, List.all_eq_true, decide_eq_true_eq, Bool.or_eq_true, Bool.not_eq_true', decide_eq_false_iff_not] at h
  obtain ⟨h1, h2, h3, h4, h5⟩ := h
  refine ⟨h1, h2, h3, fun y hy e => ?_, fun y hy e => ?_⟩
  · rcases h4 y hy with z | z
    · exact absurd e z
    · exact z
  · rcases h5 y hy with z | z
    · have : (decide (y.2 = .local) || decide (y.2 = .cell)) = true := by
        rcases e with e | e <;> simp [e]
      rw [this] at z
      cases z
    · exact z
section
variable {X : Cx} {EA : EAt} {W : WX} {a b : Expr} {ma mb : Env → Mo SV} {pos p : Pos}
abbrev gMin : Op2 := gI fun i j => some (.int (if j < i then j else i))
theorem de_min2 (hc : X.calm = true) (hm : X.mg "min" = none) (ha : DE X EA W a ma) (hb : DE X EA W b mb) (hg : Gl X "min" := by rfl) (he : starEach (a :: [b]) X.env = (false, eval a X.env) :: starEach [b] X.env := by rfl) (he2 : starEach (b :: []) X.env = (false, eval b X.env) :: starEach [] X.env := by rfl)
    (hpl : (backTo pos (starEach [b] X.env)).any (·.1) = false := by rfl) : DE X EA W (.Call (.Name "min" p) [a, b] [] pos) (mBin ma mb gMin) := by
  obtain ⟨ta, pa, sa⟩ := ha.ex
  obtain ⟨tb, pb, sb⟩ := hb.ex
  refine ⟨_, pe_callB (call_min2 hc) hg hm (by decide +kernel) (pa_cons pa (pa_cons pb pa_nil he2) he) (by decide) (by decide) he hpl, fun ι w σ H ρ Q R E h => ?_⟩
  refine two (R := fun x y H2 => ∃ i j, [x, y] = [V.int i, V.int j] ∧ Q (.int (if j < i then j else i)) H2) sa sb R E h fun ι2 w2 H2 vx vy x y s rx ry h2 => ?_
  obtain ⟨i, j, rfl, rfl, q⟩ := (os_I0 (K := X.K) (g := fun i j => V.int (if j < i then j else i)) (f := fun i j => some (.int (if j < i then j else i))) (fun i j d h _ _ => by cases h; exact Dt.int _)).run s.rel rx ry h2
  exact ⟨i, j, rfl, q⟩
end
/-- a class's name -/
structure NmX (K : PySem.W.Frag) (mg : Str → Option Value) (T : Str) (tab : List (Addr × Bool)) : Prop where
  ex : ∃ (v : V) (u : Value), RelV v u ∧ (∀ u', RelV v u' → u' = u) ∧ (mg T = some u ∨ (mg T = none ∧ bootBuiltins T = some u ∧ T ≠ "__name__"))  ∧ ∀ p ∈ tab, ExK K p.1 ∧ PySem.W.kitOne K (.ref p.1) u = some p.2
section
variable {X : Cx} {EA : EAt} {W : WX} {a : Expr} {ma : Env → Mo SV} {pos p : Pos}
theorem de_isN {T : Str} {q0 : Pos} {tab : List (Addr × Bool)} (hm : X.mg "isinstance" = none) (N : NmX X.K X.mg T tab) (ha : DE X EA W a ma) (hg : Gl X "isinstance" := by rfl) (hgT : Gl X T := by rfl) (hdT : (T == ("__debug__" : Str)) = false := by decide)
    (he : starEach (a :: [.Name T q0]) X.env = (false, eval a X.env) :: starEach [.Name T q0] X.env := by rfl) (he2 : starEach (.Name T q0 :: []) X.env = (false, eval (.Name T q0) X.env) :: starEach [] X.env := by rfl) (hpl : (backTo pos (starEach [.Name T q0] X.env)).any (·.1) = false := by rfl) :
    DE X EA W (.Call (.Name "isinstance" p) [a, .Name T q0] [] pos) (mUn ma (gIsE tab)) := by
  obtain ⟨v, u, r, hu, hv, ht⟩ := N.ex
  rcases hv with hv | ⟨h1, h2, h3⟩
  · exact de_isE hm (pe_glob hgT hv r hdT) hu ht ha hg he he2 hpl
  · exact de_isE hm (pe_bltn hgT h1 h2 r h3 hdT) hu ht ha hg he he2 hpl
end
structure Zs (mg : Str → Option Value) : Prop where
  int : mg "int" = none
  len : mg "len" = none
  range : mg "range" = none
  enumerate : mg "enumerate" = none
  repr : mg "repr" = none
  min : mg "min" = none
  isinstance : mg "isinstance" = none
abbrev vaE (P : Program) (w : World) (K : PySem.W.Frag) (mg : Str → Option Value) (base : Heap) (k : Nat) (x : Str) (C : Addr) (flds : List Str) : Prop := OwnE P w K mg base "ValueError" "ValueError.__new__" "ValueError.__init__" [.type "ValueError", .type "Exception", .type "BaseException", .type "object"] k x C flds
abbrev ovE (P : Program) (w : World) (K : PySem.W.Frag) (mg : Str → Option Value) (base : Heap) (k : Nat) (x : Str) (C : Addr) (flds : List Str) : Prop := OwnE P w K mg base "OverflowError" "OverflowError.__new__" "OverflowError.__init__" [.type "OverflowError", .type "ArithmeticError", .type "Exception", .type "BaseException", .type "object"] k x C flds
end EG
namespace EG
namespace K80
open PySem PySem.Spec PyProof.Rows L2
def topS (i : Nat) : Stmt := PySem.Challenge.pw_idlewishes_k80_errors_of_the_third_part.main.body.getD i (.Pass ⟨0, 0, 0, 0⟩)
structure Cs where
  row : Addr
  menu : Addr
  log : Addr
  text : Addr
  great : Addr
def tab5 (c : Cs) (b1 b2 b3 b4 b5 : Bool) : List (Addr × Bool) := [(c.row, b1), (c.menu, b2), (c.log, b3), (c.text, b4), (c.great, b5)]
def m_law_mixed : Env → Mo Out := (mSeq (mAsg 2 (mBin (mBin (mBin (mUn (mBin (mBin (mV 0) (mBin (mC (.int 1)) (mBin (mC (.int 2)) (mV 1) gMul) gAdd) gMul) (mC (.int 48271)) gMul) gInt) (mC (.int 2147483647)) gMod) (mBin (mBin (mC (.int 7919)) (mV 1) gMul) (mV 1) gMul) gAdd) (mBin (mC (.int 104729)) (mV 1) gMul) gAdd))
  (mRet (mBin (mBin (mUn (mBin (mV 2) (mC (.int 69621)) gMul) gInt) (mC (.int 2147483629)) gMod) (mC (.int 7)) gFdiv)))
def g_law_mixed : Fn := mDef ["cell", "n", "blend"] (m_law_mixed)
abbrev s_law_mixed : Stmt := topS 14
theorem sc_law_mixed : FnScope ["cell", "n", "blend"] ["cell", "n"] (defScope s_law_mixed) := ⟨rfl, rfl, rfl, by decide +kernel, rfl, by decide +kernel, by decide +kernel⟩
def b_law_folded0 : Env → Mo Out := (mSti (mBin (mUn (mBin (mBin (mBin (mV 1) (mBin (mUn (mV 2) gInt) (mC (.int 64)) gMod) gIx) (mC (.int 48271)) gMul) (mV 3) gAdd) gInt) (mC (.int 2147483647)) gMod) (mV 1) (mBin (mUn (mV 2) gInt) (mC (.int 64)) gMod))
def b_law_folded1 : Env → Mo Out := (mSti (mBin (mUn (mBin (mBin (mV 1) (mV 2) gIx) (mBin (mBin (mV 1) (mBin (mV 2) (mC (.int 1)) gSub) gIx) (mC (.int 16807)) gMul) gAdd) gInt) (mC (.int 2147483647)) gMod) (mV 1) (mV 2))
def m_law_folded : Env → Mo Out := (mSeq (mAsg 1 (mLcO (mRange1 (mC (.int 64))) [2] (mSet 2) mYes (mBin (mC (.int 17)) (mV 2) gAdd)))
  (mSeq (mFor (mEnum (mV 0)) (mSetT [(mSet 2), (mSet 3)]) (b_law_folded0))
  (mSeq (mFor (mRange2 (mC (.int 1)) (mC (.int 64))) (mSet 2) (b_law_folded1))
  (mRet (mV 1)))))
def g_law_folded : Fn := mDef ["script", "found", "n", "cell"] (m_law_folded)
abbrev s_law_folded : Stmt := topS 15
theorem sc_law_folded : FnScope ["script", "found", "n", "cell"] ["script"] (defScope s_law_folded) := ⟨rfl, rfl, rfl, by decide +kernel, rfl, by decide +kernel, by decide +kernel⟩
def m_law_draw : Env → Mo Out := (mSeq (mAsg 2 (mUn (mV 0) gSpot))
  (mSeq (mSpotS (mV 0) (mBin (mV 2) (mC (.int 1)) gAdd))
  (mSeq (mIfS (mTB (mBin (mUn (mV 0) gGreat) (mLst mNil) gNe)) (mSeq (mAsg 3 (mUn (mV 0) gGreat))
  (mSeq (mAsg 4 (mBin (mUn (mV 2) gInt) (mUn (mV 3) gLen) gMod))
  (mSeq (mAsg 5 (mBin (mV 3) (mV 4) gIx))
  (mIfS (mTB (mBin (mV 5) (mC (.int 0)) gGt)) (mSeq (mGreatS (mBin (mV 5) (mV 1) gFdiv) (mV 3) (mV 4))
  (mRet (mBin (mUn (mV 5) gInt) (mV 1) gMod))) mSkip)))) mSkip)
  (mSeq (mAsg 3 (mUn (mV 0) gCells))
  (mRet (mBin (mUn (mCall g_law_mixed (mCons (mCall g_law_mixed (mCons (mBin (mBin (mV 3) (mBin (mUn (mV 2) gInt) (mC (.int 64)) gMod) gIx) (mBin (mC (.int 31)) (mBin (mV 2) (mC (.int 64)) gFdiv) gMul) gAdd) (mCons (mV 2) mNil))) (mCons (mBin (mV 2) (mC (.int 7)) gAdd) mNil))) gInt) (mV 1) gMod))))))
def g_law_draw : Fn := mDef ["m", "limit", "n", "lot", "here", "cell"] (m_law_draw)
abbrev s_law_draw : Stmt := topS 16
theorem sc_law_draw : FnScope ["m", "limit", "n", "lot", "here", "cell"] ["m", "limit"] (defScope s_law_draw) := ⟨rfl, rfl, rfl, by decide +kernel, rfl, by decide +kernel, by decide +kernel⟩
def m_law_begun : Env → Mo Out := (mSeq (mAsg 1 (mDisp [Sum.inr "cells", Sum.inr "great", Sum.inr "spot"] (mCons (mCall g_law_folded (mCons (mV 0) mNil)) (mCons (mLst mNil) (mCons (mC (.int 0)) mNil)))))
  (mSeq (mBeg 1 (mLcO (mItemsL (mV 0)) [2] (mSet 2) mYes (mIf (mTB (mBin (mV 2) (mBin (mC (.int 10)) (mC (.int 18)) gPow) gGe)) (mV 2) (mC (.int 0)))))
  (mRet (mV 1))))
def g_law_begun : Fn := mDef ["script", "m", "cell"] (m_law_begun)
abbrev s_law_begun : Stmt := topS 17
theorem sc_law_begun : FnScope ["script", "m", "cell"] ["script"] (defScope s_law_begun) := ⟨rfl, rfl, rfl, by decide +kernel, rfl, by decide +kernel, by decide +kernel⟩
def m_law_like : Env → Mo Out := (mRet (mBin (mUn (mV 0) gRepr) (mUn (mV 1) gRepr) gEq))
def g_law_like : Fn := mDef ["answer", "due"] (m_law_like)
abbrev s_law_like : Stmt := topS 18
theorem sc_law_like : FnScope ["answer", "due"] ["answer", "due"] (defScope s_law_like) := ⟨rfl, rfl, rfl, by decide +kernel, rfl, by decide +kernel, by decide +kernel⟩
def m_law_classes (c : Cs) : Env → Mo Out := (mSeq (mAsg 1 (mLst (mCons (mTup (mCons (mC (.str "machine")) (mCons (mUn (mV 0) (gIsE (tab5 c false false false false false))) mNil))) (mCons (mTup (mCons (mC (.str "wish")) (mCons (mUn (mV 0) (gIsE (tab5 c false false false false false))) mNil))) mNil))))
  (mSeq (mAsg 1 (mBinS (mV 1) (mLst (mCons (mTup (mCons (mC (.str "path")) (mCons (mUn (mV 0) (gIsE (tab5 c false false false false false))) mNil))) (mCons (mTup (mCons (mC (.str "run")) (mCons (mUn (mV 0) (gIsE (tab5 c false false false false false))) mNil))) mNil))) gCatO))
  (mSeq (mAsg 1 (mBinS (mV 1) (mLst (mCons (mTup (mCons (mC (.str "number")) (mCons (mUn (mV 0) (gIsE (tab5 c false false false false false))) mNil))) (mCons (mTup (mCons (mC (.str "paper")) (mCons (mUn (mV 0) (gIsE (tab5 c false false false false false))) mNil))) mNil))) gCatO))
  (mSeq (mAsg 1 (mBinS (mV 1) (mLst (mCons (mTup (mCons (mC (.str "row")) (mCons (mUn (mV 0) (gIsE (tab5 c true false false false false))) mNil))) (mCons (mTup (mCons (mC (.str "menu")) (mCons (mUn (mV 0) (gIsE (tab5 c false true false false false))) mNil))) mNil))) gCatO))
  (mSeq (mAsg 1 (mBinS (mV 1) (mLst (mCons (mTup (mCons (mC (.str "log")) (mCons (mUn (mV 0) (gIsE (tab5 c false false true false false))) mNil))) (mCons (mTup (mCons (mC (.str "text")) (mCons (mUn (mV 0) (gIsE (tab5 c false false false true false))) mNil))) mNil))) gCatO))
  (mSeq (mAsg 1 (mBinS (mV 1) (mLst (mCons (mTup (mCons (mC (.str "own")) (mCons (mUn (mV 0) (gIsE (tab5 c true true true true false))) mNil))) (mCons (mTup (mCons (mC (.str "sort")) (mCons (mUn (mV 0) (gIsE (tab5 c true true true true false))) mNil))) mNil))) gCatO))
  (mSeq (mDrop (mApp (mV 1) (mTup (mCons (mC (.str "great")) (mCons (mUn (mV 0) (gIsE (tab5 c false false false false true))) mNil)))))
  (mRet (mLc (mItemsL (mFrz (mV 1))) [2, 3] (mSetT [(mSet 2), (mSet 3)]) (mTB (mV 3)) (mV 2))))))))))
def g_law_classes (c : Cs) : Fn := mDef ["error", "rows", "label", "is_so"] (m_law_classes c)
abbrev s_law_classes : Stmt := topS 19
theorem sc_law_classes : FnScope ["error", "rows", "label", "is_so"] ["error"] (defScope s_law_classes) := ⟨rfl, rfl, rfl, by decide +kernel, rfl, by decide +kernel, by decide +kernel⟩
def blaw0 (c : Cs) : Env → Mo Out := (mIfS (mTB (mBin (mCall (g_law_classes c) (mCons (mBin (mV 8) (mV 9) gIxE) mNil)) (mLst (mCons (mBin (mLst (mCons (mC (.str "row")) (mCons (mC (.str "menu")) (mCons (mC (.str "log")) (mCons (mC (.str "text")) mNil))))) (mV 9) gIx) (mCons (mC (.str "own")) (mCons (mC (.str "sort")) mNil)))) gNe)) (mRet (mC (.bool false))) mSkip)
def blaw1 (c : Cs) : Env → Mo Out := (mSeq (mFor (mRange1 (mC (.int 4))) (mSet 9) (blaw0 c))
  (mSeq (mAsg 10 (mLst (mCons (mUn (mBin (mV 8) (mC (.int 0)) gIxE) (gFld [c.row, c.menu] "number")) (mCons (mUn (mBin (mV 8) (mC (.int 1)) gIxE) (gFld [c.row, c.menu] "number")) (mCons (mUn (mBin (mV 8) (mC (.int 2)) gIxE) (gFld [c.log] "place")) (mCons (mUn (mBin (mV 8) (mC (.int 3)) gIxE) (gFld [c.text] "line")) (mCons (mUn (mBin (mV 8) (mC (.int 3)) gIxE) (gFld [c.text] "word")) mNil)))))))
  (mIfS (mNot (mTB (mCall g_law_like (mCons (mV 10) (mCons (mBin (mBin (mLst (mCons (mV 4) mNil)) (mC (.int 4)) gRep) (mLst (mCons (mV 5) mNil)) gCat) mNil))))) (mRet (mC (.bool false))) mSkip)))
def blaw2 (c : Cs) : Env → Mo Out := (mGc (mSeq (mAsg 3 (mLstO (mCons (mC .none) (mCons (mC (.int 0)) (mCons (mC (.bool true)) (mCons (mCall g_law_draw (mCons (mV 1) (mCons (mBin (mC (.int 10)) (mC (.int 6)) gPow) mNil))) (mCons (mC (.str "")) (mCons (mC (.str "mark")) (mCons (mTup mNil) (mCons (mTup (mCons (mC (.int 1)) (mCons (mC (.str "a")) mNil))) (mCons (mLst (mCons (mC (.int 1)) (mCons (mLst (mCons (mC (.int 2)) mNil)) mNil))) (mCons mDisp0 mNil))))))))))))
  (mSeq (mDrop (mApp (mV 3) (mDisp [Sum.inr "a"] (mCons (mC (.int 1)) mNil))))
  (mSeq (mPar 4 5 (mCons (mBin (mV 3) (mCall g_law_draw (mCons (mV 1) (mCons (mC (.int 11)) mNil))) gIx) (mCons (mBin (mV 3) (mCall g_law_draw (mCons (mV 1) (mCons (mC (.int 11)) mNil))) gIx) mNil)))
  (mSeq (mAsg 6 (mExcs (mCons (mMkE c.row ["number"] (mCons (mV 4) mNil)) (mCons (mMkE c.menu ["number"] (mCons (mV 4) mNil)) (mCons (mMkE c.log ["place"] (mCons (mV 4) mNil)) (mCons (mMkE c.text ["line", "word"] (mCons (mV 4) (mCons (mV 5) mNil))) mNil))))))
  (mSeq (mAsg 7 (mExcs (mCons (mMkE c.row ["number"] (mTurn false (mCons (mV 4) mNil))) (mCons (mMkE c.menu ["number"] (mTurn false (mCons (mV 4) mNil))) (mCons (mMkE c.log ["place"] (mTurn false (mCons (mV 4) mNil))) (mCons (mMkE c.text ["line", "word"] (mTurn true (mCons (mV 5) (mCons (mV 4) mNil)))) mNil))))))
  (mSeq (mForS 8 (mCons (mV 6) (mCons (mV 7) mNil)) (blaw1 c))
  (mIfS (mOr (mTB (mBin (mCall (g_law_classes c) (mCons (mMkE c.great ["most"] (mCons (mV 4) mNil)) mNil)) (mLst (mCons (mC (.str "great")) mNil)) gNe)) (mNot (mTB (mCall g_law_like (mCons (mUn (mMkE c.great ["most"] (mCons (mV 4) mNil)) (gFld [c.great] "most")) (mCons (mV 4) mNil)))))) (mRet (mC (.bool false))) mSkip))))))))
def mlaw (c : Cs) : Env → Mo Out := (mSeq (mAsg 1 (mCall g_law_begun (mCons (mV 0) mNil)))
  (mSeq (mFor (mRange1 (mBin (mC (.int 3)) (mBin (mC (.int 6)) (mUn (mV 0) gLen) gMin) gAdd)) (mSet 2) (blaw2 c))
  (mRet (mC (.bool true)))))
def glaw (c : Cs) : Fn := mDef ["script", "m", "turn", "things", "q", "z", "by_place", "by_names", "some", "k", "told_so"] (mlaw c)
abbrev slaw : Stmt := topS 20
theorem sclaw : FnScope ["script", "m", "turn", "things", "q", "z", "by_place", "by_names", "some", "k", "told_so"] ["script"] (defScope slaw) := ⟨rfl, rfl, rfl, by decide +kernel, rfl, by decide +kernel, by decide +kernel⟩section
variable {P : Program} {w : World} {K : PySem.W.Frag} {mg : Str → Option Value} {base : Heap} {f : Addr}
theorem d_law_mixed  (z : Zs mg) (cdv : Value) (A : Around) (outer : List PySem.Env) (s : Shared) (H : Hp) (E : XK) (hg0 : A.guards = some []) (hr : Room 0 (A.deeper (envOfC "_law_mixed" (defScope s_law_mixed) s.heap.objs.size f cdv))) :
    DSs (cxOf (L2.CX P w) P w K mg base ["cell", "n", "blend"] "_law_mixed" (defScope s_law_mixed) f cdv A outer s H E) EA0 (fun cls d _ H => E cls d H) (defBody s_law_mixed) (m_law_mixed) := by
  have hg : (cxOf (L2.CX P w) P w K mg base ["cell", "n", "blend"] "_law_mixed" (defScope s_law_mixed) f cdv A outer s H E).A.guards = some [] := hg0
  have hu : (cxOf (L2.CX P w) P w K mg base ["cell", "n", "blend"] "_law_mixed" (defScope s_law_mixed) f cdv A outer s H E).A.units + 64 < cLine := hr.units
  have hu1 : (cxOf (L2.CX P w) P w K mg base ["cell", "n", "blend"] "_law_mixed" (defScope s_law_mixed) f cdv A outer s H E).A.units + 1 < cLine := hu_of hr
  have hp : PassesOwn (model P w) (cxOf (L2.CX P w) P w K mg base ["cell", "n", "blend"] "_law_mixed" (defScope s_law_mixed) f cdv A outer s H E).A (cxOf (L2.CX P w) P w K mg base ["cell", "n", "blend"] "_law_mixed" (defScope s_law_mixed) f cdv A outer s H E).env (cxOf (L2.CX P w) P w K mg base ["cell", "n", "blend"] "_law_mixed" (defScope s_law_mixed) f cdv A outer s H E).xe := passes_of rfl
  have tk : Takes (cxOf (L2.CX P w) P w K mg base ["cell", "n", "blend"] "_law_mixed" (defScope s_law_mixed) f cdv A outer s H E) (fun cls d _ H => E cls d H) := takes_of rfl rfl rfl rfl
  have nd := sc_law_mixed.nd
  exact (dss_cons (ds_asg (i := 2) nd (de_add (de_add (de_mod (de_t1 call_int1 un_int z.int (by decide +kernel) (de_mul (de_mul (dv 0) (de_add d_int (de_mul d_int (dv 1)))) d_int)) d_int) (de_mul (de_mul d_int (dv 1)) (dv 1))) (de_mul d_int (dv 1))))
    (dss_one (ds_ret (de_fdv (de_mod (de_t1 call_int1 un_int z.int (by decide +kernel) (de_mul (dv 2) d_int)) d_int) d_int))))
theorem d_law_folded  (z : Zs mg) (cdv : Value) (A : Around) (outer : List PySem.Env) (s : Shared) (H : Hp) (E : XK) (hg0 : A.guards = some []) (hr : Room 0 (A.deeper (envOfC "_law_folded" (defScope s_law_folded) s.heap.objs.size f cdv))) :
    DSs (cxOf (L2.CX P w) P w K mg base ["script", "found", "n", "cell"] "_law_folded" (defScope s_law_folded) f cdv A outer s H E) EA0 (fun cls d _ H => E cls d H) (defBody s_law_folded) (m_law_folded) := by
  have hg : (cxOf (L2.CX P w) P w K mg base ["script", "found", "n", "cell"] "_law_folded" (defScope s_law_folded) f cdv A outer s H E).A.guards = some [] := hg0
  have hu : (cxOf (L2.CX P w) P w K mg base ["script", "found", "n", "cell"] "_law_folded" (defScope s_law_folded) f cdv A outer s H E).A.units + 64 < cLine := hr.units
  have hu1 : (cxOf (L2.CX P w) P w K mg base ["script", "found", "n", "cell"] "_law_folded" (defScope s_law_folded) f cdv A outer s H E).A.units + 1 < cLine := hu_of hr
  have hp : PassesOwn (model P w) (cxOf (L2.CX P w) P w K mg base ["script", "found", "n", "cell"] "_law_folded" (defScope s_law_folded) f cdv A outer s H E).A (cxOf (L2.CX P w) P w K mg base ["script", "found", "n", "cell"] "_law_folded" (defScope s_law_folded) f cdv A outer s H E).env (cxOf (L2.CX P w) P w K mg base ["script", "found", "n", "cell"] "_law_folded" (defScope s_law_folded) f cdv A outer s H E).xe := passes_of rfl
  have tk : Takes (cxOf (L2.CX P w) P w K mg base ["script", "found", "n", "cell"] "_law_folded" (defScope s_law_folded) f cdv A outer s H E) (fun cls d _ H => E cls d H) := takes_of rfl rfl rfl rfl
  have nd := sc_law_folded.nd
  exact (dss_cons (ds_setLcO (i := 1) (own := [("n", 2)]) rfl nd (di_range1 z.range d_int) (blk_of (by rfl)) (fun _ _ _ _ _ => (dg_name (i := 2) nd)) (fun _ _ _ _ _ => dts_nil) (fun _ _ _ _ _ => (de_add d_int (dv 2))) (by decide))
    (dss_cons (ds_for hp rfl (di_enum z.enumerate (dv 0)) (dg_tup rfl (dgs_cons (dg_name (i := 2) nd) (dgs_cons (dg_name (i := 3) nd) dgs_nil))) (dss_one (ds_sti (de_mod (de_t1 call_int1 un_int z.int (by decide +kernel) (de_add (de_mul (de_ix (dv 1) (de_mod (de_t1 call_int1 un_int z.int (by decide +kernel) (dv 2)) d_int)) d_int) (dv 3))) d_int) (dv 1) (de_mod (de_t1 call_int1 un_int z.int (by decide +kernel) (dv 2)) d_int))) (NoErr.tup (ne_cons (NoErr.name 2) (ne_cons (NoErr.name 3) ne_nil))))
    (dss_cons (ds_for hp rfl (di_range2 z.range d_int d_int) (dg_name (i := 2) nd) (dss_one (ds_sti (de_mod (de_t1 call_int1 un_int z.int (by decide +kernel) (de_add (de_ix (dv 1) (dv 2)) (de_mul (de_ix (dv 1) (de_sub (dv 2) d_int)) d_int))) d_int) (dv 1) (dv 2))) (NoErr.name 2))
    (dss_one (ds_ret (dv 1))))))
theorem d_law_draw  (F_law_mixed : OwnF P w K mg base EA0 1 "_law_mixed" 2 g_law_mixed) (z : Zs mg) (cdv : Value) (A : Around) (outer : List PySem.Env) (s : Shared) (H : Hp) (E : XK) (hg0 : A.guards = some []) (hr : Room 1 (A.deeper (envOfC "_law_draw" (defScope s_law_draw) s.heap.objs.size f cdv))) :
    DSs (cxOf (L2.CX P w) P w K mg base ["m", "limit", "n", "lot", "here", "cell"] "_law_draw" (defScope s_law_draw) f cdv A outer s H E) EA0 (fun cls d _ H => E cls d H) (defBody s_law_draw) (m_law_draw) := by
  have hg : (cxOf (L2.CX P w) P w K mg base ["m", "limit", "n", "lot", "here", "cell"] "_law_draw" (defScope s_law_draw) f cdv A outer s H E).A.guards = some [] := hg0
  have hu : (cxOf (L2.CX P w) P w K mg base ["m", "limit", "n", "lot", "here", "cell"] "_law_draw" (defScope s_law_draw) f cdv A outer s H E).A.units + 64 < cLine := hr.units
  have hu1 : (cxOf (L2.CX P w) P w K mg base ["m", "limit", "n", "lot", "here", "cell"] "_law_draw" (defScope s_law_draw) f cdv A outer s H E).A.units + 1 < cLine := hu_of hr
  have hp : PassesOwn (model P w) (cxOf (L2.CX P w) P w K mg base ["m", "limit", "n", "lot", "here", "cell"] "_law_draw" (defScope s_law_draw) f cdv A outer s H E).A (cxOf (L2.CX P w) P w K mg base ["m", "limit", "n", "lot", "here", "cell"] "_law_draw" (defScope s_law_draw) f cdv A outer s H E).env (cxOf (L2.CX P w) P w K mg base ["m", "limit", "n", "lot", "here", "cell"] "_law_draw" (defScope s_law_draw) f cdv A outer s H E).xe := passes_of rfl
  have tk : Takes (cxOf (L2.CX P w) P w K mg base ["m", "limit", "n", "lot", "here", "cell"] "_law_draw" (defScope s_law_draw) f cdv A outer s H E) (fun cls d _ H => E cls d H) := takes_of rfl rfl rfl rfl
  have nd := sc_law_draw.nd
  exact (dss_cons (ds_asg (i := 2) nd (de_spot hu1 (dv 0)))
    (dss_cons (ds_spot hu1 (dv 0) (de_add (dv 2) d_int))
    (dss_cons (ds_if (dt_ne hu (de_great hu1 (dv 0)) (de_lst da_nil)) (dss_cons (ds_asg (i := 3) nd (de_great hu1 (dv 0)))
    (dss_cons (ds_asg (i := 4) nd (de_mod (de_t1 call_int1 un_int z.int (by decide +kernel) (dv 2)) (de_b1 call_len un_len z.len (by decide +kernel) (dv 3))))
    (dss_cons (ds_asg (i := 5) nd (de_ix (dv 3) (dv 4)))
    (dss_one (ds_if (dt_gt (dv 5) d_int) (dss_cons (ds_great (de_fdv (dv 5) (dv 1)) (dv 3) (dv 4))
    (dss_one (ds_ret (de_mod (de_t1 call_int1 un_int z.int (by decide +kernel) (dv 5)) (dv 1))))) dss_nil))))) dss_nil)
    (dss_cons (ds_asg (i := 3) nd (de_cells hu1 (dv 0)))
    (dss_one (ds_ret (de_mod (de_t1 call_int1 un_int z.int (by decide +kernel) (de_own F_law_mixed hg (hr.mono (by decide)) tk (da_cons (de_own F_law_mixed hg (hr.mono (by decide)) tk (da_cons (de_add (de_ix (dv 3) (de_mod (de_t1 call_int1 un_int z.int (by decide +kernel) (dv 2)) d_int)) (de_mul d_int (de_fdv (dv 2) d_int))) (da_cons (dv 2) da_nil)) (LenM.cons (LenM.cons LenM.nil))) (da_cons (de_add (dv 2) d_int) da_nil)) (LenM.cons (LenM.cons LenM.nil)))) (dv 1))))))))
theorem d_law_begun  (F_law_folded : OwnF P w K mg base EA0 1 "_law_folded" 1 g_law_folded) (z : Zs mg) (cdv : Value) (A : Around) (outer : List PySem.Env) (s : Shared) (H : Hp) (E : XK) (hg0 : A.guards = some []) (hr : Room 1 (A.deeper (envOfC "_law_begun" (defScope s_law_begun) s.heap.objs.size f cdv))) :
    DSs (cxOf (L2.CX P w) P w K mg base ["script", "m", "cell"] "_law_begun" (defScope s_law_begun) f cdv A outer s H E) EA0 (fun cls d _ H => E cls d H) (defBody s_law_begun) (m_law_begun) := by
  have hg : (cxOf (L2.CX P w) P w K mg base ["script", "m", "cell"] "_law_begun" (defScope s_law_begun) f cdv A outer s H E).A.guards = some [] := hg0
  have hu : (cxOf (L2.CX P w) P w K mg base ["script", "m", "cell"] "_law_begun" (defScope s_law_begun) f cdv A outer s H E).A.units + 64 < cLine := hr.units
  have hu1 : (cxOf (L2.CX P w) P w K mg base ["script", "m", "cell"] "_law_begun" (defScope s_law_begun) f cdv A outer s H E).A.units + 1 < cLine := hu_of hr
  have hp : PassesOwn (model P w) (cxOf (L2.CX P w) P w K mg base ["script", "m", "cell"] "_law_begun" (defScope s_law_begun) f cdv A outer s H E).A (cxOf (L2.CX P w) P w K mg base ["script", "m", "cell"] "_law_begun" (defScope s_law_begun) f cdv A outer s H E).env (cxOf (L2.CX P w) P w K mg base ["script", "m", "cell"] "_law_begun" (defScope s_law_begun) f cdv A outer s H E).xe := passes_of rfl
  have tk : Takes (cxOf (L2.CX P w) P w K mg base ["script", "m", "cell"] "_law_begun" (defScope s_law_begun) f cdv A outer s H E) (fun cls d _ H => E cls d H) := takes_of rfl rfl rfl rfl
  have nd := sc_law_begun.nd
  exact (dss_cons (ds_asg (i := 1) nd (de_disp (ks := [Sum.inr "cells", Sum.inr "great", Sum.inr "spot"]) (dps_cons (de_own F_law_folded hg (hr.mono (by decide)) tk (da_cons (dv 0) da_nil) (LenM.cons LenM.nil)) (dps_cons (de_lst da_nil) (dps_cons d_int dps_nil)))))
    (dss_cons (ds_beg (i := 1) hu1 (de_lcO (own := [("cell", 2)]) rfl nd (di_list (dv 0)) (blk_of (by rfl)) (fun _ _ _ _ _ => (dg_name (i := 2) nd)) (fun _ _ _ _ _ => dts_nil) (fun _ _ _ _ _ => (de_if (dt_ge (dv 2) (de_pow d_int d_int)) (dv 2) d_int)) (by decide)))
    (dss_one (ds_ret (dv 1)))))
theorem d_law_like  (z : Zs mg) (cdv : Value) (A : Around) (outer : List PySem.Env) (s : Shared) (H : Hp) (E : XK) (hg0 : A.guards = some []) (hr : Room 0 (A.deeper (envOfC "_law_like" (defScope s_law_like) s.heap.objs.size f cdv))) :
    DSs (cxOf (L2.CX P w) P w K mg base ["answer", "due"] "_law_like" (defScope s_law_like) f cdv A outer s H E) EA0 (fun cls d _ H => E cls d H) (defBody s_law_like) (m_law_like) := by
  have hg : (cxOf (L2.CX P w) P w K mg base ["answer", "due"] "_law_like" (defScope s_law_like) f cdv A outer s H E).A.guards = some [] := hg0
  have hu : (cxOf (L2.CX P w) P w K mg base ["answer", "due"] "_law_like" (defScope s_law_like) f cdv A outer s H E).A.units + 64 < cLine := hr.units
  have hu1 : (cxOf (L2.CX P w) P w K mg base ["answer", "due"] "_law_like" (defScope s_law_like) f cdv A outer s H E).A.units + 1 < cLine := hu_of hr
  have hp : PassesOwn (model P w) (cxOf (L2.CX P w) P w K mg base ["answer", "due"] "_law_like" (defScope s_law_like) f cdv A outer s H E).A (cxOf (L2.CX P w) P w K mg base ["answer", "due"] "_law_like" (defScope s_law_like) f cdv A outer s H E).env (cxOf (L2.CX P w) P w K mg base ["answer", "due"] "_law_like" (defScope s_law_like) f cdv A outer s H E).xe := passes_of rfl
  have tk : Takes (cxOf (L2.CX P w) P w K mg base ["answer", "due"] "_law_like" (defScope s_law_like) f cdv A outer s H E) (fun cls d _ H => E cls d H) := takes_of rfl rfl rfl rfl
  have nd := sc_law_like.nd
  exact (dss_one (ds_ret (de_eq hu (de_b1 (call_reprD hg hu) un_repr z.repr (by decide +kernel) (dv 0)) (de_b1 (call_reprD hg hu) un_repr z.repr (by decide +kernel) (dv 1)))))
theorem d_law_classes (c : Cs)  (NBadMachine : NmX K mg "BadMachine" (tab5 c false false false false false)) (NBadWish : NmX K mg "BadWish" (tab5 c false false false false false)) (NBadPath : NmX K mg "BadPath" (tab5 c false false false false false)) (NBadRun : NmX K mg "BadRun" (tab5 c false false false false false)) (NBadNumber : NmX K mg "BadNumber" (tab5 c false false false false false)) (NBadPaper : NmX K mg "BadPaper" (tab5 c false false false false false)) (NBadRow : NmX K mg "BadRow" (tab5 c true false false false false)) (NBadMenu : NmX K mg "BadMenu" (tab5 c false true false false false)) (NBadLog : NmX K mg "BadLog" (tab5 c false false true false false)) (NBadText : NmX K mg "BadText" (tab5 c false false false true false)) (NWishError : NmX K mg "WishError" (tab5 c true true true true false)) (NValueError : NmX K mg "ValueError" (tab5 c true true true true false)) (NTooGreat : NmX K mg "TooGreat" (tab5 c false false false false true)) (z : Zs mg) (cdv : Value) (A : Around) (outer : List PySem.Env) (s : Shared) (H : Hp) (E : XK) (hg0 : A.guards = some []) (hr : Room 0 (A.deeper (envOfC "_law_classes" (defScope s_law_classes) s.heap.objs.size f cdv))) :
    DSs (cxOf (L2.CX P w) P w K mg base ["error", "rows", "label", "is_so"] "_law_classes" (defScope s_law_classes) f cdv A outer s H E) EA0 (fun cls d _ H => E cls d H) (defBody s_law_classes) (m_law_classes c) := by
  have hg : (cxOf (L2.CX P w) P w K mg base ["error", "rows", "label", "is_so"] "_law_classes" (defScope s_law_classes) f cdv A outer s H E).A.guards = some [] := hg0
  have hu : (cxOf (L2.CX P w) P w K mg base ["error", "rows", "label", "is_so"] "_law_classes" (defScope s_law_classes) f cdv A outer s H E).A.units + 64 < cLine := hr.units
  have hu1 : (cxOf (L2.CX P w) P w K mg base ["error", "rows", "label", "is_so"] "_law_classes" (defScope s_law_classes) f cdv A outer s H E).A.units + 1 < cLine := hu_of hr
  have hp : PassesOwn (model P w) (cxOf (L2.CX P w) P w K mg base ["error", "rows", "label", "is_so"] "_law_classes" (defScope s_law_classes) f cdv A outer s H E).A (cxOf (L2.CX P w) P w K mg base ["error", "rows", "label", "is_so"] "_law_classes" (defScope s_law_classes) f cdv A outer s H E).env (cxOf (L2.CX P w) P w K mg base ["error", "rows", "label", "is_so"] "_law_classes" (defScope s_law_classes) f cdv A outer s H E).xe := passes_of rfl
  have tk : Takes (cxOf (L2.CX P w) P w K mg base ["error", "rows", "label", "is_so"] "_law_classes" (defScope s_law_classes) f cdv A outer s H E) (fun cls d _ H => E cls d H) := takes_of rfl rfl rfl rfl
  have nd := sc_law_classes.nd
  exact (dss_cons (ds_asg (i := 1) nd (de_lst (da_cons (de_tup (da_cons d_str (da_cons (de_isN z.isinstance NBadMachine (dv 0)) da_nil))) (da_cons (de_tup (da_cons d_str (da_cons (de_isN z.isinstance NBadWish (dv 0)) da_nil))) da_nil))))
    (dss_cons (ds_asg (i := 1) nd (de_catO (dv 1) (de_lst (da_cons (de_tup (da_cons d_str (da_cons (de_isN z.isinstance NBadPath (dv 0)) da_nil))) (da_cons (de_tup (da_cons d_str (da_cons (de_isN z.isinstance NBadRun (dv 0)) da_nil))) da_nil)))))
    (dss_cons (ds_asg (i := 1) nd (de_catO (dv 1) (de_lst (da_cons (de_tup (da_cons d_str (da_cons (de_isN z.isinstance NBadNumber (dv 0)) da_nil))) (da_cons (de_tup (da_cons d_str (da_cons (de_isN z.isinstance NBadPaper (dv 0)) da_nil))) da_nil)))))
    (dss_cons (ds_asg (i := 1) nd (de_catO (dv 1) (de_lst (da_cons (de_tup (da_cons d_str (da_cons (de_isN z.isinstance NBadRow (dv 0)) da_nil))) (da_cons (de_tup (da_cons d_str (da_cons (de_isN z.isinstance NBadMenu (dv 0)) da_nil))) da_nil)))))
    (dss_cons (ds_asg (i := 1) nd (de_catO (dv 1) (de_lst (da_cons (de_tup (da_cons d_str (da_cons (de_isN z.isinstance NBadLog (dv 0)) da_nil))) (da_cons (de_tup (da_cons d_str (da_cons (de_isN z.isinstance NBadText (dv 0)) da_nil))) da_nil)))))
    (dss_cons (ds_asg (i := 1) nd (de_catO (dv 1) (de_lst (da_cons (de_tup (da_cons d_str (da_cons (de_isN z.isinstance NWishError (dv 0)) da_nil))) (da_cons (de_tup (da_cons d_str (da_cons (de_isN z.isinstance NValueError (dv 0)) da_nil))) da_nil)))))
    (dss_cons (ds_drop (de_app (dv 1) (de_tup (da_cons d_str (da_cons (de_isN z.isinstance NTooGreat (dv 0)) da_nil)))))
    (dss_one (ds_ret (de_lc (own := [("label", 2), ("is_so", 3)]) rfl nd (di_list (de_frz (dv 1))) (blk_of (by rfl)) (fun _ _ _ _ _ => (dg_tup rfl (dgs_cons (dg_name (i := 2) nd) (dgs_cons (dg_name (i := 3) nd) dgs_nil)))) (fun _ _ _ _ _ => (dts_one (dt_val (dv 3)))) (fun _ _ _ _ _ => (dv 2)) (by decide)))))))))))
theorem dlaw (c : Cs)  (F_law_begun : OwnF P w K mg base EA0 2 "_law_begun" 1 g_law_begun) (F_law_draw : OwnF P w K mg base EA0 2 "_law_draw" 2 g_law_draw) (F_law_like : OwnF P w K mg base EA0 1 "_law_like" 2 g_law_like) (F_law_classes : OwnF P w K mg base EA0 1 "_law_classes" 1 (g_law_classes c)) (OBadRow : vaE P w K mg base 1 "BadRow" c.row ["number"]) (OBadMenu : vaE P w K mg base 1 "BadMenu" c.menu ["number"]) (OBadLog : vaE P w K mg base 1 "BadLog" c.log ["place"]) (OBadText : vaE P w K mg base 1 "BadText" c.text ["line", "word"]) (OTooGreat : ovE P w K mg base 1 "TooGreat" c.great ["most"]) (fnumber : ∀ C ∈ [c.row, c.menu], ExK K C ∧ PySem.W.findIn K (.ref C) "number" = some none) (fplace : ∀ C ∈ [c.log], ExK K C ∧ PySem.W.findIn K (.ref C) "place" = some none) (fline : ∀ C ∈ [c.text], ExK K C ∧ PySem.W.findIn K (.ref C) "line" = some none) (fword : ∀ C ∈ [c.text], ExK K C ∧ PySem.W.findIn K (.ref C) "word" = some none) (fmost : ∀ C ∈ [c.great], ExK K C ∧ PySem.W.findIn K (.ref C) "most" = some none) (z : Zs mg) (cdv : Value) (A : Around) (outer : List PySem.Env) (s : Shared) (H : Hp) (E : XK) (hg0 : A.guards = some []) (hr : Room 2 (A.deeper (envOfC "law" (defScope slaw) s.heap.objs.size f cdv))) :
    DSs (cxOf (L2.CX P w) P w K mg base ["script", "m", "turn", "things", "q", "z", "by_place", "by_names", "some", "k", "told_so"] "law" (defScope slaw) f cdv A outer s H E) EA0 (fun cls d _ H => E cls d H) (defBody slaw) (mlaw c) := by
  have hg : (cxOf (L2.CX P w) P w K mg base ["script", "m", "turn", "things", "q", "z", "by_place", "by_names", "some", "k", "told_so"] "law" (defScope slaw) f cdv A outer s H E).A.guards = some [] := hg0
  have hu : (cxOf (L2.CX P w) P w K mg base ["script", "m", "turn", "things", "q", "z", "by_place", "by_names", "some", "k", "told_so"] "law" (defScope slaw) f cdv A outer s H E).A.units + 64 < cLine := hr.units
  have hu1 : (cxOf (L2.CX P w) P w K mg base ["script", "m", "turn", "things", "q", "z", "by_place", "by_names", "some", "k", "told_so"] "law" (defScope slaw) f cdv A outer s H E).A.units + 1 < cLine := hu_of hr
  have hp : PassesOwn (model P w) (cxOf (L2.CX P w) P w K mg base ["script", "m", "turn", "things", "q", "z", "by_place", "by_names", "some", "k", "told_so"] "law" (defScope slaw) f cdv A outer s H E).A (cxOf (L2.CX P w) P w K mg base ["script", "m", "turn", "things", "q", "z", "by_place", "by_names", "some", "k", "told_so"] "law" (defScope slaw) f cdv A outer s H E).env (cxOf (L2.CX P w) P w K mg base ["script", "m", "turn", "things", "q", "z", "by_place", "by_names", "some", "k", "told_so"] "law" (defScope slaw) f cdv A outer s H E).xe := passes_of rfl
  have tk : Takes (cxOf (L2.CX P w) P w K mg base ["script", "m", "turn", "things", "q", "z", "by_place", "by_names", "some", "k", "told_so"] "law" (defScope slaw) f cdv A outer s H E) (fun cls d _ H => E cls d H) := takes_of rfl rfl rfl rfl
  have nd := sclaw.nd
  exact (dss_cons (ds_asg (i := 1) nd (de_own F_law_begun hg (hr.mono (by decide)) tk (da_cons (dv 0) da_nil) (LenM.cons LenM.nil)))
    (dss_cons (ds_for hp rfl (di_range1 z.range (de_add d_int (de_min2 rfl z.min d_int (de_b1 call_len un_len z.len (by decide +kernel) (dv 0))))) (dg_name (i := 2) nd) (dss_gc (dss_cons (ds_asg (i := 3) nd (de_lstO (da_cons d_non (da_cons d_int (da_cons d_bl (da_cons (de_own F_law_draw hg (hr.mono (by decide)) tk (da_cons (dv 1) (da_cons (de_pow d_int d_int) da_nil)) (LenM.cons (LenM.cons LenM.nil))) (da_cons d_str (da_cons d_str (da_cons (de_tup da_nil) (da_cons (de_tup (da_cons d_int (da_cons d_str da_nil))) (da_cons (de_lst (da_cons d_int (da_cons (de_lst (da_cons d_int da_nil)) da_nil))) (da_cons de_disp0 da_nil))))))))))))
    (dss_cons (ds_drop (de_app (dv 3) (de_disp (ks := [Sum.inr "a"]) (dps_cons d_int dps_nil))))
    (dss_cons (ds_par (i := 4) (j := 5) rfl nd (da_cons (de_ix (dv 3) (de_own F_law_draw hg (hr.mono (by decide)) tk (da_cons (dv 1) (da_cons d_int da_nil)) (LenM.cons (LenM.cons LenM.nil)))) (da_cons (de_ix (dv 3) (de_own F_law_draw hg (hr.mono (by decide)) tk (da_cons (dv 1) (da_cons d_int da_nil)) (LenM.cons (LenM.cons LenM.nil)))) da_nil)))
    (dss_cons (ds_asg (i := 6) nd (de_excs (da_cons (de_exc OBadRow hg (hr.mono (by decide)) (da_cons (dv 4) da_nil)) (da_cons (de_exc OBadMenu hg (hr.mono (by decide)) (da_cons (dv 4) da_nil)) (da_cons (de_exc OBadLog hg (hr.mono (by decide)) (da_cons (dv 4) da_nil)) (da_cons (de_exc OBadText hg (hr.mono (by decide)) (da_cons (dv 4) (da_cons (dv 5) da_nil))) da_nil))))))
    (dss_cons (ds_asg (i := 7) nd (de_excs (da_cons (de_excK (ks := ["number"]) false OBadRow hg (hr.mono (by decide)) (dk_cons (dv 4) dk_nil)) (da_cons (de_excK (ks := ["number"]) false OBadMenu hg (hr.mono (by decide)) (dk_cons (dv 4) dk_nil)) (da_cons (de_excK (ks := ["place"]) false OBadLog hg (hr.mono (by decide)) (dk_cons (dv 4) dk_nil)) (da_cons (de_excK (ks := ["word", "line"]) true OBadText hg (hr.mono (by decide)) (dk_cons (dv 5) (dk_cons (dv 4) dk_nil))) da_nil))))))
    (dss_cons (ds_forS (i0 := 8) hp rfl nd (da_cons (dv 6) (da_cons (dv 7) da_nil)) (dss_cons (ds_for hp rfl (di_range1 z.range d_int) (dg_name (i := 9) nd) (dss_one (ds_if (dt_ne hu (de_own F_law_classes hg (hr.mono (by decide)) tk (da_cons (de_ixE (dv 8) (dv 9)) da_nil) (LenM.cons LenM.nil)) (de_lst (da_cons (de_ix (de_lst (da_cons d_str (da_cons d_str (da_cons d_str (da_cons d_str da_nil))))) (dv 9)) (da_cons d_str (da_cons d_str da_nil))))) (dss_one (ds_ret d_bl)) dss_nil)) (NoErr.name 9))
    (dss_cons (ds_asg (i := 10) nd (de_lst (da_cons (de_fld (cs := [c.row, c.menu]) fnumber (de_ixE (dv 8) d_int)) (da_cons (de_fld (cs := [c.row, c.menu]) fnumber (de_ixE (dv 8) d_int)) (da_cons (de_fld (cs := [c.log]) fplace (de_ixE (dv 8) d_int)) (da_cons (de_fld (cs := [c.text]) fline (de_ixE (dv 8) d_int)) (da_cons (de_fld (cs := [c.text]) fword (de_ixE (dv 8) d_int)) da_nil)))))))
    (dss_one (ds_if (dt_not (dt_val (de_own F_law_like hg (hr.mono (by decide)) tk (da_cons (dv 10) (da_cons (de_cat (de_rep (de_lst (da_cons (dv 4) da_nil)) d_int) (de_lst (da_cons (dv 5) da_nil))) da_nil)) (LenM.cons (LenM.cons LenM.nil))))) (dss_one (ds_ret d_bl)) dss_nil)))))
    (dss_one (ds_if (dt_w (dw_or (dt_ne hu (de_own F_law_classes hg (hr.mono (by decide)) tk (da_cons (de_exc OTooGreat hg (hr.mono (by decide)) (da_cons (dv 4) da_nil)) da_nil) (LenM.cons LenM.nil)) (de_lst (da_cons d_str da_nil))) (dw_or1 (dt_not (dt_val (de_own F_law_like hg (hr.mono (by decide)) tk (da_cons (de_fld (cs := [c.great]) fmost (de_exc OTooGreat hg (hr.mono (by decide)) (da_cons (dv 4) da_nil))) (da_cons (dv 4) da_nil)) (LenM.cons (LenM.cons LenM.nil)))))))) (dss_one (ds_ret d_bl)) dss_nil))))))))) (NoErr.name 2))
    (dss_one (ds_ret d_bl))))
end
end K80
end EG


set_option Elab.async false
set_option linter.all false
set_option maxRecDepth 100000
set_option maxHeartbeats 4000000
namespace EG
open PySem PySem.Spec PyProof.Rows L2
/-! ### an Mo that ends well -/
def Ok {α : Type} (m : Mo α) (w : Sto) (P : α → Sto → Prop) : Prop := ∃ a w', m w = some (.ok a, w') ∧ P a w'
section
variable {α β : Type} {m : Mo α} {f : α → Mo β} {w : Sto} {P : α → Sto → Prop} {Q : β → Sto → Prop}
theorem Ok.bind (h : Ok m w (fun a w1 => Ok (f a) w1 Q)) : Ok (mBind m f) w Q := by
  obtain ⟨a, w1, e1, b, w2, e2, q⟩ := h
  exact ⟨b, w2, by unfold mBind; rw [e1]; exact e2, q⟩
theorem Ok.imp {P' : α → Sto → Prop} (h : Ok m w P) (k : ∀ a w', P a w' → P' a w') : Ok m w P' := by
  obtain ⟨a, w1, e1, p⟩ := h
  exact ⟨a, w1, e1, k _ _ p⟩
theorem Ok.pure {a : α} (h : P a w) : Ok (mPure a) w P := ⟨a, w, rfl, h⟩
theorem Ok.of {a : α} {w' : Sto} (e : m w = some (.ok a, w')) (h : P a w') : Ok m w P := ⟨a, w', e, h⟩
/-- a loop that never leaves early -/
theorem Ok.for {set : PyData → Env → Mo Env} {body : Env → Mo Out} (I : Env → Sto → Prop) : ∀ {ds : List PyData} {ρ : Env} {w : Sto}, I ρ w → (∀ d ∈ ds, ∀ ρ w, I ρ w → Ok (mBind (set d ρ) body) w (fun o w' => ∃ ρ', o = .nx ρ' ∧ I ρ' w')) → Ok (forL set body ds ρ) w (fun o w' => ∃ ρ', o = .nx ρ' ∧ I ρ' w')
  | [], ρ, w, h, _ => ⟨_, _, rfl, ρ, rfl, h⟩
  | d :: r, ρ, w, h, k => by
    obtain ⟨o, w1, e, ρ1, rfl, i1⟩ := k d List.mem_cons_self ρ w h
    obtain ⟨o2, w2, e2, q⟩ := Ok.for I (ds := r) i1 (fun d hd => k d (List.mem_cons_of_mem _ hd))
    refine ⟨o2, w2, ?_, q⟩
    unfold forL
    unfold mBind at e ⊢
    cases hs : set d ρ w with
    | none => rw [hs] at e; cases e
    | some p =>
      obtain ⟨p1, p2⟩ := p
      cases p1 with
      | err _ _ => rw [hs] at e; cases e
      | ok ρ2 =>
        rw [hs] at e
        simp only at e ⊢
        rw [e]
        exact e2
end
theorem mBind_of {α β : Type} {m : Mo α} {f : α → Mo β} {w w1 : Sto} {a : α} (h : m w = some (.ok a, w1)) : mBind m f w = f a w1 := by unfold mBind; rw [h]
theorem mSeq_nx {a b : Env → Mo Out} {ρ ρ1 : Env} {w w1 : Sto} (h : a ρ w = some (.ok (.nx ρ1), w1)) : mSeq a b ρ w = b ρ1 w1 := by unfold mSeq; rw [mBind_of h]
theorem mAsg_of {i : Nat} {m : Env → Mo SV} {ρ : Env} {w w1 : Sto} {v : SV} (h : m ρ w = some (.ok v, w1)) : mAsg i m ρ w = some (.ok (.nx (ρ.set i (some v))), w1) := by unfold mAsg; rw [mBind_of h]; rfl
theorem mFor_of {it : Env → Mo (List PyData)} {set : PyData → Env → Mo Env} {body : Env → Mo Out} {ρ : Env} {w w1 : Sto} {ds : List PyData} (h : it ρ w = some (.ok ds, w1)) : mFor it set body ρ w = forL set body ds ρ w1 := by unfold mFor; rw [mBind_of h]
/-- a comprehension whose parts change nothing -/
theorem lc_ok {set : PyData → Env → Mo Env} {cond : Env → Mo Bool} {elt : Env → Mo SV} {ρ : Env} {w : Sto} (ρd : PyData → Env) (p : PyData → Bool) (F : PyData → PyData) : ∀ {ds acc : List PyData}, (∀ d ∈ ds, ∀ w', set d ρ w' = some (.ok (ρd d), w') ∧ cond (ρd d) w' = some (.ok (p d), w') ∧ (p d = true → elt (ρd d) w' = some (.ok (.dat (F d)), w'))) →
    acc.length + ds.length ≤ sizeLine → lcL w.length set cond elt ds ρ (w ++ [.lst acc]) = some (.ok (), w ++ [.lst (acc ++ (ds.filter p).map F)])
  | [], acc, _, _ => by simp [lcL, mPure]
  | d :: r, acc, h, hz => by
    obtain ⟨h1, h2, h3⟩ := h d List.mem_cons_self (w ++ [.lst acc])
    have hz' : acc.length + (r.length + 1) ≤ sizeLine := hz
    unfold lcL
    rw [mBind_of h1, mBind_of h2]
    cases hp : p d with
    | false =>
      simp only [Bool.false_eq_true, if_false]
      rw [lc_ok ρd p F (fun d hd => h d (List.mem_cons_of_mem _ hd)) (by omega)]
      simp [hp]
    | true =>
      have hs : ∀ y, (w ++ [SO.lst acc]).set w.length y = w ++ [y] := fun y => by simp
      have hl : acc.length < sizeLine := by omega
      simp only [if_true]
      rw [show ∀ f : SV → Mo Unit, mBind (elt (ρd d)) f (w ++ [SO.lst acc]) = f (.dat (F d)) (w ++ [SO.lst acc]) from fun f => mBind_of (h3 hp)]
      simp only [fz1, List.getElem?_concat_length, if_pos hl, hs]
      rw [lc_ok ρd p F (acc := acc ++ [F d]) (fun d hd => h d (List.mem_cons_of_mem _ hd)) (by rw [List.length_append, List.length_singleton]; omega)]
      simp [hp]
theorem ixN_pos {n : Nat} {i : Int} (h : 0 ≤ i) (h2 : i < n) : ixN n i = some i.toNat := by
  unfold ixN
  rw [if_pos h, if_pos (by omega)]
namespace K80
def mixZ (cell n : Int) : Int := (cell * (1 + 2 * n) * 48271 % 2147483647 + 7919 * n * n + 104729 * n) * 69621 % 2147483629 / 7
theorem mixed_ok (cell n : Int) (w : Sto) (h0 : 0 ≤ n) (h1 : n ≤ 1000000) : g_law_mixed [.dat (.int cell), .dat (.int n)] w = some (.ok (.dat (.int (mixZ cell n))), w) := by
  have a1 : sm64 (1 + 2 * n) = true := by unfold sm64; simp [mBind, mPure, mSeq, mAsg, mBin, mUn, mV, mC, mRet, gI, mDef, endO, startE, fzR, mCons, mNil]; omega
  have a2 : sm64 n = true := by unfold sm64; simp [mBind, mPure, mSeq, mAsg, mBin, mUn, mV, mC, mRet, gI, mDef, endO, startE, fzR, mCons, mNil]; omega
  have a3 : sm64 (2 : Int) = true := by decide
  have a4 : sm64 (48271 : Int) = true := by decide
  have a5 : sm64 (7919 : Int) = true := by decide
  have a6 : sm64 (104729 : Int) = true := by decide
  have a7 : sm64 (69621 : Int) = true := by decide
  simp [mBind, mPure, mSeq, mAsg, mBin, mUn, mV, mC, mRet, gI, mDef, endO, startE, fzR, mCons, mNil, g_law_mixed, m_law_mixed, gInt, a1, a2, a3, a4, a5, a6, a7, mixZ]
theorem atD_int {cs : List Int} {i : Int} (h : 0 ≤ i) (h2 : i < cs.length) : ∃ c, atD (cs.map PyData.int) i = some (.int c) := by
  unfold atD
  rw [ixN_pos h (by rw [List.length_map]; exact h2), Option.bind_some, List.getElem?_map, List.getElem?_eq_getElem (by omega)]
  exact ⟨_, rfl⟩
theorem script_items {ns : List Int} : ∀ {k : Nat} {d : PyData}, d ∈ enumI k (ns.map .int) → ∃ (i : Nat) (c : Int), d = .tuple [.int (i : Int), .int c] := by
  induction ns with
  | nil => intro k d h; cases h
  | cons n r ih =>
    intro k d h
    rcases List.mem_cons.mp h with rfl | h
    · exact ⟨k, n, rfl⟩
    · exact ih h
def base64 : List Int := (List.range 64).map (fun (i : Nat) => (17 + (0 + (i : Int)) : Int))
def NxI (I : Env → Sto → Prop) : Out → Sto → Prop := fun o w' => ∃ ρ', o = .nx ρ' ∧ I ρ' w'
theorem folded_ok (ns : List Int) (w : Sto) : ∃ cs : List Int, cs.length = 64 ∧ g_law_folded [.scr ns] w = some (.ok (.dat (.list (cs.map .int))), w) := by
  have e1 : mLcO (mRange1 (mC (.int 64))) [2] (mSet 2) mYes (mBin (mC (.int 17)) (mV 2) gAdd) [some (.scr ns), none, none, none] w = some (.ok (.obj w.length), w ++ [.lst (base64.map .int)]) := by
    have e : lcL w.length (mSet 2) mYes (mBin (mC (.int 17)) (mV 2) gAdd) (intsFrom 0 64) (wipeE [some (.scr ns), none, none, none] [2]) (w ++ [.lst []]) = some (.ok (), w ++ [.lst ([] ++ ((intsFrom 0 64).filter fun _ => true).map fun d => match d with | .int i => .int (17 + i) | d => d)]) := by
      refine lc_ok (fun d => [some (.scr ns), none, some (.dat d), none]) (fun _ => true) _ (fun d hd w' => ?_) (by rw [sizeLine_eq]; decide)
      obtain ⟨i, hi, rfl⟩ := List.mem_map.mp hd
      exact ⟨rfl, rfl, fun _ => rfl⟩
    have e2 : mRange1 (mC (.int 64)) [some (.scr ns), none, none, none] w = some (.ok (intsFrom 0 64), w) := rfl
    unfold mLcO
    rw [mBind_of e2]
    simp only [e]
    rw [show (w ++ [SO.lst ([] ++ ((intsFrom 0 64).filter fun _ => true).map fun d => match d with | .int i => .int (17 + i) | d => d)]) = w ++ [.lst (base64.map .int)] from rfl]
    rw [List.take_of_length_le (by simp [mBind, mPure, mSeq, mAsg, mBin, mUn, mV, mC, mRet, gI, mDef, endO, startE, fzR, mCons, mNil])]
  -- the store behind each turn
  let I : Env → Sto → Prop := fun ρ w' => ∃ (x y : Option SV) (cs : List Int), ρ = [some (.scr ns), some (.obj w.length), x, y] ∧ cs.length = 64 ∧ w' = w ++ [.lst (cs.map .int)]
  have st : ∀ y : SO, ∀ z, (w ++ [z]).set w.length y = w ++ [y] := fun y z => by simp [mBind, mPure, mSeq, mAsg, mBin, mUn, mV, mC, mRet, gI, mDef, endO, startE, fzR, mCons, mNil]
  have l1 : Ok (forL (mSetT [mSet 2, mSet 3]) b_law_folded0 (enumI 0 (ns.map .int)) [some (.scr ns), some (.obj w.length), none, none]) (w ++ [.lst (base64.map .int)]) (NxI I) := by
    refine Ok.for I ⟨_, _, base64, rfl, rfl, rfl⟩ fun d hd ρ w' hI => ?_
    obtain ⟨i, c, rfl⟩ := script_items hd
    obtain ⟨x, y, cs, rfl, hl, rfl⟩ := hI
    have h0 : (0 : Int) ≤ (i : Int) % 64 := Int.emod_nonneg _ (by decide)
    have h1 : (i : Int) % 64 < 64 := Int.emod_lt_of_pos _ (by decide)
    obtain ⟨v, hv⟩ := atD_int (cs := cs) h0 (by rw [hl]; exact h1)
    have hj : ixN 64 ((i : Int) % 64) = some ((i : Int) % 64).toNat := ixN_pos h0 h1
    refine ⟨.nx [some (.scr ns), some (.obj w.length), some (.dat (.int i)), some (.dat (.int c))], w ++ [.lst ((cs.set ((i : Int) % 64).toNat ((v * 48271 + c) % 2147483647)).map .int)], ?_, _, rfl, _, _, _, rfl, by rw [List.length_set]; exact hl, rfl⟩
    have a4 : sm64 (48271 : Int) = true := by decide
    simp [mBind, mPure, mSeq, mAsg, mBin, mUn, mV, mC, mRet, gI, mDef, endO, startE, fzR, mCons, mNil, mSetT, mSets, mSet, b_law_folded0, mSti, stiO, gInt, gIx, toD, itemsD, hv, fz1, hl, hj, a4, List.map_set]
  obtain ⟨o1, w1, f1, ρ1, rfl, x1, y1, cs1, rfl, hl1, rfl⟩ := l1
  have l2 : Ok (forL (mSet 2) b_law_folded1 (intsFrom 1 63) [some (.scr ns), some (.obj w.length), x1, y1]) (w ++ [.lst (cs1.map .int)]) (NxI I) := by
    refine Ok.for I ⟨_, _, cs1, rfl, hl1, rfl⟩ fun d hd ρ w' hI => ?_
    obtain ⟨i, hi, rfl⟩ := List.mem_map.mp hd
    obtain ⟨x, y, cs, rfl, hl, rfl⟩ := hI
    have hi : i < 63 := by simpa using hi
    obtain ⟨v, hv⟩ := atD_int (cs := cs) (i := 1 + (i : Int)) (by omega) (by rw [hl]; omega)
    obtain ⟨u, hu⟩ := atD_int (cs := cs) (i := 1 + (i : Int) - 1) (by omega) (by rw [hl]; omega)
    have hj : ixN 64 (1 + (i : Int)) = some (1 + (i : Int)).toNat := ixN_pos (by omega) (by omega)
    refine ⟨.nx [some (.scr ns), some (.obj w.length), some (.dat (.int (1 + i))), y], w ++ [.lst ((cs.set (1 + (i : Int)).toNat ((v + u * 16807) % 2147483647)).map .int)], ?_, _, rfl, _, _, _, rfl, by rw [List.length_set]; exact hl, rfl⟩
    have a4 : sm64 (16807 : Int) = true := by decide
    simp [mBind, mPure, mSeq, mAsg, mBin, mUn, mV, mC, mRet, gI, mDef, endO, startE, fzR, mCons, mNil, mSet, b_law_folded1, mSti, stiO, gInt, gIx, toD, itemsD, hv, hu, fz1, hl, hj, a4, List.map_set]
  obtain ⟨o2, w2, f2, ρ2, rfl, x2, y2, cs2, rfl, hl2, rfl⟩ := l2
  refine ⟨cs2, hl2, ?_⟩
  have e3 : mEnum (mV 0) [some (.scr ns), some (.obj w.length), none, none] (w ++ [.lst (base64.map .int)]) = some (.ok (enumI 0 (ns.map .int)), w ++ [.lst (base64.map .int)]) := rfl
  have e4 : mRange2 (mC (.int 1)) (mC (.int 64)) [some (.scr ns), some (.obj w.length), x1, y1] (w ++ [.lst (cs1.map .int)]) = some (.ok (intsFrom 1 63), w ++ [.lst (cs1.map .int)]) := rfl
  have e5 : m_law_folded [some (.scr ns), none, none, none] w = some (.ok (.rt (.dat (.list (cs2.map .int)))), w ++ [.dead]) := by
    unfold m_law_folded
    refine (mSeq_nx (mAsg_of e1)).trans ?_
    refine (mSeq_nx ((mFor_of e3).trans f1)).trans ?_
    refine (mSeq_nx ((mFor_of e4).trans f2)).trans ?_
    simp [mBind, mPure, mSeq, mAsg, mBin, mUn, mV, mC, mRet, gI, mDef, endO, startE, fzR, mCons, mNil, fz1]
  show endO w.length (m_law_folded [some (.scr ns), none, none, none] w) = _
  rw [e5]
  simp [mBind, mPure, mSeq, mAsg, mBin, mUn, mV, mC, mRet, gI, mDef, endO, startE, fzR, mCons, mNil]
/-! ### drawing -/
theorem ints_eq {gs : List Int} : intsD (gs.map .int) = some gs := by
  induction gs with
  | nil => rfl
  | cons g r ih => simp [mBind, mPure, mSeq, mAsg, mBin, mUn, mV, mC, mRet, gI, mDef, endO, startE, fzR, mCons, mNil, intsD, ih]
def greats (ns : List Int) : List Int := ns.map fun c => if 1000000000000000000 ≤ c then c else 0
theorem begun_ok (ns : List Int) (hz : ns.length ≤ 63) : ∃ cs : List Int, cs.length = 64 ∧ g_law_begun [.scr ns] [] = some (.ok (.obj 2), [.dead, .dead, .draw cs (greats ns) 0]) := by
  obtain ⟨cs, hl, hf⟩ := folded_ok ns [.dic []]
  refine ⟨cs, hl, ?_⟩
  have e1 : mDisp [Sum.inr "cells", Sum.inr "great", Sum.inr "spot"] (mCons (mCall g_law_folded (mCons (mV 0) mNil)) (mCons (mLst mNil) (mCons (mC (.int 0)) mNil))) [some (.scr ns), none, none] [] = some (.ok (.obj 0), [.dic [(Sum.inr "cells", .list (cs.map .int)), (Sum.inr "great", .list []), (Sum.inr "spot", .int 0)]]) := by
    simp [mBind, mPure, mSeq, mAsg, mBin, mUn, mV, mC, mRet, gI, mDef, endO, startE, fzR, mCons, mNil, mDisp, mCall, hf, mLst, fzs, fz1, dspO, fitsN, sizeLine_eq]
  have e2 : mLcO (mItemsL (mV 0)) [2] (mSet 2) mYes (mIf (mTB (mBin (mV 2) (mBin (mC (.int 10)) (mC (.int 18)) gPow) gGe)) (mV 2) (mC (.int 0))) [some (.scr ns), some (.obj 0), none] [.dic [(Sum.inr "cells", .list (cs.map .int)), (Sum.inr "great", .list []), (Sum.inr "spot", .int 0)]] =
      some (.ok (.obj 1), [.dic [(Sum.inr "cells", .list (cs.map .int)), (Sum.inr "great", .list []), (Sum.inr "spot", .int 0)], .lst ((greats ns).map .int)]) := by
    have e := lc_ok (set := mSet 2) (cond := mYes) (elt := mIf (mTB (mBin (mV 2) (mBin (mC (.int 10)) (mC (.int 18)) gPow) gGe)) (mV 2) (mC (.int 0))) (ρ := wipeE [some (.scr ns), some (.obj 0), none] [2]) (w := [.dic [(Sum.inr "cells", .list (cs.map .int)), (Sum.inr "great", .list []), (Sum.inr "spot", .int 0)]])
      (fun d => [some (.scr ns), some (.obj 0), some (.dat d)]) (fun _ => true) (fun d => match d with | .int c => .int (if 1000000000000000000 ≤ c then c else 0) | d => d) (ds := ns.map .int) (acc := []) (fun d hd w' => by
        obtain ⟨c, hc, rfl⟩ := List.mem_map.mp hd
        refine ⟨rfl, rfl, fun _ => ?_⟩
        by_cases z : 1000000000000000000 ≤ c
        · simp [mBind, mPure, mSeq, mAsg, mBin, mUn, mV, mC, mRet, gI, mDef, endO, startE, fzR, mCons, mNil, mIf, mTB, z]
        · simp [mBind, mPure, mSeq, mAsg, mBin, mUn, mV, mC, mRet, gI, mDef, endO, startE, fzR, mCons, mNil, mIf, mTB, z]) (by rw [List.length_map, List.length_nil, sizeLine_eq]; omega)
    have g : mItemsL (mV 0) [some (.scr ns), some (.obj 0), none] [.dic [(Sum.inr "cells", .list (cs.map .int)), (Sum.inr "great", .list []), (Sum.inr "spot", .int 0)]] = some (.ok (ns.map .int), [.dic [(Sum.inr "cells", .list (cs.map .int)), (Sum.inr "great", .list []), (Sum.inr "spot", .int 0)]]) := rfl
    unfold mLcO
    rw [mBind_of g]
    simp only [e]
    simp [mBind, mPure, mSeq, mAsg, mBin, mUn, mV, mC, mRet, gI, mDef, endO, startE, fzR, mCons, mNil, greats]
    rw [List.filter_eq_self.mpr (by simp [mBind, mPure, mSeq, mAsg, mBin, mUn, mV, mC, mRet, gI, mDef, endO, startE, fzR, mCons, mNil]), List.map_map]
    rfl
  have e3 : m_law_begun [some (.scr ns), none, none] [] = some (.ok (.rt (.obj 2)), [.dead, .dead, .draw cs (greats ns) 0]) := by
    unfold m_law_begun
    refine (mSeq_nx (mAsg_of e1)).trans ?_
    refine (mSeq_nx (ρ1 := [some (.scr ns), some (.obj 2), none]) (w1 := [.dead, .dead, .draw cs (greats ns) 0]) ?_).trans ?_
    · refine (mBind_of e2).trans ?_
      simp [mBind, mPure, mSeq, mAsg, mBin, mUn, mV, mC, mRet, gI, mDef, endO, startE, fzR, mCons, mNil, begO, ints_eq]
    · simp [mBind, mPure, mSeq, mAsg, mBin, mUn, mV, mC, mRet, gI, mDef, endO, startE, fzR, mCons, mNil]
  show endO 0 (m_law_begun [some (.scr ns), none, none] []) = _
  rw [e3]
  simp [mBind, mPure, mSeq, mAsg, mBin, mUn, mV, mC, mRet, gI, mDef, endO, startE, fzR, mCons, mNil]
theorem ints_can {gs : List Int} : PyData.canLayAll0 (gs.map .int) = true := by
  induction gs with
  | nil => rfl
  | cons g r ih => simp [mBind, mPure, mSeq, mAsg, mBin, mUn, mV, mC, mRet, gI, mDef, endO, startE, fzR, mCons, mNil, PyData.canLayAll0, PyData.canLay0, ih]
theorem ints_depth {gs : List Int} : PyData.depthAll (gs.map .int) = 0 := by
  induction gs with
  | nil => rfl
  | cons g r ih => simp [mBind, mPure, mSeq, mAsg, mBin, mUn, mV, mC, mRet, gI, mDef, endO, startE, fzR, mCons, mNil, PyData.depthAll, PyData.depth, ih]
theorem ints_shaped {gs : List Int} : SeqAt.shaped (.list (gs.map .int)) = true := by
  simp [mBind, mPure, mSeq, mAsg, mBin, mUn, mV, mC, mRet, gI, mDef, endO, startE, fzR, mCons, mNil, SeqAt.shaped, PyData.canLay0, PyData.depth, ints_can, ints_depth]
theorem ne_nil_ints {gs : List Int} : eqDD (.list (gs.map .int)) (.list []) = some (decide (gs = [])) := by
  have s0 : SeqAt.shaped (.list []) = true := ints_shaped (gs := [])
  unfold eqDD
  simp only [ints_shaped, s0, Bool.and_self, if_true]
  cases gs <;> simp [mBind, mPure, mSeq, mAsg, mBin, mUn, mV, mC, mRet, gI, mDef, endO, startE, fzR, mCons, mNil, PyData.eqv, PyData.eqvAll]
theorem draw_ok {w : Sto} {k : Nat} {cs gs : List Int} {n L : Int} (hk : w[k]? = some (.draw cs gs n)) (hl : cs.length = 64) (h0 : 0 ≤ n) (h1 : n ≤ 900000) (l0 : 0 < L) (l1 : L < 1073741824) :
    ∃ (r : Int) (gs' : List Int), 0 ≤ r ∧ r < L ∧ g_law_draw [.obj k, .dat (.int L)] w = some (.ok (.dat (.int r)), w.set k (.draw cs gs' (n + 1))) := by
  have hkl : k < w.length := (List.getElem?_eq_some_iff.mp hk).1
  have rest : ∀ (gs' : List Int) (w1 : Sto) (x y z : Option SV), w1 = w.set k (.draw cs gs' (n + 1)) → ∃ r : Int, 0 ≤ r ∧ r < L ∧ mSeq (mAsg 3 (mUn (mV 0) gCells)) (mRet (mBin (mUn (mCall g_law_mixed (mCons (mCall g_law_mixed (mCons (mBin (mBin (mV 3) (mBin (mUn (mV 2) gInt) (mC (.int 64)) gMod) gIx) (mBin (mC (.int 31)) (mBin (mV 2) (mC (.int 64)) gFdiv) gMul) gAdd) (mCons (mV 2) mNil))) (mCons (mBin (mV 2) (mC (.int 7)) gAdd) mNil))) gInt) (mV 1) gMod))
      [some (.obj k), some (.dat (.int L)), some (.dat (.int n)), x, y, z] w1 = some (.ok (.rt (.dat (.int r))), w1) := by
    intro gs' w1 x y z e
    have hk1 : w1[k]? = some (.draw cs gs' (n + 1)) := by rw [e]; exact List.getElem?_set_self hkl
    obtain ⟨v, hv⟩ := atD_int (cs := cs) (i := n % 64) (Int.emod_nonneg _ (by decide)) (by rw [hl]; exact Int.emod_lt_of_pos _ (by decide))
    have a1 : sm64 (31 : Int) = true := by decide
    refine ⟨mixZ (mixZ (v + 31 * (n / 64)) n) (n + 7) % L, Int.emod_nonneg _ (by omega), Int.emod_lt_of_pos _ l0, ?_⟩
    simp [mBind, mPure, mSeq, mAsg, mBin, mUn, mV, mC, mRet, gI, mDef, endO, startE, fzR, mCons, mNil, gCells, hk1, gIx, toD, itemsD, hv, gInt, mCall, a1, mixed_ok _ n _ h0 (by omega), mixed_ok _ (n + 7) _ (by omega) (by omega), l0]
  have b1 : (w.set k (.draw cs gs (n + 1)))[k]? = some (.draw cs gs (n + 1)) := List.getElem?_set_self hkl
  have key : ∃ (r : Int) (gs' : List Int), 0 ≤ r ∧ r < L ∧ m_law_draw [some (.obj k), some (.dat (.int L)), none, none, none, none] w = some (.ok (.rt (.dat (.int r))), w.set k (.draw cs gs' (n + 1))) := by
    have e1 : mUn (mV 0) gSpot [some (.obj k), some (.dat (.int L)), none, none, none, none] w = some (.ok (.dat (.int n)), w) := by simp [mBind, mPure, mSeq, mAsg, mBin, mUn, mV, mC, mRet, gI, mDef, endO, startE, fzR, mCons, mNil, gSpot, hk]
    have e2 : mSpotS (mV 0) (mBin (mV 2) (mC (.int 1)) gAdd) [some (.obj k), some (.dat (.int L)), some (.dat (.int n)), none, none, none] w = some (.ok (.nx [some (.obj k), some (.dat (.int L)), some (.dat (.int n)), none, none, none]), w.set k (.draw cs gs (n + 1))) := by simp [mBind, mPure, mSeq, mAsg, mBin, mUn, mV, mC, mRet, gI, mDef, endO, startE, fzR, mCons, mNil, mSpotS, hk]
    have e3 : mTB (mBin (mUn (mV 0) gGreat) (mLst mNil) gNe) [some (.obj k), some (.dat (.int L)), some (.dat (.int n)), none, none, none] (w.set k (.draw cs gs (n + 1))) = some (.ok (!decide (gs = [])), w.set k (.draw cs gs (n + 1))) := by
      simp [mBind, mPure, mSeq, mAsg, mBin, mUn, mV, mC, mRet, gI, mDef, endO, startE, fzR, mCons, mNil, mTB, gGreat, b1, mLst, fzs, fitsN, gNe, toD, ne_nil_ints]
    by_cases hgs : gs = []
    · obtain ⟨r, r0, r1, hr⟩ := rest gs _ none none none rfl
      refine ⟨r, gs, r0, r1, ?_⟩
      unfold m_law_draw
      refine (mSeq_nx (mAsg_of e1)).trans ?_
      refine (mSeq_nx e2).trans ?_
      refine (mSeq_nx (ρ1 := [some (.obj k), some (.dat (.int L)), some (.dat (.int n)), none, none, none]) (w1 := w.set k (.draw cs gs (n + 1))) ?_).trans hr
      refine (mBind_of e3).trans ?_
      rw [hgs]
      rfl
    · have hlen : 0 < gs.length := by cases gs with | nil => exact absurd rfl hgs | cons _ _ => simp [mBind, mPure, mSeq, mAsg, mBin, mUn, mV, mC, mRet, gI, mDef, endO, startE, fzR, mCons, mNil]
      have hi0 : 0 ≤ n % (gs.length : Int) := Int.emod_nonneg _ (by omega)
      have hi1 : n % (gs.length : Int) < gs.length := Int.emod_lt_of_pos _ (by omega)
      obtain ⟨c, hc⟩ := atD_int (cs := gs) hi0 hi1
      have hj : ixN gs.length (n % (gs.length : Int)) = some (n % (gs.length : Int)).toNat := ixN_pos hi0 hi1
      have hlen' : (0 : Int) < (gs.length : Int) := by omega
      by_cases hc0 : 0 < c
      · refine ⟨c % L, gs.set (n % (gs.length : Int)).toNat (c / L), Int.emod_nonneg _ (by omega), Int.emod_lt_of_pos _ l0, ?_⟩
        unfold m_law_draw
        refine (mSeq_nx (mAsg_of e1)).trans ?_
        refine (mSeq_nx e2).trans ?_
        have e4 : mIfS (mTB (mBin (mUn (mV 0) gGreat) (mLst mNil) gNe)) (mSeq (mAsg 3 (mUn (mV 0) gGreat)) (mSeq (mAsg 4 (mBin (mUn (mV 2) gInt) (mUn (mV 3) gLen) gMod)) (mSeq (mAsg 5 (mBin (mV 3) (mV 4) gIx)) (mIfS (mTB (mBin (mV 5) (mC (.int 0)) gGt)) (mSeq (mGreatS (mBin (mV 5) (mV 1) gFdiv) (mV 3) (mV 4)) (mRet (mBin (mUn (mV 5) gInt) (mV 1) gMod))) mSkip)))) mSkip [some (.obj k), some (.dat (.int L)), some (.dat (.int n)), none, none, none] (w.set k (.draw cs gs (n + 1))) =
            some (.ok (.rt (.dat (.int (c % L)))), w.set k (.draw cs (gs.set (n % (gs.length : Int)).toNat (c / L)) (n + 1))) := by
          refine (mBind_of e3).trans ?_
          rw [if_pos (by simp [mBind, mPure, mSeq, mAsg, mBin, mUn, mV, mC, mRet, gI, mDef, endO, startE, fzR, mCons, mNil, hgs])]
          simp [mBind, mPure, mSeq, mAsg, mBin, mUn, mV, mC, mRet, gI, mDef, endO, startE, fzR, mCons, mNil, gGreat, b1, hkl, gInt, gLen, lenD, toD, hlen, gIx, itemsD, hc, mIfS, mTB, hc0, mGreatS, l0, l1, hj]
        have e5 : ∀ b, mSeq (mIfS (mTB (mBin (mUn (mV 0) gGreat) (mLst mNil) gNe)) (mSeq (mAsg 3 (mUn (mV 0) gGreat)) (mSeq (mAsg 4 (mBin (mUn (mV 2) gInt) (mUn (mV 3) gLen) gMod)) (mSeq (mAsg 5 (mBin (mV 3) (mV 4) gIx)) (mIfS (mTB (mBin (mV 5) (mC (.int 0)) gGt)) (mSeq (mGreatS (mBin (mV 5) (mV 1) gFdiv) (mV 3) (mV 4)) (mRet (mBin (mUn (mV 5) gInt) (mV 1) gMod))) mSkip)))) mSkip) b [some (.obj k), some (.dat (.int L)), some (.dat (.int n)), none, none, none] (w.set k (.draw cs gs (n + 1))) =
            some (.ok (.rt (.dat (.int (c % L)))), w.set k (.draw cs (gs.set (n % (gs.length : Int)).toNat (c / L)) (n + 1))) := fun b => (mBind_of e4).trans rfl
        exact e5 _
      · obtain ⟨r, r0, r1, hr⟩ := rest gs _ (some (.drg k)) (some (.dat (.int (n % (gs.length : Int))))) (some (.dat (.int c))) rfl
        refine ⟨r, gs, r0, r1, ?_⟩
        unfold m_law_draw
        refine (mSeq_nx (mAsg_of e1)).trans ?_
        refine (mSeq_nx e2).trans ?_
        refine (mSeq_nx (ρ1 := [some (.obj k), some (.dat (.int L)), some (.dat (.int n)), some (.drg k), some (.dat (.int (n % (gs.length : Int)))), some (.dat (.int c))]) (w1 := w.set k (.draw cs gs (n + 1))) ?_).trans hr
        refine (mBind_of e3).trans ?_
        rw [if_pos (by simp [mBind, mPure, mSeq, mAsg, mBin, mUn, mV, mC, mRet, gI, mDef, endO, startE, fzR, mCons, mNil, hgs])]
        simp [mBind, mPure, mSeq, mAsg, mBin, mUn, mV, mC, mRet, gI, mDef, endO, startE, fzR, mCons, mNil, gGreat, b1, hkl, gInt, gLen, lenD, toD, hlen, gIx, itemsD, hc, mIfS, mTB, hc0, mSkip]
  obtain ⟨r, gs', r0, r1, e⟩ := key
  refine ⟨r, gs', r0, r1, ?_⟩
  show endO w.length (m_law_draw [some (.obj k), some (.dat (.int L)), none, none, none, none] w) = _
  rw [e]
  simp only [endO]
  rw [List.take_of_length_le (by simp [mBind, mPure, mSeq, mAsg, mBin, mUn, mV, mC, mRet, gI, mDef, endO, startE, fzR, mCons, mNil])]
end K80
end EG


set_option Elab.async false
set_option linter.all false
set_option maxRecDepth 100000
set_option maxHeartbeats 4000000
namespace EG
namespace K80
open PySem PySem.Spec PyProof.Rows L2
/-! ### _law_like, _law_classes -/
theorem like_ok (d : PyData) (w : Sto) (h1 : d.showable = true) (h2 : d.depth ≤ 60) (h3 : d.shown.length ≤ sizeLine) : g_law_like [.dat d, .dat d] w = some (.ok (.dat (.bool true)), w) := by
  simp [mBind, mPure, mSeq, mAsg, mBin, mUn, mV, mC, mRet, gI, mDef, endO, startE, fzR, mCons, mNil, g_law_like, m_law_like, gRepr, toD, h1, h2, h3, gEq, eqDD]
theorem get_add {w l : Sto} {j : Nat} : (w ++ l)[w.length + j]? = l[j]? := by
  rw [List.getElem?_append_right (Nat.le_add_right _ _), Nat.add_sub_cancel_left]
theorem set_add {w l : Sto} {j : Nat} {y : SO} : (w ++ l).set (w.length + j) y = w ++ l.set j y := by
  rw [List.set_append_right _ _ (Nat.le_add_right _ _), Nat.add_sub_cancel_left]
theorem get_add0 {w l : Sto} : (w ++ l)[w.length]? = l[0]? := get_add (j := 0)
theorem set_add0 {w l : Sto} {y : SO} : (w ++ l).set w.length y = w ++ l.set 0 y := set_add (j := 0)
def rowsOf (b1 b2 b3 b4 b5 : Bool) : List (Str × Bool) := [("machine", false), ("wish", false), ("path", false), ("run", false), ("number", false), ("paper", false), ("row", b1), ("menu", b2), ("log", b3), ("text", b4), ("own", !b5), ("sort", !b5), ("great", b5)]
def tellD (l : List (Str × Bool)) : List PyData := (l.filter (·.2)).map fun p => .str p.1
def rowD (p : Str × Bool) : PyData := .tuple [.str p.1, .bool p.2]
theorem classes_ok (c : Cs) (a : Addr) (fs : List (Str × PyData)) (w : Sto) (b1 b2 b3 b4 b5 : Bool)
    (t0 : (tab5 c false false false false false).lookup a = some false) (t1 : (tab5 c true false false false false).lookup a = some b1) (t2 : (tab5 c false true false false false).lookup a = some b2) (t3 : (tab5 c false false true false false).lookup a = some b3)
    (t4 : (tab5 c false false false true false).lookup a = some b4) (t5 : (tab5 c false false false false true).lookup a = some b5) (t6 : (tab5 c true true true true false).lookup a = some (!b5)) :
    g_law_classes c [.exc (a, fs)] w = some (.ok (.dat (.list (tellD (rowsOf b1 b2 b3 b4 b5)))), w) := by
  have two : ∀ (x y : Str) (t u : List (Addr × Bool)) (p q : Bool) (ρ : Env) (w : Sto), ρ[0]? = some (some (.exc (a, fs))) → t.lookup a = some p → u.lookup a = some q →
      mLst (mCons (mTup (mCons (mC (.str x)) (mCons (mUn (mV 0) (gIsE t)) mNil))) (mCons (mTup (mCons (mC (.str y)) (mCons (mUn (mV 0) (gIsE u)) mNil))) mNil)) ρ w = some (.ok (.dat (.list ([(x, p), (y, q)].map rowD))), w) := fun x y t u p q ρ w h0 h1 h2 => by
    simp [mBind, mPure, mSeq, mAsg, mBin, mUn, mV, mC, mRet, gI, mDef, endO, startE, fzR, mCons, mNil, mLst, mTup, h0, gIsE, h1, h2, fzs, fz1, fitsN, rowD, sizeLine_eq]
  have cat : ∀ (m2 : Env → Mo SV) (x : SV) (L M : List PyData) (ρ : Env) (w : Sto), ρ[1]? = some (some x) → toL w x = some L → m2 ρ w = some (.ok (.dat (.list M)), w) → L.length + M.length ≤ 100 → mBinS (mV 1) m2 gCatO ρ w = some (.ok (.obj w.length), w ++ [.lst (L ++ M)]) := fun m2 x L M ρ w h0 h1 h2 h3 => by
    have h4 : L.length + M.length ≤ sizeLine := by rw [sizeLine_eq]; omega
    have h5 : toL w (.dat (.list M)) = some M := rfl
    simp [mBind, mPure, mSeq, mAsg, mBin, mUn, mV, mC, mRet, gI, mDef, endO, startE, fzR, mCons, mNil, mBinS, h0, h2, gCatO, h1, h5, fitsN, h4]
  have tl : ∀ (w : Sto) (L : List PyData), toL (w ++ [.lst L]) (.obj w.length) = some L := fun w L => by simp [mBind, mPure, mSeq, mAsg, mBin, mUn, mV, mC, mRet, gI, mDef, endO, startE, fzR, mCons, mNil, toL]
  have e1 := two "machine" "wish" _ _ _ _ [some (.exc (a, fs)), none, none, none] w rfl t0 t0
  have e2 := cat _ (.dat (.list ([(("machine" : Str), false), ("wish", false)].map rowD))) _ _ [some (.exc (a, fs)), some (.dat (.list ([(("machine" : Str), false), ("wish", false)].map rowD))), none, none] w rfl rfl (two "path" "run" _ _ _ _ _ _ rfl t0 t0) (by simp [mBind, mPure, mSeq, mAsg, mBin, mUn, mV, mC, mRet, gI, mDef, endO, startE, fzR, mCons, mNil])
  obtain ⟨w1, h1⟩ : ∃ w1, w1 = w ++ [SO.lst ([(("machine" : Str), false), ("wish", false)].map rowD ++ [(("path" : Str), false), ("run", false)].map rowD)] := ⟨_, rfl⟩
  have e3 := cat _ (.obj w.length) _ _ [some (.exc (a, fs)), some (.obj w.length), none, none] w1 rfl (by rw [h1]; exact tl _ _) (two "number" "paper" _ _ _ _ _ _ rfl t0 t0) (by simp [mBind, mPure, mSeq, mAsg, mBin, mUn, mV, mC, mRet, gI, mDef, endO, startE, fzR, mCons, mNil])
  obtain ⟨w2, h2⟩ : ∃ w2, w2 = w1 ++ [SO.lst (([(("machine" : Str), false), ("wish", false)].map rowD ++ [(("path" : Str), false), ("run", false)].map rowD) ++ [(("number" : Str), false), ("paper", false)].map rowD)] := ⟨_, rfl⟩
  have e4 := cat _ (.obj w1.length) _ _ [some (.exc (a, fs)), some (.obj w1.length), none, none] w2 rfl (by rw [h2]; exact tl _ _) (two "row" "menu" _ _ _ _ _ _ rfl t1 t2) (by simp [mBind, mPure, mSeq, mAsg, mBin, mUn, mV, mC, mRet, gI, mDef, endO, startE, fzR, mCons, mNil])
  obtain ⟨w3, h3⟩ : ∃ w3, w3 = w2 ++ [SO.lst ((([(("machine" : Str), false), ("wish", false)].map rowD ++ [(("path" : Str), false), ("run", false)].map rowD) ++ [(("number" : Str), false), ("paper", false)].map rowD) ++ [(("row" : Str), b1), ("menu", b2)].map rowD)] := ⟨_, rfl⟩
  have e5 := cat _ (.obj w2.length) _ _ [some (.exc (a, fs)), some (.obj w2.length), none, none] w3 rfl (by rw [h3]; exact tl _ _) (two "log" "text" _ _ _ _ _ _ rfl t3 t4) (by simp [mBind, mPure, mSeq, mAsg, mBin, mUn, mV, mC, mRet, gI, mDef, endO, startE, fzR, mCons, mNil])
  obtain ⟨w4, h4⟩ : ∃ w4, w4 = w3 ++ [SO.lst (((([(("machine" : Str), false), ("wish", false)].map rowD ++ [(("path" : Str), false), ("run", false)].map rowD) ++ [(("number" : Str), false), ("paper", false)].map rowD) ++ [(("row" : Str), b1), ("menu", b2)].map rowD) ++ [(("log" : Str), b3), ("text", b4)].map rowD)] := ⟨_, rfl⟩
  have e6 := cat _ (.obj w3.length) _ _ [some (.exc (a, fs)), some (.obj w3.length), none, none] w4 rfl (by rw [h4]; exact tl _ _) (two "own" "sort" _ _ _ _ _ _ rfl t6 t6) (by simp [mBind, mPure, mSeq, mAsg, mBin, mUn, mV, mC, mRet, gI, mDef, endO, startE, fzR, mCons, mNil])
  have e7 : mApp (mV 1) (mTup (mCons (mC (.str "great")) (mCons (mUn (mV 0) (gIsE (tab5 c false false false false true))) mNil))) [some (.exc (a, fs)), some (.obj w4.length), none, none] (w4 ++ [SO.lst ((((([(("machine" : Str), false), ("wish", false)].map rowD ++ [(("path" : Str), false), ("run", false)].map rowD) ++ [(("number" : Str), false), ("paper", false)].map rowD) ++ [(("row" : Str), b1), ("menu", b2)].map rowD) ++ [(("log" : Str), b3), ("text", b4)].map rowD) ++ [(("own" : Str), !b5), ("sort", !b5)].map rowD)]) =
      some (.ok (.dat .none), w4 ++ [SO.lst ((rowsOf b1 b2 b3 b4 b5).map rowD)]) := by
    simp [mBind, mPure, mSeq, mAsg, mBin, mUn, mV, mC, mRet, gI, mDef, endO, startE, fzR, mCons, mNil, mApp, isLst, mTup, gIsE, t5, fzs, fz1, fitsN, sizeLine_eq, appO, rowsOf, rowD]
  have e8 : mLc (mItemsL (mFrz (mV 1))) [2, 3] (mSetT [(mSet 2), (mSet 3)]) (mTB (mV 3)) (mV 2) [some (.exc (a, fs)), some (.obj w4.length), none, none] (w4 ++ [SO.lst ((rowsOf b1 b2 b3 b4 b5).map rowD)]) = some (.ok (.dat (.list (tellD (rowsOf b1 b2 b3 b4 b5)))), w4 ++ [.dead]) := by
    have g : mItemsL (mFrz (mV 1)) [some (.exc (a, fs)), some (.obj w4.length), none, none] (w4 ++ [SO.lst ((rowsOf b1 b2 b3 b4 b5).map rowD)]) = some (.ok ((rowsOf b1 b2 b3 b4 b5).map rowD), w4 ++ [.dead]) := by
      simp [mBind, mPure, mSeq, mAsg, mBin, mUn, mV, mC, mRet, gI, mDef, endO, startE, fzR, mCons, mNil, mItemsL, mFrz, fz1]
    have e := lc_ok (w := w4 ++ [.dead]) (set := mSetT [(mSet 2), (mSet 3)]) (cond := mTB (mV 3)) (elt := mV 2) (ρ := wipeE [some (.exc (a, fs)), some (.obj w4.length), none, none] [2, 3])
      (fun d => match d with | .tuple [x, y] => [some (.exc (a, fs)), some (.obj w4.length), some (.dat x), some (.dat y)] | _ => []) (fun d => match d with | .tuple [_, .bool b] => b | _ => false) (fun d => match d with | .tuple [x, _] => x | d => d)
      (ds := (rowsOf b1 b2 b3 b4 b5).map rowD) (acc := []) (fun d hd w' => by
        obtain ⟨r, hr, rfl⟩ := List.mem_map.mp hd
        exact ⟨rfl, rfl, fun _ => rfl⟩) (by rw [sizeLine_eq]; simp [mBind, mPure, mSeq, mAsg, mBin, mUn, mV, mC, mRet, gI, mDef, endO, startE, fzR, mCons, mNil, rowsOf])
    unfold mLc
    rw [mBind_of g]
    simp only [e, List.getElem?_concat_length]
    rw [List.take_left']
    · congr 4
      simp only [tellD, List.nil_append, List.filter_map, List.map_map]
      rfl
    · rfl
  have e9 : m_law_classes c [some (.exc (a, fs)), none, none, none] w = some (.ok (.rt (.dat (.list (tellD (rowsOf b1 b2 b3 b4 b5))))), w4 ++ [.dead]) := by
    unfold m_law_classes
    refine (mSeq_nx (mAsg_of e1)).trans ?_
    refine (mSeq_nx (mAsg_of e2)).trans ?_
    rw [← h1]
    refine (mSeq_nx (mAsg_of e3)).trans ?_
    rw [← h2]
    refine (mSeq_nx (mAsg_of e4)).trans ?_
    rw [← h3]
    refine (mSeq_nx (mAsg_of e5)).trans ?_
    rw [← h4]
    refine (mSeq_nx (mAsg_of e6)).trans ?_
    refine (mSeq_nx (ρ1 := [some (.exc (a, fs)), some (.obj w4.length), none, none]) (w1 := w4 ++ [SO.lst ((rowsOf b1 b2 b3 b4 b5).map rowD)]) ((mBind_of e7).trans rfl)).trans ?_
    exact (mBind_of e8).trans rfl
  show endO w.length (m_law_classes c [some (.exc (a, fs)), none, none, none] w) = _
  rw [e9]
  simp only [endO]
  congr 2
  rw [h4, h3, h2, h1]
  simp [mBind, mPure, mSeq, mAsg, mBin, mUn, mV, mC, mRet, gI, mDef, endO, startE, fzR, mCons, mNil]
end K80
end EG


set_option Elab.async false
set_option linter.all false
set_option maxRecDepth 100000
set_option maxHeartbeats 4000000
namespace EG
namespace K80
open PySem PySem.Spec PyProof.Rows L2
/-! ### one turn -/
structure Apart (c : Cs) : Prop where
  h1 : c.row ≠ c.menu
  h2 : c.row ≠ c.log
  h3 : c.row ≠ c.text
  h4 : c.row ≠ c.great
  h5 : c.menu ≠ c.log
  h6 : c.menu ≠ c.text
  h7 : c.menu ≠ c.great
  h8 : c.log ≠ c.text
  h9 : c.log ≠ c.great
  h10 : c.text ≠ c.great
section
variable {c : Cs} (hc : Apart c)
include hc
theorem look_row (b1 b2 b3 b4 b5 : Bool) : (tab5 c b1 b2 b3 b4 b5).lookup c.row = some b1 := by simp [mBind, mPure, mSeq, mAsg, mBin, mUn, mV, mC, mRet, gI, mDef, endO, startE, fzR, mCons, mNil, tab5, List.lookup]
theorem look_menu (b1 b2 b3 b4 b5 : Bool) : (tab5 c b1 b2 b3 b4 b5).lookup c.menu = some b2 := by
  have e1 : (c.menu == c.row) = false := beq_false_of_ne hc.h1.symm
  simp [mBind, mPure, mSeq, mAsg, mBin, mUn, mV, mC, mRet, gI, mDef, endO, startE, fzR, mCons, mNil, tab5, List.lookup, e1]
theorem look_log (b1 b2 b3 b4 b5 : Bool) : (tab5 c b1 b2 b3 b4 b5).lookup c.log = some b3 := by
  have e1 : (c.log == c.row) = false := beq_false_of_ne hc.h2.symm
  have e2 : (c.log == c.menu) = false := beq_false_of_ne hc.h5.symm
  simp [mBind, mPure, mSeq, mAsg, mBin, mUn, mV, mC, mRet, gI, mDef, endO, startE, fzR, mCons, mNil, tab5, List.lookup, e1, e2]
theorem look_text (b1 b2 b3 b4 b5 : Bool) : (tab5 c b1 b2 b3 b4 b5).lookup c.text = some b4 := by
  have e1 : (c.text == c.row) = false := beq_false_of_ne hc.h3.symm
  have e2 : (c.text == c.menu) = false := beq_false_of_ne hc.h6.symm
  have e3 : (c.text == c.log) = false := beq_false_of_ne hc.h8.symm
  simp [mBind, mPure, mSeq, mAsg, mBin, mUn, mV, mC, mRet, gI, mDef, endO, startE, fzR, mCons, mNil, tab5, List.lookup, e1, e2, e3]
theorem look_great (b1 b2 b3 b4 b5 : Bool) : (tab5 c b1 b2 b3 b4 b5).lookup c.great = some b5 := by
  have e1 : (c.great == c.row) = false := beq_false_of_ne hc.h4.symm
  have e2 : (c.great == c.menu) = false := beq_false_of_ne hc.h7.symm
  have e3 : (c.great == c.log) = false := beq_false_of_ne hc.h9.symm
  have e4 : (c.great == c.text) = false := beq_false_of_ne hc.h10.symm
  simp [mBind, mPure, mSeq, mAsg, mBin, mUn, mV, mC, mRet, gI, mDef, endO, startE, fzR, mCons, mNil, tab5, List.lookup, e1, e2, e3, e4]
theorem cl_row (fs : List (Str × PyData)) (w : Sto) : g_law_classes c [.exc (c.row, fs)] w = some (.ok (.dat (.list [.str "row", .str "own", .str "sort"])), w) :=
  classes_ok c c.row fs w true false false false false (look_row hc ..) (look_row hc ..) (look_row hc ..) (look_row hc ..) (look_row hc ..) (look_row hc ..) (look_row hc ..)
theorem cl_menu (fs : List (Str × PyData)) (w : Sto) : g_law_classes c [.exc (c.menu, fs)] w = some (.ok (.dat (.list [.str "menu", .str "own", .str "sort"])), w) :=
  classes_ok c c.menu fs w false true false false false (look_menu hc ..) (look_menu hc ..) (look_menu hc ..) (look_menu hc ..) (look_menu hc ..) (look_menu hc ..) (look_menu hc ..)
theorem cl_log (fs : List (Str × PyData)) (w : Sto) : g_law_classes c [.exc (c.log, fs)] w = some (.ok (.dat (.list [.str "log", .str "own", .str "sort"])), w) :=
  classes_ok c c.log fs w false false true false false (look_log hc ..) (look_log hc ..) (look_log hc ..) (look_log hc ..) (look_log hc ..) (look_log hc ..) (look_log hc ..)
theorem cl_text (fs : List (Str × PyData)) (w : Sto) : g_law_classes c [.exc (c.text, fs)] w = some (.ok (.dat (.list [.str "text", .str "own", .str "sort"])), w) :=
  classes_ok c c.text fs w false false false true false (look_text hc ..) (look_text hc ..) (look_text hc ..) (look_text hc ..) (look_text hc ..) (look_text hc ..) (look_text hc ..)
theorem cl_great (fs : List (Str × PyData)) (w : Sto) : g_law_classes c [.exc (c.great, fs)] w = some (.ok (.dat (.list [.str "great"])), w) :=
  classes_ok c c.great fs w false false false false true (look_great hc ..) (look_great hc ..) (look_great hc ..) (look_great hc ..) (look_great hc ..) (look_great hc ..) (look_great hc ..)
end
def exs (c : Cs) (q z : PyData) : List ExV := [(c.row, [("number", q)]), (c.menu, [("number", q)]), (c.log, [("place", q)]), (c.text, [("word", z), ("line", q)])]
theorem eq_l (x : Str) (h : x ∈ [("row" : Str), "menu", "log", "text"]) : eqDD (.list [.str x, .str "own", .str "sort"]) (.list [.str x, .str "own", .str "sort"]) = some true := by
  have : ∀ x ∈ [("row" : Str), "menu", "log", "text"], eqDD (.list [.str x, .str "own", .str "sort"]) (.list [.str x, .str "own", .str "sort"]) = some true := by decide +kernel
  exact this x h
theorem eq_g : eqDD (.list [.str "great"]) (.list [.str "great"]) = some true := by decide +kernel
/-- what may be shown -/
def Fine (d : PyData) : Prop := d.showable = true ∧ d.depth ≤ 5 ∧ d.shown.length ≤ 3000
theorem textFrom_up : ∀ (ts : List Str) (k : Nat) (acc : Str) (m : Nat), (∀ t ∈ ts, t.length ≤ m) → (textFrom k acc ts).length ≤ acc.length + (m + 2) * ts.length
  | [], k, acc, m, _ => Nat.le_add_right _ _
  | t :: r, k, acc, m, h => by
    have ih := textFrom_up r (k + 1) (acc ++ (if k > 0 then ", " else "" : String) ++ t) m fun t ht => h t (List.mem_cons_of_mem _ ht)
    have h1 := h t List.mem_cons_self
    have h2 : (acc ++ (if k > 0 then ", " else "" : String) ++ t : Str).length ≤ acc.length + 2 + m := by
      rw [Str.length_append, Str.length_append]
      have : (Str.ofString (if k > 0 then ", " else "" : String)).length ≤ 2 := by
        by_cases hk : k > 0
        · rw [if_pos hk]; decide
        · rw [if_neg hk]; decide
      have e : ((if k > 0 then ", " else "" : String) : Str) = Str.ofString (if k > 0 then ", " else "" : String) := rfl
      omega
    show (textFrom (k + 1) (acc ++ (if k > 0 then ", " else "" : String) ++ t) r).length ≤ _
    rw [List.length_cons, Nat.mul_succ]
    omega
theorem fine5 {q z : PyData} (hq : Fine q) (hz : Fine z) : (PyData.list [q, q, q, q, z]).showable = true ∧ (PyData.list [q, q, q, q, z]).depth ≤ 60 ∧ (PyData.list [q, q, q, q, z]).shown.length ≤ sizeLine := by
  obtain ⟨q1, q2, q3⟩ := hq
  obtain ⟨z1, z2, z3⟩ := hz
  refine ⟨by simp [mBind, mPure, mSeq, mAsg, mBin, mUn, mV, mC, mRet, gI, mDef, endO, startE, fzR, mCons, mNil, PyData.showable, PyData.showableAll, q1, z1], by simp [mBind, mPure, mSeq, mAsg, mBin, mUn, mV, mC, mRet, gI, mDef, endO, startE, fzR, mCons, mNil, PyData.depth, PyData.depthAll]; omega, ?_⟩
  have u := textFrom_up (PyData.shownAll [q, q, q, q, z]) 0 "[" 3000 (fun t ht => by
    have ht : t = q.shown ∨ t = q.shown ∨ t = q.shown ∨ t = q.shown ∨ t = z.shown := by simpa [PyData.shownAll] using ht
    rcases ht with rfl | rfl | rfl | rfl | rfl <;> assumption)
  have e : (PyData.list [q, q, q, q, z]).shown = listText (PyData.shownAll [q, q, q, q, z]) := by simp only [PyData.shown]
  rw [e, listText, Str.length_append, sizeLine_eq]
  have l1 : (("]" : Str)).length = 1 := by decide
  have l2 : (("[" : Str)).length = 1 := by decide
  have l3 : (PyData.shownAll [q, q, q, q, z]).length = 5 := by simp [mBind, mPure, mSeq, mAsg, mBin, mUn, mV, mC, mRet, gI, mDef, endO, startE, fzR, mCons, mNil, PyData.shownAll]
  rw [l3, l2] at u
  omega
theorem Fine.ok {q : PyData} (h : Fine q) : q.showable = true ∧ q.depth ≤ 60 ∧ q.shown.length ≤ sizeLine := ⟨h.1, by have := h.2.1; omega, by have := h.2.2; rw [sizeLine_eq]; omega⟩
theorem turn0 {c : Cs} (hc : Apart c) (q z : PyData) (s0 s1 s2 s3 s4 s5 s6 s7 s9 s10 : Option SV) (w : Sto) (k : Nat) (hk : k < 4) :
    blaw0 c [s0, s1, s2, s3, s4, s5, s6, s7, some (.excs (exs c q z)), some (.dat (.int (k : Int))), s10] w = some (.ok (.nx [s0, s1, s2, s3, s4, s5, s6, s7, some (.excs (exs c q z)), some (.dat (.int (k : Int))), s10]), w) := by
  have hk : k = 0 ∨ k = 1 ∨ k = 2 ∨ k = 3 := by omega
  rcases hk with rfl | rfl | rfl | rfl
  · have e := eq_l "row" (by simp [mBind, mPure, mSeq, mAsg, mBin, mUn, mV, mC, mRet, gI, mDef, endO, startE, fzR, mCons, mNil])
    simp [mBind, mPure, mSeq, mAsg, mBin, mUn, mV, mC, mRet, gI, mDef, endO, startE, fzR, mCons, mNil, blaw0, mIfS, mTB, mCall, gIxE, atD, ixN, exs, cl_row hc, mLst, fzs, fz1, fitsN, sizeLine_eq, gIx, toD, itemsD, gNe, e, mSkip]
  · have e := eq_l "menu" (by simp [mBind, mPure, mSeq, mAsg, mBin, mUn, mV, mC, mRet, gI, mDef, endO, startE, fzR, mCons, mNil])
    simp [mBind, mPure, mSeq, mAsg, mBin, mUn, mV, mC, mRet, gI, mDef, endO, startE, fzR, mCons, mNil, blaw0, mIfS, mTB, mCall, gIxE, atD, ixN, exs, cl_menu hc, mLst, fzs, fz1, fitsN, sizeLine_eq, gIx, toD, itemsD, gNe, e, mSkip]
  · have e := eq_l "log" (by simp [mBind, mPure, mSeq, mAsg, mBin, mUn, mV, mC, mRet, gI, mDef, endO, startE, fzR, mCons, mNil])
    simp [mBind, mPure, mSeq, mAsg, mBin, mUn, mV, mC, mRet, gI, mDef, endO, startE, fzR, mCons, mNil, blaw0, mIfS, mTB, mCall, gIxE, atD, ixN, exs, cl_log hc, mLst, fzs, fz1, fitsN, sizeLine_eq, gIx, toD, itemsD, gNe, e, mSkip]
  · have e := eq_l "text" (by simp [mBind, mPure, mSeq, mAsg, mBin, mUn, mV, mC, mRet, gI, mDef, endO, startE, fzR, mCons, mNil])
    simp [mBind, mPure, mSeq, mAsg, mBin, mUn, mV, mC, mRet, gI, mDef, endO, startE, fzR, mCons, mNil, blaw0, mIfS, mTB, mCall, gIxE, atD, ixN, exs, cl_text hc, mLst, fzs, fz1, fitsN, sizeLine_eq, gIx, toD, itemsD, gNe, e, mSkip]
theorem turn1 {c : Cs} (hc : Apart c) {q z : PyData} (hq : Fine q) (hz : Fine z) (s0 s1 s2 s3 s6 s7 s9 s10 : Option SV) (w : Sto) :
    blaw1 c [s0, s1, s2, s3, some (.dat q), some (.dat z), s6, s7, some (.excs (exs c q z)), s9, s10] w = some (.ok (.nx [s0, s1, s2, s3, some (.dat q), some (.dat z), s6, s7, some (.excs (exs c q z)), some (.dat (.int 3)), some (.dat (.list [q, q, q, q, z]))]), w) := by
  have t := fun s9 s10 k hk => turn0 hc q z s0 s1 s2 s3 (some (.dat q)) (some (.dat z)) s6 s7 s9 s10 w k hk
  have e1 : mFor (mRange1 (mC (.int 4))) (mSet 9) (blaw0 c) [s0, s1, s2, s3, some (.dat q), some (.dat z), s6, s7, some (.excs (exs c q z)), s9, s10] w = some (.ok (.nx [s0, s1, s2, s3, some (.dat q), some (.dat z), s6, s7, some (.excs (exs c q z)), some (.dat (.int 3)), s10]), w) := by
    have g : mRange1 (mC (.int 4)) [s0, s1, s2, s3, some (.dat q), some (.dat z), s6, s7, some (.excs (exs c q z)), s9, s10] w = some (.ok [.int 0, .int 1, .int 2, .int 3], w) := rfl
    refine (mFor_of g).trans ?_
    refine (mBind_of (a := [s0, s1, s2, s3, some (.dat q), some (.dat z), s6, s7, some (.excs (exs c q z)), some (.dat (.int 0)), s10]) rfl).trans ?_
    refine (mBind_of (t none s10 0 (by decide))).trans ?_
    refine (mBind_of (a := [s0, s1, s2, s3, some (.dat q), some (.dat z), s6, s7, some (.excs (exs c q z)), some (.dat (.int 1)), s10]) rfl).trans ?_
    refine (mBind_of (t none s10 1 (by decide))).trans ?_
    refine (mBind_of (a := [s0, s1, s2, s3, some (.dat q), some (.dat z), s6, s7, some (.excs (exs c q z)), some (.dat (.int 2)), s10]) rfl).trans ?_
    refine (mBind_of (t none s10 2 (by decide))).trans ?_
    refine (mBind_of (a := [s0, s1, s2, s3, some (.dat q), some (.dat z), s6, s7, some (.excs (exs c q z)), some (.dat (.int 3)), s10]) rfl).trans ?_
    exact (mBind_of (t none s10 3 (by decide))).trans rfl
  obtain ⟨f1, f2, f3⟩ := fine5 hq hz
  have f := like_ok _ w f1 f2 f3
  unfold blaw1
  refine (mSeq_nx e1).trans ?_
  refine (mSeq_nx (ρ1 := [s0, s1, s2, s3, some (.dat q), some (.dat z), s6, s7, some (.excs (exs c q z)), some (.dat (.int 3)), some (.dat (.list [q, q, q, q, z]))]) (w1 := w) ?_).trans ?_
  · have lw : (Str.ofString "line" == Str.ofString "word") = false := by decide
    simp [mBind, mPure, mSeq, mAsg, mBin, mUn, mV, mC, mRet, gI, mDef, endO, startE, fzR, mCons, mNil, mLst, gIxE, atD, ixN, exs, gFld, List.lookup, fzs, fz1, fitsN, sizeLine_eq, lw]
  · simp [mBind, mPure, mSeq, mAsg, mBin, mUn, mV, mC, mRet, gI, mDef, endO, startE, fzR, mCons, mNil, mIfS, mNot, mTB, mCall, mLst, fzs, fz1, fitsN, sizeLine_eq, gRep, toL, gCat, f, mSkip]
def things (r : Int) : List PyData := [.none, .int 0, .bool true, .int r, .str "", .str "mark", .tuple [], .tuple [.int 1, .str "a"], .list [.int 1, .list [.int 2]], .dict [], .dict [(.str "a", .int 1)]]
theorem fine_int {r : Int} (h0 : 0 ≤ r) (h1 : r < 1000000) : Fine (.int r) := by
  have hl : r.natAbs.log2 < 1920 := by
    by_cases hz : r.natAbs = 0
    · rw [hz]; decide
    · have h : r.natAbs.log2 < 20 := (Nat.log2_lt hz).mpr (by omega)
      omega
  refine ⟨by simpa [PyData.showable] using hl, by simp [mBind, mPure, mSeq, mAsg, mBin, mUn, mV, mC, mRet, gI, mDef, endO, startE, fzR, mCons, mNil, PyData.depth], ?_⟩
  have := PyProof.Rows.int_text_len_1921 hl
  show (Str.ofString (toString r)).length ≤ 3000
  omega
theorem thing_at {r i : Int} (h0 : 0 ≤ r) (h1 : r < 1000000) (i0 : 0 ≤ i) (i1 : i < 11) : ∃ d, atD (things r) i = some d ∧ Fine d := by
  have hi : i = 0 ∨ i = 1 ∨ i = 2 ∨ i = 3 ∨ i = 4 ∨ i = 5 ∨ i = 6 ∨ i = 7 ∨ i = 8 ∨ i = 9 ∨ i = 10 := by omega
  have f3 := fine_int h0 h1
  rcases hi with rfl | rfl | rfl | rfl | rfl | rfl | rfl | rfl | rfl | rfl | rfl
  · exact ⟨_, rfl, by unfold Fine; decide +kernel⟩
  · exact ⟨_, rfl, by unfold Fine; decide +kernel⟩
  · exact ⟨_, rfl, by unfold Fine; decide +kernel⟩
  · exact ⟨_, rfl, f3⟩
  · exact ⟨_, rfl, by unfold Fine; decide +kernel⟩
  · exact ⟨_, rfl, by unfold Fine; decide +kernel⟩
  · exact ⟨_, rfl, by unfold Fine; decide +kernel⟩
  · exact ⟨_, rfl, by unfold Fine; decide +kernel⟩
  · exact ⟨_, rfl, by unfold Fine; decide +kernel⟩
  · exact ⟨_, rfl, by unfold Fine; decide +kernel⟩
  · exact ⟨_, rfl, by unfold Fine; decide +kernel⟩
theorem turn2 {c : Cs} (hc : Apart c) (s0 s2 s3 s4 s5 s6 s7 s8 s9 s10 : Option SV) (cs gs : List Int) (n : Int) (hl : cs.length = 64) (h0 : 0 ≤ n) (h1 : n ≤ 800000) :
    ∃ (x2 x3 x4 x5 x6 x7 x8 x9 x10 : Option SV) (gs' : List Int), blaw2 c [s0, some (.obj 2), s2, s3, s4, s5, s6, s7, s8, s9, s10] [.dead, .dead, .draw cs gs n] = some (.ok (.nx [trimV 3 s0, some (.obj 2), x2, x3, x4, x5, x6, x7, x8, x9, x10]), [.dead, .dead, .draw cs gs' (n + 3)]) := by
  obtain ⟨r, gs1, r0, r1, d1⟩ := draw_ok (w := [.dead, .dead, .draw cs gs n]) (k := 2) (cs := cs) (gs := gs) (n := n) (L := 1000000) rfl hl h0 (by omega) (by decide) (by decide)
  have d1' : g_law_draw [.obj 2, .dat (.int 1000000)] [.dead, .dead, .draw cs gs n] = some (.ok (.dat (.int r)), [.dead, .dead, .draw cs gs1 (n + 1)]) := d1
  have eA : mLstO (mCons (mC .none) (mCons (mC (.int 0)) (mCons (mC (.bool true)) (mCons (mCall g_law_draw (mCons (mV 1) (mCons (mBin (mC (.int 10)) (mC (.int 6)) gPow) mNil))) (mCons (mC (.str "")) (mCons (mC (.str "mark")) (mCons (mTup mNil) (mCons (mTup (mCons (mC (.int 1)) (mCons (mC (.str "a")) mNil))) (mCons (mLst (mCons (mC (.int 1)) (mCons (mLst (mCons (mC (.int 2)) mNil)) mNil))) (mCons mDisp0 mNil))))))))))
      [s0, some (.obj 2), s2, s3, s4, s5, s6, s7, s8, s9, s10] [.dead, .dead, .draw cs gs n] = some (.ok (.obj 4), [.dead, .dead, .draw cs gs1 (n + 1), .dead, .lst [.none, .int 0, .bool true, .int r, .str "", .str "mark", .tuple [], .tuple [.int 1, .str "a"], .list [.int 1, .list [.int 2]], .dict []]]) := by
    simp [mBind, mPure, mSeq, mAsg, mBin, mUn, mV, mC, mRet, gI, mDef, endO, startE, fzR, mCons, mNil, mLstO, mCall, d1', mTup, mLst, fzs, fz1, fitsN, sizeLine_eq, mDisp0]
  have eB : mApp (mV 3) (mDisp [Sum.inr "a"] (mCons (mC (.int 1)) mNil)) [s0, some (.obj 2), s2, some (.obj 4), s4, s5, s6, s7, s8, s9, s10] [.dead, .dead, .draw cs gs1 (n + 1), .dead, .lst [.none, .int 0, .bool true, .int r, .str "", .str "mark", .tuple [], .tuple [.int 1, .str "a"], .list [.int 1, .list [.int 2]], .dict []]] =
      some (.ok (.dat .none), [.dead, .dead, .draw cs gs1 (n + 1), .dead, .lst (things r), .dead]) := by
    simp [mBind, mPure, mSeq, mAsg, mBin, mUn, mV, mC, mRet, gI, mDef, endO, startE, fzR, mCons, mNil, mApp, isLst, mDisp, dspO, fzs, fz1, appO, sizeLine_eq, kvD, kD, things]
  obtain ⟨i, gs2, i0, i1, d2⟩ := draw_ok (w := [.dead, .dead, .draw cs gs1 (n + 1), .dead, .lst (things r), .dead]) (k := 2) (cs := cs) (gs := gs1) (n := n + 1) (L := 11) rfl hl (by omega) (by omega) (by decide) (by decide)
  obtain ⟨j, gs3, j0, j1, d3⟩ := draw_ok (w := [.dead, .dead, .draw cs gs2 (n + 1 + 1), .dead, .lst (things r), .dead]) (k := 2) (cs := cs) (gs := gs2) (n := n + 1 + 1) (L := 11) rfl hl (by omega) (by omega) (by decide) (by decide)
  have d2' : g_law_draw [.obj 2, .dat (.int 11)] [.dead, .dead, .draw cs gs1 (n + 1), .dead, .lst (things r), .dead] = some (.ok (.dat (.int i)), [.dead, .dead, .draw cs gs2 (n + 1 + 1), .dead, .lst (things r), .dead]) := d2
  have d3' : g_law_draw [.obj 2, .dat (.int 11)] [.dead, .dead, .draw cs gs2 (n + 1 + 1), .dead, .lst (things r), .dead] = some (.ok (.dat (.int j)), [.dead, .dead, .draw cs gs3 (n + 1 + 1 + 1), .dead, .lst (things r), .dead]) := d3
  obtain ⟨q, hq, fq⟩ := thing_at r0 r1 i0 i1
  obtain ⟨z, hz, fz⟩ := thing_at r0 r1 j0 j1
  have eC : mPar 4 5 (mCons (mBin (mV 3) (mCall g_law_draw (mCons (mV 1) (mCons (mC (.int 11)) mNil))) gIx) (mCons (mBin (mV 3) (mCall g_law_draw (mCons (mV 1) (mCons (mC (.int 11)) mNil))) gIx) mNil)) [s0, some (.obj 2), s2, some (.obj 4), s4, s5, s6, s7, s8, s9, s10] [.dead, .dead, .draw cs gs1 (n + 1), .dead, .lst (things r), .dead] =
      some (.ok (.nx [s0, some (.obj 2), s2, some (.obj 4), some (.dat q), some (.dat z), s6, s7, s8, s9, s10]), [.dead, .dead, .draw cs gs3 (n + 1 + 1 + 1), .dead, .lst (things r), .dead]) := by
    simp [mBind, mPure, mSeq, mAsg, mBin, mUn, mV, mC, mRet, gI, mDef, endO, startE, fzR, mCons, mNil, mPar, mCall, d2', d3', gIx, toD, itemsD, hq, hz]
  obtain ⟨w, hw⟩ : ∃ w : Sto, w = [.dead, .dead, .draw cs gs3 (n + 1 + 1 + 1), .dead, .lst (things r), .dead] := ⟨_, rfl⟩
  have eD : ∀ (s6 : Option SV), mExcs (mCons (mMkE c.row ["number"] (mCons (mV 4) mNil)) (mCons (mMkE c.menu ["number"] (mCons (mV 4) mNil)) (mCons (mMkE c.log ["place"] (mCons (mV 4) mNil)) (mCons (mMkE c.text ["line", "word"] (mCons (mV 4) (mCons (mV 5) mNil))) mNil)))) [s0, some (.obj 2), s2, some (.obj 4), some (.dat q), some (.dat z), s6, s7, s8, s9, s10] w = some (.ok (.excs (exs c q z)), w) := fun s6 => by
    simp [mBind, mPure, mSeq, mAsg, mBin, mUn, mV, mC, mRet, gI, mDef, endO, startE, fzR, mCons, mNil, mExcs, mMkE, fzs, fz1, excsO, fitsN, sizeLine_eq, exs]
  have eE : mExcs (mCons (mMkE c.row ["number"] (mTurn false (mCons (mV 4) mNil))) (mCons (mMkE c.menu ["number"] (mTurn false (mCons (mV 4) mNil))) (mCons (mMkE c.log ["place"] (mTurn false (mCons (mV 4) mNil))) (mCons (mMkE c.text ["line", "word"] (mTurn true (mCons (mV 5) (mCons (mV 4) mNil)))) mNil)))) [s0, some (.obj 2), s2, some (.obj 4), some (.dat q), some (.dat z), some (.excs (exs c q z)), s7, s8, s9, s10] w = some (.ok (.excs (exs c q z)), w) := by
    simp [mBind, mPure, mSeq, mAsg, mBin, mUn, mV, mC, mRet, gI, mDef, endO, startE, fzR, mCons, mNil, mExcs, mMkE, mTurn, turn, fzs, fz1, excsO, fitsN, sizeLine_eq, exs]
  have eF : mForS 8 (mCons (mV 6) (mCons (mV 7) mNil)) (blaw1 c) [s0, some (.obj 2), s2, some (.obj 4), some (.dat q), some (.dat z), some (.excs (exs c q z)), some (.excs (exs c q z)), s8, s9, s10] w =
      some (.ok (.nx [s0, some (.obj 2), s2, some (.obj 4), some (.dat q), some (.dat z), some (.excs (exs c q z)), some (.excs (exs c q z)), some (.excs (exs c q z)), some (.dat (.int 3)), some (.dat (.list [q, q, q, q, z]))]), w) := by
    refine (mBind_of (a := [.excs (exs c q z), .excs (exs c q z)]) rfl).trans ?_
    rw [if_pos (show fitsN [SV.excs (exs c q z), SV.excs (exs c q z)].length = true from show fitsN 2 = true by decide)]
    refine (mBind_of (turn1 hc fq fz s0 (some (.obj 2)) s2 (some (.obj 4)) (some (.excs (exs c q z))) (some (.excs (exs c q z))) s9 s10 w)).trans ?_
    exact (mBind_of (turn1 hc fq fz s0 (some (.obj 2)) s2 (some (.obj 4)) (some (.excs (exs c q z))) (some (.excs (exs c q z))) (some (.dat (.int 3))) (some (.dat (.list [q, q, q, q, z]))) w)).trans rfl
  obtain ⟨q1, q2, q3⟩ := fq.ok
  have lk := like_ok q w q1 q2 q3
  have eG : ∀ (b d e f g h : Option SV), mIfS (mOr (mTB (mBin (mCall (g_law_classes c) (mCons (mMkE c.great ["most"] (mCons (mV 4) mNil)) mNil)) (mLst (mCons (mC (.str "great")) mNil)) gNe)) (mNot (mTB (mCall g_law_like (mCons (mUn (mMkE c.great ["most"] (mCons (mV 4) mNil)) (gFld [c.great] "most")) (mCons (mV 4) mNil)))))) (mRet (mC (.bool false))) mSkip [s0, some (.obj 2), s2, some (.obj 4), some (.dat q), b, d, e, f, g, h] w =
      some (.ok (.nx [s0, some (.obj 2), s2, some (.obj 4), some (.dat q), b, d, e, f, g, h]), w) := fun b d e f g h => by
    have eg := eq_g
    simp [mBind, mPure, mSeq, mAsg, mBin, mUn, mV, mC, mRet, gI, mDef, endO, startE, fzR, mCons, mNil, mIfS, mOr, mNot, mTB, mCall, mMkE, fzs, fz1, cl_great hc, mLst, fitsN, sizeLine_eq, gNe, toD, eg, gFld, List.lookup, lk, mSkip]
  have all : (mSeq (mAsg 3 (mLstO (mCons (mC .none) (mCons (mC (.int 0)) (mCons (mC (.bool true)) (mCons (mCall g_law_draw (mCons (mV 1) (mCons (mBin (mC (.int 10)) (mC (.int 6)) gPow) mNil))) (mCons (mC (.str "")) (mCons (mC (.str "mark")) (mCons (mTup mNil) (mCons (mTup (mCons (mC (.int 1)) (mCons (mC (.str "a")) mNil))) (mCons (mLst (mCons (mC (.int 1)) (mCons (mLst (mCons (mC (.int 2)) mNil)) mNil))) (mCons mDisp0 mNil))))))))))))
  (mSeq (mDrop (mApp (mV 3) (mDisp [Sum.inr "a"] (mCons (mC (.int 1)) mNil))))
  (mSeq (mPar 4 5 (mCons (mBin (mV 3) (mCall g_law_draw (mCons (mV 1) (mCons (mC (.int 11)) mNil))) gIx) (mCons (mBin (mV 3) (mCall g_law_draw (mCons (mV 1) (mCons (mC (.int 11)) mNil))) gIx) mNil)))
  (mSeq (mAsg 6 (mExcs (mCons (mMkE c.row ["number"] (mCons (mV 4) mNil)) (mCons (mMkE c.menu ["number"] (mCons (mV 4) mNil)) (mCons (mMkE c.log ["place"] (mCons (mV 4) mNil)) (mCons (mMkE c.text ["line", "word"] (mCons (mV 4) (mCons (mV 5) mNil))) mNil))))))
  (mSeq (mAsg 7 (mExcs (mCons (mMkE c.row ["number"] (mTurn false (mCons (mV 4) mNil))) (mCons (mMkE c.menu ["number"] (mTurn false (mCons (mV 4) mNil))) (mCons (mMkE c.log ["place"] (mTurn false (mCons (mV 4) mNil))) (mCons (mMkE c.text ["line", "word"] (mTurn true (mCons (mV 5) (mCons (mV 4) mNil)))) mNil))))))
  (mSeq (mForS 8 (mCons (mV 6) (mCons (mV 7) mNil)) (blaw1 c))
  (mIfS (mOr (mTB (mBin (mCall (g_law_classes c) (mCons (mMkE c.great ["most"] (mCons (mV 4) mNil)) mNil)) (mLst (mCons (mC (.str "great")) mNil)) gNe)) (mNot (mTB (mCall g_law_like (mCons (mUn (mMkE c.great ["most"] (mCons (mV 4) mNil)) (gFld [c.great] "most")) (mCons (mV 4) mNil)))))) (mRet (mC (.bool false))) mSkip)))))))
      [s0, some (.obj 2), s2, s3, s4, s5, s6, s7, s8, s9, s10] [.dead, .dead, .draw cs gs n] = some (.ok (.nx [s0, some (.obj 2), s2, some (.obj 4), some (.dat q), some (.dat z), some (.excs (exs c q z)), some (.excs (exs c q z)), some (.excs (exs c q z)), some (.dat (.int 3)), some (.dat (.list [q, q, q, q, z]))]), w) := by
    refine (mSeq_nx (mAsg_of eA)).trans ?_
    refine (mSeq_nx (ρ1 := [s0, some (.obj 2), s2, some (.obj 4), s4, s5, s6, s7, s8, s9, s10]) ((mBind_of eB).trans rfl)).trans ?_
    refine (mSeq_nx eC).trans ?_
    rw [← hw]
    refine (mSeq_nx (mAsg_of (eD s6))).trans ?_
    refine (mSeq_nx (mAsg_of eE)).trans ?_
    refine (mSeq_nx eF).trans ?_
    exact eG _ _ _ _ _ _
  refine ⟨trimV 3 s2, none, some (.dat q), some (.dat z), some (.excs (exs c q z)), some (.excs (exs c q z)), some (.excs (exs c q z)), some (.dat (.int 3)), some (.dat (.list [q, q, q, q, z])), gs3, ?_⟩
  unfold blaw2 mGc
  rw [all, hw]
  have en : n + 1 + 1 + 1 = n + 3 := by omega
  simp [mBind, mPure, mSeq, mAsg, mBin, mUn, mV, mC, mRet, gI, mDef, endO, startE, fzR, mCons, mNil, trimO, trimE, trimV, en]
/-- the law -/
theorem Ok.forN {set : PyData → Env → Mo Env} {body : Env → Mo Out} (N : Nat) (I : Nat → Env → Sto → Prop) : ∀ {ds : List PyData} {i : Nat} {ρ : Env} {w : Sto}, i + ds.length ≤ N → I i ρ w → (∀ d ∈ ds, ∀ i ρ w, i < N → I i ρ w → Ok (mBind (set d ρ) body) w (fun o w' => ∃ ρ', o = .nx ρ' ∧ I (i + 1) ρ' w')) → Ok (forL set body ds ρ) w (fun o w' => ∃ i ρ', o = .nx ρ' ∧ I i ρ' w')
  | [], i, ρ, w, _, h, _ => ⟨_, _, rfl, i, ρ, rfl, h⟩
  | d :: r, i, ρ, w, hN, h, k => by
    rw [List.length_cons] at hN
    obtain ⟨o, w1, e, ρ1, rfl, i1⟩ := k d List.mem_cons_self i ρ w (by omega) h
    obtain ⟨o2, w2, e2, q⟩ := Ok.forN N I (ds := r) (by omega) i1 (fun d hd => k d (List.mem_cons_of_mem _ hd))
    refine ⟨_, w2, ?_, q⟩
    unfold forL
    unfold mBind at e ⊢
    cases hs : set d ρ w with
    | none => rw [hs] at e; cases e
    | some p =>
      obtain ⟨p1, p2⟩ := p
      cases p1 with
      | err _ _ => rw [hs] at e; cases e
      | ok ρ2 =>
        rw [hs] at e
        simp only at e ⊢
        rw [e]
        exact e2
end K80
end EG


set_option Elab.async false
set_option linter.all false
set_option maxRecDepth 100000
set_option maxHeartbeats 400000
namespace EG
namespace K80
open PySem PySem.Spec PyProof.Rows L2
theorem range_ok (ns : List Int) (hz : ns.length ≤ 63) (w : Sto) : ∃ m : Nat, m ≤ 9 ∧ mRange1 (mBin (mC (.int 3)) (mBin (mC (.int 6)) (mUn (mV 0) gLen) gMin) gAdd) [some (.scr ns), some (.obj 2), none, none, none, none, none, none, none, none, none] w = some (.ok (intsFrom 0 m), w) := by
  refine ⟨(3 + (if (ns.length : Int) < 6 then (ns.length : Int) else 6)).toNat, by split <;> omega, ?_⟩
  have h62 : in62 (3 + (if (ns.length : Int) < 6 then (ns.length : Int) else 6)) = true := by
    unfold in62
    rw [decide_eq_true_eq]
    split <;> omega
  have e : mBin (mC (.int 3)) (mBin (mC (.int 6)) (mUn (mV 0) gLen) gMin) gAdd [some (.scr ns), some (.obj 2), none, none, none, none, none, none, none, none, none] w = some (.ok (.dat (.int (3 + (if (ns.length : Int) < 6 then (ns.length : Int) else 6)))), w) := by
    simp [mBind, mBin, mC, mUn, mV, mPure, gI, gLen, toD, lenD, gMin]
  refine (mBind_of e).trans ?_
  show (if in62 (3 + (if (ns.length : Int) < 6 then (ns.length : Int) else 6)) then _ else none) = _
  rw [if_pos h62]
def InvL (ns cs : List Int) (i : Nat) (ρ : Env) (w : Sto) : Prop := ∃ (x2 x3 x4 x5 x6 x7 x8 x9 x10 : Option SV) (gs : List Int), ρ = [some (.scr ns), some (.obj 2), x2, x3, x4, x5, x6, x7, x8, x9, x10] ∧ w = [.dead, .dead, .draw cs gs (3 * (i : Int))]
theorem step_ok {c : Cs} (hc : Apart c) (ns cs : List Int) (hl : cs.length = 64) (d : PyData) (i : Nat) (ρ : Env) (w : Sto) (hi : i < 9) (hI : InvL ns cs i ρ w) : Ok (mBind (mSet 2 d ρ) (blaw2 c)) w (fun o w' => ∃ ρ', o = .nx ρ' ∧ InvL ns cs (i + 1) ρ' w') := by
  obtain ⟨x2, x3, x4, x5, x6, x7, x8, x9, x10, gs, rfl, rfl⟩ := hI
  obtain ⟨y2, y3, y4, y5, y6, y7, y8, y9, y10, gs', e⟩ := turn2 hc (some (.scr ns)) (some (.dat d)) x3 x4 x5 x6 x7 x8 x9 x10 cs gs (3 * (i : Int)) hl (by omega) (by omega)
  have es : mSet 2 d [some (.scr ns), some (.obj 2), x2, x3, x4, x5, x6, x7, x8, x9, x10] = mPure [some (.scr ns), some (.obj 2), some (.dat d), x3, x4, x5, x6, x7, x8, x9, x10] := by unfold mSet; simp
  have e3 : 3 * (i : Int) + 3 = 3 * ((i + 1 : Nat) : Int) := by omega
  rw [es]
  exact ⟨_, _, e, _, rfl, y2, y3, y4, y5, y6, y7, y8, y9, y10, gs', rfl, by rw [e3]⟩
theorem law_ok {c : Cs} (hc : Apart c) (ns : List Int) (hz : ns.length ≤ 63) : ∃ w', glaw c [.scr ns] [] = some (.ok (.dat (.bool true)), w') := by
  obtain ⟨cs, hl, hb⟩ := begun_ok ns hz
  have e1 : mCall g_law_begun (mCons (mV 0) mNil) [some (.scr ns), none, none, none, none, none, none, none, none, none, none] [] = some (.ok (.obj 2), [.dead, .dead, .draw cs (greats ns) 0]) := by
    simp [mBind, mPure, mV, mCons, mNil, mCall, hb]
  obtain ⟨m, hm, hm2⟩ := range_ok ns hz [.dead, .dead, .draw cs (greats ns) 0]
  have i0 : InvL ns cs 0 [some (.scr ns), some (.obj 2), none, none, none, none, none, none, none, none, none] [.dead, .dead, .draw cs (greats ns) 0] := ⟨none, none, none, none, none, none, none, none, none, greats ns, rfl, by simp⟩
  have l1 := Ok.forN (set := mSet 2) (body := blaw2 c) 9 (InvL ns cs) (ds := intsFrom 0 m) (i := 0) (by simpa [intsFrom] using hm) i0 fun d hd i ρ w hi hI => step_ok hc ns cs hl d i ρ w hi hI
  obtain ⟨o, w1, f1, i, ρ1, rfl, x2, x3, x4, x5, x6, x7, x8, x9, x10, gs, rfl, rfl⟩ := l1
  have e2 : mlaw c [some (.scr ns), none, none, none, none, none, none, none, none, none, none] [] = some (.ok (.rt (.dat (.bool true))), [.dead, .dead, .draw cs gs (3 * (i : Int))]) := by
    unfold mlaw
    refine (mSeq_nx (mAsg_of e1)).trans ?_
    have e4 : mFor (mRange1 (mBin (mC (.int 3)) (mBin (mC (.int 6)) (mUn (mV 0) gLen) gMin) gAdd)) (mSet 2) (blaw2 c) [some (.scr ns), some (.obj 2), none, none, none, none, none, none, none, none, none] [.dead, .dead, .draw cs (greats ns) 0] = some (.ok (.nx [some (.scr ns), some (.obj 2), x2, x3, x4, x5, x6, x7, x8, x9, x10]), [.dead, .dead, .draw cs gs (3 * (i : Int))]) := (mFor_of hm2).trans f1
    refine (mSeq_nx e4).trans ?_
    simp [mRet, mBind, mC, mPure, fzR]
  refine ⟨[], ?_⟩
  have e5 : glaw c [.scr ns] [] = endO 0 (mlaw c [some (.scr ns), none, none, none, none, none, none, none, none, none, none] []) := by
    unfold glaw mDef startE
    simp
  rw [e5, e2]
  simp [endO]
end K80
end EG


set_option Elab.async false
set_option linter.all false
set_option maxRecDepth 100000
set_option maxHeartbeats 4000000
namespace EG
section
open PySem PySem.Spec PyProof.Rows L2
theorem law_end2 {l : PySem.W.OpenLaw} {n k : Nat} {q : PySem.Program} {loose : List PySem.Str} {XP : (PySem.Str → Option PySem.Value) → PySem.Heap → Prop} {YP : PySem.World → PySem.Heap → Prop} {d : DefRec} {K : PySem.Params → PySem.W.Frag} {x : PySem.Str}
    (most : l.most = some n) (fits : n ≤ PySem.sizeLine) (plain : d.params.defaults = []) (room : L2.Room k PySem.callerA) (hY : ∀ (w : PySem.World) (h : PySem.Heap), YP w h → (K w.params).In h)
    (F : ∀ (w : PySem.World) (mg : PySem.Str → Option PySem.Value) (fa : PySem.Addr) (h : PySem.Heap), (K w.params).In h → h.Ns PySem.mainGlobals mg → mg d.name = some (.ref fa) →
      ∃ (fd : PySem.FuncData) (g : Fn), (∀ (s : PySem.Shared) (u : PySem.Value), BindsTo s fd ⟨[u], []⟩ [(x, u)]) ∧ (∀ base : PySem.Heap, (K w.params).In base → base.Ns PySem.mainGlobals mg → FnG l.prog w (K w.params) mg base k fa fd [x] (spD 1 (K w.params) EA0 g)) ∧
        ∀ ns : List Int, ns.length ≤ n → ∃ w', g [.scr ns] [] = some (.ok (.dat (.bool true)), w')) :
    PySem.W.WalkO q loose XP YP l.row.toRowW d [] (fun f vs => PySem.call f vs) := by
  refine Att.attach_call most plain fun w s0 s mg mb fa o pm cd doc a vs ns G Y ho hd hcd hmg hobj hints hlen hg => ?_
  obtain ⟨fd, g, b, f, ans⟩ := F w mg fa _ (hY w _ Y) G.T.g hmg
  exact law_from (hY w _ Y) G.T.g G.T.b G.T.builtins G.T.nolimit hg hobj hints (Nat.le_trans hlen fits) room f b (ans ns hlen)
end
namespace K80
open PySem PySem.Spec PyProof.Rows L2
def initOf (i : Nat) : Stmt := match topS i with
  | .ClassDef _ _ _ body _ _ _ _ _ _ _ => body.getD 0 (.Pass ⟨0, 0, 0, 0⟩)
  | s => s
section
variable {P : Program} {w : World} {K : PySem.W.Frag} {mg : Str → Option Value} {base : Heap} {f C CW : Addr} {fd : FuncData}
structure WishF (K : PySem.W.Frag) (mg : Str → Option Value) (CW : Addr) : Prop where
  hm : mg "WishError" = some (.ref CW)
  rd : PySem.W.readsIn K CW (.type "type") = true
  ga : PySem.W.specialIn K (.ref CW) "__getattribute__" = some (some (.builtin "type.__getattribute__"))
  fi : PySem.W.findCls K (.ref CW) (.type "type") "__init__" = some (.val (.builtin "ValueError.__init__"))
structure GreatF (K : PySem.W.Frag) (mg : Str → Option Value) : Prop where
  hm : mg "OverflowError" = none
  fi : PySem.W.findCls K (.type "OverflowError") (.type "type") "__init__" = some (.val (.builtin "OverflowError.__init__"))

theorem scIBadRow : FnScope ["self", "number"] ["self", "number"] (defScope (initOf 8)) := ⟨rfl, rfl, rfl, by decide +kernel, rfl, by decide +kernel, by decide +kernel⟩
theorem iBadRow (T : EC K C "ValueError" "ValueError.__new__" "ValueError.__init__" [.type "ValueError", .type "Exception", .type "BaseException", .type "object"]) (ht0 : PySem.W.takerIn K C "number" = some none) (W : WishF K mg CW) (F : Fun K "__init__" "BadRow.__init__" (initOf 8) f fd) : FnG P w K mg base 1 f fd ["self", "number"] (spIni C ["number"]) :=
  ini1 T ht0 (by decide +kernel) F scIBadRow rfl (fun cdv A outer s H E => ps_expr (pe_gin (MI.own CW W.hm W.rd W.ga W.fi) (by decide +kernel) rfl (pa_cons (pv 0) (pa_cons pe_str pa_nil)))) (fun cdv A outer s H E => ps_gst (pv 0) (pv 1))
theorem scIBadMenu : FnScope ["self", "number"] ["self", "number"] (defScope (initOf 9)) := ⟨rfl, rfl, rfl, by decide +kernel, rfl, by decide +kernel, by decide +kernel⟩
theorem iBadMenu (T : EC K C "ValueError" "ValueError.__new__" "ValueError.__init__" [.type "ValueError", .type "Exception", .type "BaseException", .type "object"]) (ht0 : PySem.W.takerIn K C "number" = some none) (W : WishF K mg CW) (F : Fun K "__init__" "BadMenu.__init__" (initOf 9) f fd) : FnG P w K mg base 1 f fd ["self", "number"] (spIni C ["number"]) :=
  ini1 T ht0 (by decide +kernel) F scIBadMenu rfl (fun cdv A outer s H E => ps_expr (pe_gin (MI.own CW W.hm W.rd W.ga W.fi) (by decide +kernel) rfl (pa_cons (pv 0) (pa_cons pe_str pa_nil)))) (fun cdv A outer s H E => ps_gst (pv 0) (pv 1))
theorem scIBadLog : FnScope ["self", "place"] ["self", "place"] (defScope (initOf 10)) := ⟨rfl, rfl, rfl, by decide +kernel, rfl, by decide +kernel, by decide +kernel⟩
theorem iBadLog (T : EC K C "ValueError" "ValueError.__new__" "ValueError.__init__" [.type "ValueError", .type "Exception", .type "BaseException", .type "object"]) (ht0 : PySem.W.takerIn K C "place" = some none) (W : WishF K mg CW) (F : Fun K "__init__" "BadLog.__init__" (initOf 10) f fd) : FnG P w K mg base 1 f fd ["self", "place"] (spIni C ["place"]) :=
  ini1 T ht0 (by decide +kernel) F scIBadLog rfl (fun cdv A outer s H E => ps_expr (pe_gin (MI.own CW W.hm W.rd W.ga W.fi) (by decide +kernel) rfl (pa_cons (pv 0) (pa_cons pe_str pa_nil)))) (fun cdv A outer s H E => ps_gst (pv 0) (pv 1))
theorem scIBadText : FnScope ["self", "line", "word"] ["self", "line", "word"] (defScope (initOf 11)) := ⟨rfl, rfl, rfl, by decide +kernel, rfl, by decide +kernel, by decide +kernel⟩
theorem iBadText (T : EC K C "ValueError" "ValueError.__new__" "ValueError.__init__" [.type "ValueError", .type "Exception", .type "BaseException", .type "object"]) (ht0 : PySem.W.takerIn K C "line" = some none) (ht1 : PySem.W.takerIn K C "word" = some none) (W : WishF K mg CW) (F : Fun K "__init__" "BadText.__init__" (initOf 11) f fd) : FnG P w K mg base 1 f fd ["self", "line", "word"] (spIni C ["line", "word"]) :=
  ini2 T ht0 ht1 (by decide +kernel) F scIBadText rfl (fun cdv A outer s H E => ps_expr (pe_gin (MI.own CW W.hm W.rd W.ga W.fi) (by decide +kernel) rfl (pa_cons (pv 0) (pa_cons pe_str pa_nil)))) (fun cdv A outer s H E => ps_gst (pv 0) (pv 1)) (fun cdv A outer s H E => ps_gst (pv 0) (pv 2))
theorem scITooGreat : FnScope ["self", "most"] ["self", "most"] (defScope (initOf 12)) := ⟨rfl, rfl, rfl, by decide +kernel, rfl, by decide +kernel, by decide +kernel⟩
theorem iTooGreat (T : EC K C "OverflowError" "OverflowError.__new__" "OverflowError.__init__" [.type "OverflowError", .type "ArithmeticError", .type "Exception", .type "BaseException", .type "object"]) (ht0 : PySem.W.takerIn K C "most" = some none) (W : GreatF K mg) (F : Fun K "__init__" "TooGreat.__init__" (initOf 12) f fd) : FnG P w K mg base 1 f fd ["self", "most"] (spIni C ["most"]) :=
  ini1 T ht0 (by decide +kernel) F scITooGreat rfl (fun cdv A outer s H E => ps_expr (pe_gin (MI.blt "OverflowError" W.hm (by decide +kernel) (by decide) (by kernel_rfl) (by decide +kernel) W.fi) (by decide +kernel) rfl (pa_cons (pv 0) (pa_cons pe_str pa_nil)))) (fun cdv A outer s H E => ps_gst (pv 0) (pv 1))
end
theorem cls_some {K : PySem.W.Frag} {C : Addr} (h : PySem.W.hasDictIn K C = true) : (PySem.W.clsIn K C).isSome = true := by
  obtain ⟨cd, e, _⟩ := PySem.W.any_some h
  rw [e]
  rfl
theorem tab_all {K : PySem.W.Frag} {u : Value} {r m l t g : Addr} {b1 b2 b3 b4 b5 : Bool} (h1 : ExK K r) (k1 : PySem.W.kitOne K (.ref r) u = some b1) (h2 : ExK K m) (k2 : PySem.W.kitOne K (.ref m) u = some b2) (h3 : ExK K l) (k3 : PySem.W.kitOne K (.ref l) u = some b3) (h4 : ExK K t) (k4 : PySem.W.kitOne K (.ref t) u = some b4) (h5 : ExK K g) (k5 : PySem.W.kitOne K (.ref g) u = some b5) :
    ∀ p ∈ tab5 ⟨r, m, l, t, g⟩ b1 b2 b3 b4 b5, ExK K p.1 ∧ PySem.W.kitOne K (.ref p.1) u = some p.2 := fun p hp => by
  have hp : p = (r, b1) ∨ p = (m, b2) ∨ p = (l, b3) ∨ p = (t, b4) ∨ p = (g, b5) := by simpa [tab5] using hp
  rcases hp with rfl | rfl | rfl | rfl | rfl
  · exact ⟨h1, k1⟩
  · exact ⟨h2, k2⟩
  · exact ⟨h3, k3⟩
  · exact ⟨h4, k4⟩
  · exact ⟨h5, k5⟩
theorem kwB1 {fd : FuncData} {a : Str} (h : ∀ (s : Shared) (u x : Value), BindsTo s fd ⟨[u], [(a, x)]⟩ [(("self" : Str), u), (a, x)]) : ∀ (r : Bool) (ks : List Str), turn r ks = [a] → ∀ (s : Shared) (u : Value) (ws : List Value), ws.length = ks.length → BindsTo s fd ⟨[u], ks.zip ws⟩ ([("self" : Str), a].zip (u :: turn r ws)) := fun r ks e s u ws hl => by
  have e2 : ks = [a] := by
    cases r
    · exact e
    · have := congrArg List.reverse e
      simpa [turn] using this
  subst e2
  match ws, hl with
  | [x], _ => cases r <;> exact h s u x
theorem kwB2 {fd : FuncData} {a b : Str} (h : ∀ (s : Shared) (u x y : Value), BindsTo s fd ⟨[u], [(a, x), (b, y)]⟩ [(("self" : Str), u), (a, x), (b, y)]) (h' : ∀ (s : Shared) (u x y : Value), BindsTo s fd ⟨[u], [(b, x), (a, y)]⟩ [(("self" : Str), u), (a, y), (b, x)]) : ∀ (r : Bool) (ks : List Str), turn r ks = [a, b] → ∀ (s : Shared) (u : Value) (ws : List Value), ws.length = ks.length → BindsTo s fd ⟨[u], ks.zip ws⟩ ([("self" : Str), a, b].zip (u :: turn r ws)) := fun r ks e s u ws hl => by
  cases r
  · have e2 : ks = [a, b] := e
    subst e2
    match ws, hl with
    | [x, y], _ => exact h s u x y
  · have e2 : ks = [b, a] := by
      have := congrArg List.reverse e
      simpa [turn] using this
    subst e2
    match ws, hl with
    | [x, y], _ => exact h' s u x y
theorem all_mk {P : Program} {w : World} {K : PySem.W.Frag} {h : Heap} {mg : Str → Option Value} {fa : Addr} (X : K.In h) (G : h.Ns mainGlobals mg) (hfa : mg "law" = some (.ref fa)) {cBadMachine cBadWish cBadPath cBadRun cBadNumber cBadPaper cBadRow cBadMenu cBadLog cBadText cWishError cTooGreat flawmixed flawfolded flawdraw flawbegun flawlike flawclasses flaw fBadRow fBadMenu fBadLog fBadText fTooGreat : Addr} {odlawmixed anlawmixed odlawfolded anlawfolded odlawdraw anlawdraw odlawbegun anlawbegun odlawlike anlawlike odlawclasses anlawclasses odlaw anlaw odBadRow anBadRow odBadMenu anBadMenu odBadLog anBadLog odBadText anBadText odTooGreat anTooGreat : Option Addr} {sllawmixed sllawfolded sllawdraw sllawbegun sllawlike sllawclasses sllaw slBadRow slBadMenu slBadLog slBadText slTooGreat : Array (Option Value)} {oclawmixed kVlawmixed dclawmixed pmlawmixed cdlawmixed ctlawmixed oclawfolded kVlawfolded dclawfolded pmlawfolded cdlawfolded ctlawfolded oclawdraw kVlawdraw dclawdraw pmlawdraw cdlawdraw ctlawdraw oclawbegun kVlawbegun dclawbegun pmlawbegun cdlawbegun ctlawbegun oclawlike kVlawlike dclawlike pmlawlike cdlawlike ctlawlike oclawclasses kVlawclasses dclawclasses pmlawclasses cdlawclasses ctlawclasses oclaw kVlaw dclaw pmlaw cdlaw ctlaw ocBadRow kVBadRow dcBadRow pmBadRow cdBadRow ctBadRow ocBadMenu kVBadMenu dcBadMenu pmBadMenu cdBadMenu ctBadMenu ocBadLog kVBadLog dcBadLog pmBadLog cdBadLog ctBadLog ocBadText kVBadText dcBadText pmBadText cdBadText ctBadText ocTooGreat kVTooGreat dcTooGreat pmTooGreat cdTooGreat ctTooGreat : Value}
    (aBadMachine : PySem.W.nsIn K mainGlobals "BadMachine" = some (some (.ref cBadMachine))) (aBadWish : PySem.W.nsIn K mainGlobals "BadWish" = some (some (.ref cBadWish))) (aBadPath : PySem.W.nsIn K mainGlobals "BadPath" = some (some (.ref cBadPath))) (aBadRun : PySem.W.nsIn K mainGlobals "BadRun" = some (some (.ref cBadRun))) (aBadNumber : PySem.W.nsIn K mainGlobals "BadNumber" = some (some (.ref cBadNumber))) (aBadPaper : PySem.W.nsIn K mainGlobals "BadPaper" = some (some (.ref cBadPaper))) (aBadRow : PySem.W.nsIn K mainGlobals "BadRow" = some (some (.ref cBadRow))) (aBadMenu : PySem.W.nsIn K mainGlobals "BadMenu" = some (some (.ref cBadMenu))) (aBadLog : PySem.W.nsIn K mainGlobals "BadLog" = some (some (.ref cBadLog))) (aBadText : PySem.W.nsIn K mainGlobals "BadText" = some (some (.ref cBadText))) (aWishError : PySem.W.nsIn K mainGlobals "WishError" = some (some (.ref cWishError))) (aTooGreat : PySem.W.nsIn K mainGlobals "TooGreat" = some (some (.ref cTooGreat))) (alawmixed : PySem.W.nsIn K mainGlobals "_law_mixed" = some (some (.ref flawmixed))) (llawmixed : K.lookup flawmixed = some ⟨oclawmixed, odlawmixed, .func (PySem.W.fnOf "_law_mixed" "_law_mixed" (defArgs s_law_mixed) (defBody s_law_mixed) (defScope s_law_mixed) .none kVlawmixed dclawmixed pmlawmixed anlawmixed cdlawmixed ctlawmixed), sllawmixed⟩) (clawmixed : PySem.W.codeIn K cdlawmixed "_law_mixed" = true) (klawmixed : PySem.W.keepIn K (.ref flawmixed) = true) (alawfolded : PySem.W.nsIn K mainGlobals "_law_folded" = some (some (.ref flawfolded))) (llawfolded : K.lookup flawfolded = some ⟨oclawfolded, odlawfolded, .func (PySem.W.fnOf "_law_folded" "_law_folded" (defArgs s_law_folded) (defBody s_law_folded) (defScope s_law_folded) .none kVlawfolded dclawfolded pmlawfolded anlawfolded cdlawfolded ctlawfolded), sllawfolded⟩) (clawfolded : PySem.W.codeIn K cdlawfolded "_law_folded" = true) (klawfolded : PySem.W.keepIn K (.ref flawfolded) = true) (alawdraw : PySem.W.nsIn K mainGlobals "_law_draw" = some (some (.ref flawdraw))) (llawdraw : K.lookup flawdraw = some ⟨oclawdraw, odlawdraw, .func (PySem.W.fnOf "_law_draw" "_law_draw" (defArgs s_law_draw) (defBody s_law_draw) (defScope s_law_draw) .none kVlawdraw dclawdraw pmlawdraw anlawdraw cdlawdraw ctlawdraw), sllawdraw⟩) (clawdraw : PySem.W.codeIn K cdlawdraw "_law_draw" = true) (klawdraw : PySem.W.keepIn K (.ref flawdraw) = true) (alawbegun : PySem.W.nsIn K mainGlobals "_law_begun" = some (some (.ref flawbegun))) (llawbegun : K.lookup flawbegun = some ⟨oclawbegun, odlawbegun, .func (PySem.W.fnOf "_law_begun" "_law_begun" (defArgs s_law_begun) (defBody s_law_begun) (defScope s_law_begun) .none kVlawbegun dclawbegun pmlawbegun anlawbegun cdlawbegun ctlawbegun), sllawbegun⟩) (clawbegun : PySem.W.codeIn K cdlawbegun "_law_begun" = true) (klawbegun : PySem.W.keepIn K (.ref flawbegun) = true) (alawlike : PySem.W.nsIn K mainGlobals "_law_like" = some (some (.ref flawlike))) (llawlike : K.lookup flawlike = some ⟨oclawlike, odlawlike, .func (PySem.W.fnOf "_law_like" "_law_like" (defArgs s_law_like) (defBody s_law_like) (defScope s_law_like) .none kVlawlike dclawlike pmlawlike anlawlike cdlawlike ctlawlike), sllawlike⟩) (clawlike : PySem.W.codeIn K cdlawlike "_law_like" = true) (klawlike : PySem.W.keepIn K (.ref flawlike) = true) (alawclasses : PySem.W.nsIn K mainGlobals "_law_classes" = some (some (.ref flawclasses))) (llawclasses : K.lookup flawclasses = some ⟨oclawclasses, odlawclasses, .func (PySem.W.fnOf "_law_classes" "_law_classes" (defArgs s_law_classes) (defBody s_law_classes) (defScope s_law_classes) .none kVlawclasses dclawclasses pmlawclasses anlawclasses cdlawclasses ctlawclasses), sllawclasses⟩) (clawclasses : PySem.W.codeIn K cdlawclasses "_law_classes" = true) (klawclasses : PySem.W.keepIn K (.ref flawclasses) = true) (alaw : PySem.W.nsIn K mainGlobals "law" = some (some (.ref flaw))) (llaw : K.lookup flaw = some ⟨oclaw, odlaw, .func (PySem.W.fnOf "law" "law" (defArgs slaw) (defBody slaw) (defScope slaw) .none kVlaw dclaw pmlaw anlaw cdlaw ctlaw), sllaw⟩) (claw : PySem.W.codeIn K cdlaw "law" = true) (klaw : PySem.W.keepIn K (.ref flaw) = true) (zint : PySem.W.nsIn K mainGlobals "int" = some none) (zlen : PySem.W.nsIn K mainGlobals "len" = some none) (zrange : PySem.W.nsIn K mainGlobals "range" = some none) (zenumerate : PySem.W.nsIn K mainGlobals "enumerate" = some none) (zrepr : PySem.W.nsIn K mainGlobals "repr" = some none) (zmin : PySem.W.nsIn K mainGlobals "min" = some none) (zisinstance : PySem.W.nsIn K mainGlobals "isinstance" = some none) (zValueError : PySem.W.nsIn K mainGlobals "ValueError" = some none) (zOverflowError : PySem.W.nsIn K mainGlobals "OverflowError" = some none) (wrd : PySem.W.readsIn K cWishError (.type "type") = true) (wga : PySem.W.specialIn K (.ref cWishError) "__getattribute__" = some (some (.builtin "type.__getattribute__"))) (wfi : PySem.W.findCls K (.ref cWishError) (.type "type") "__init__" = some (.val (.builtin "ValueError.__init__"))) (gfi : PySem.W.findCls K (.type "OverflowError") (.type "type") "__init__" = some (.val (.builtin "OverflowError.__init__"))) (xcg : PySem.W.specialIn K (.builtin "object.__class__") "__get__" = some (some (.builtin "getset_descriptor.__get__"))) (xct : PySem.W.takesIn K (.builtin "object.__class__") = some true) (qBadRow : PySem.W.excInitIn K cBadRow [.type "ValueError", .type "Exception", .type "BaseException", .type "object"] "ValueError.__new__" = true) (oBadRow : PySem.W.excOver K cBadRow [.type "ValueError", .type "Exception", .type "BaseException", .type "object"] = true) (hBadRow : PySem.W.hasDictIn K cBadRow = true) (sBadRow : PySem.W.findIn K (.ref cBadRow) "__setattr__" = some (some (.builtin "object.__setattr__"))) (kcBadRow : PySem.W.keepIn K (.ref cBadRow) = true) (iiBadRow : PySem.W.findIn K (.ref cBadRow) "__init__" = some (some (.ref fBadRow))) (tiBadRow : PySem.W.typeIn K (.ref fBadRow) = some (.type "function")) (lBadRow : K.lookup fBadRow = some ⟨ocBadRow, odBadRow, .func (PySem.W.fnOf "__init__" "BadRow.__init__" (defArgs (initOf 8)) (defBody (initOf 8)) (defScope (initOf 8)) .none kVBadRow dcBadRow pmBadRow anBadRow cdBadRow ctBadRow), slBadRow⟩) (ciBadRow : PySem.W.codeIn K cdBadRow "BadRow.__init__" = true) (kiBadRow : PySem.W.keepIn K (.ref fBadRow) = true) (tBadRownumber : PySem.W.takerIn K cBadRow "number" = some none) (nBadRownumber : PySem.W.findIn K (.ref cBadRow) "number" = some none) (x2BadRow : PySem.W.findIn K (.ref cBadRow) "__getattribute__" = some (some (.builtin "BaseException.__getattribute__"))) (x3BadRow : PySem.W.findIn K (.ref cBadRow) "__getattr__" = some none) (x4BadRow : PySem.W.subIn K (.ref cBadRow) (.type "BaseException") = some true) (x5BadRow : PySem.W.findIn K (.ref cBadRow) "__class__" = some (some (.builtin "object.__class__"))) (x6BadRow : PySem.W.mroIn K cBadRow (.type "object") = some true) (yBadRowBadMachine : PySem.W.kitOne K (.ref cBadRow) (.ref cBadMachine) = some false) (yBadRowBadWish : PySem.W.kitOne K (.ref cBadRow) (.ref cBadWish) = some false) (yBadRowBadPath : PySem.W.kitOne K (.ref cBadRow) (.ref cBadPath) = some false) (yBadRowBadRun : PySem.W.kitOne K (.ref cBadRow) (.ref cBadRun) = some false) (yBadRowBadNumber : PySem.W.kitOne K (.ref cBadRow) (.ref cBadNumber) = some false) (yBadRowBadPaper : PySem.W.kitOne K (.ref cBadRow) (.ref cBadPaper) = some false) (yBadRowBadMenu : PySem.W.kitOne K (.ref cBadRow) (.ref cBadMenu) = some false) (yBadRowBadLog : PySem.W.kitOne K (.ref cBadRow) (.ref cBadLog) = some false) (yBadRowBadText : PySem.W.kitOne K (.ref cBadRow) (.ref cBadText) = some false) (yBadRowWishError : PySem.W.kitOne K (.ref cBadRow) (.ref cWishError) = some true) (yBadRowValueError : PySem.W.kitOne K (.ref cBadRow) (.type "ValueError") = some true) (yBadRowTooGreat : PySem.W.kitOne K (.ref cBadRow) (.ref cTooGreat) = some false) (qBadMenu : PySem.W.excInitIn K cBadMenu [.type "ValueError", .type "Exception", .type "BaseException", .type "object"] "ValueError.__new__" = true) (oBadMenu : PySem.W.excOver K cBadMenu [.type "ValueError", .type "Exception", .type "BaseException", .type "object"] = true) (hBadMenu : PySem.W.hasDictIn K cBadMenu = true) (sBadMenu : PySem.W.findIn K (.ref cBadMenu) "__setattr__" = some (some (.builtin "object.__setattr__"))) (kcBadMenu : PySem.W.keepIn K (.ref cBadMenu) = true) (iiBadMenu : PySem.W.findIn K (.ref cBadMenu) "__init__" = some (some (.ref fBadMenu))) (tiBadMenu : PySem.W.typeIn K (.ref fBadMenu) = some (.type "function")) (lBadMenu : K.lookup fBadMenu = some ⟨ocBadMenu, odBadMenu, .func (PySem.W.fnOf "__init__" "BadMenu.__init__" (defArgs (initOf 9)) (defBody (initOf 9)) (defScope (initOf 9)) .none kVBadMenu dcBadMenu pmBadMenu anBadMenu cdBadMenu ctBadMenu), slBadMenu⟩) (ciBadMenu : PySem.W.codeIn K cdBadMenu "BadMenu.__init__" = true) (kiBadMenu : PySem.W.keepIn K (.ref fBadMenu) = true) (tBadMenunumber : PySem.W.takerIn K cBadMenu "number" = some none) (nBadMenunumber : PySem.W.findIn K (.ref cBadMenu) "number" = some none) (x2BadMenu : PySem.W.findIn K (.ref cBadMenu) "__getattribute__" = some (some (.builtin "BaseException.__getattribute__"))) (x3BadMenu : PySem.W.findIn K (.ref cBadMenu) "__getattr__" = some none) (x4BadMenu : PySem.W.subIn K (.ref cBadMenu) (.type "BaseException") = some true) (x5BadMenu : PySem.W.findIn K (.ref cBadMenu) "__class__" = some (some (.builtin "object.__class__"))) (x6BadMenu : PySem.W.mroIn K cBadMenu (.type "object") = some true) (yBadMenuBadMachine : PySem.W.kitOne K (.ref cBadMenu) (.ref cBadMachine) = some false) (yBadMenuBadWish : PySem.W.kitOne K (.ref cBadMenu) (.ref cBadWish) = some false) (yBadMenuBadPath : PySem.W.kitOne K (.ref cBadMenu) (.ref cBadPath) = some false) (yBadMenuBadRun : PySem.W.kitOne K (.ref cBadMenu) (.ref cBadRun) = some false) (yBadMenuBadNumber : PySem.W.kitOne K (.ref cBadMenu) (.ref cBadNumber) = some false) (yBadMenuBadPaper : PySem.W.kitOne K (.ref cBadMenu) (.ref cBadPaper) = some false) (yBadMenuBadRow : PySem.W.kitOne K (.ref cBadMenu) (.ref cBadRow) = some false) (yBadMenuBadLog : PySem.W.kitOne K (.ref cBadMenu) (.ref cBadLog) = some false) (yBadMenuBadText : PySem.W.kitOne K (.ref cBadMenu) (.ref cBadText) = some false) (yBadMenuWishError : PySem.W.kitOne K (.ref cBadMenu) (.ref cWishError) = some true) (yBadMenuValueError : PySem.W.kitOne K (.ref cBadMenu) (.type "ValueError") = some true) (yBadMenuTooGreat : PySem.W.kitOne K (.ref cBadMenu) (.ref cTooGreat) = some false) (qBadLog : PySem.W.excInitIn K cBadLog [.type "ValueError", .type "Exception", .type "BaseException", .type "object"] "ValueError.__new__" = true) (oBadLog : PySem.W.excOver K cBadLog [.type "ValueError", .type "Exception", .type "BaseException", .type "object"] = true) (hBadLog : PySem.W.hasDictIn K cBadLog = true) (sBadLog : PySem.W.findIn K (.ref cBadLog) "__setattr__" = some (some (.builtin "object.__setattr__"))) (kcBadLog : PySem.W.keepIn K (.ref cBadLog) = true) (iiBadLog : PySem.W.findIn K (.ref cBadLog) "__init__" = some (some (.ref fBadLog))) (tiBadLog : PySem.W.typeIn K (.ref fBadLog) = some (.type "function")) (lBadLog : K.lookup fBadLog = some ⟨ocBadLog, odBadLog, .func (PySem.W.fnOf "__init__" "BadLog.__init__" (defArgs (initOf 10)) (defBody (initOf 10)) (defScope (initOf 10)) .none kVBadLog dcBadLog pmBadLog anBadLog cdBadLog ctBadLog), slBadLog⟩) (ciBadLog : PySem.W.codeIn K cdBadLog "BadLog.__init__" = true) (kiBadLog : PySem.W.keepIn K (.ref fBadLog) = true) (tBadLogplace : PySem.W.takerIn K cBadLog "place" = some none) (nBadLogplace : PySem.W.findIn K (.ref cBadLog) "place" = some none) (x2BadLog : PySem.W.findIn K (.ref cBadLog) "__getattribute__" = some (some (.builtin "BaseException.__getattribute__"))) (x3BadLog : PySem.W.findIn K (.ref cBadLog) "__getattr__" = some none) (x4BadLog : PySem.W.subIn K (.ref cBadLog) (.type "BaseException") = some true) (x5BadLog : PySem.W.findIn K (.ref cBadLog) "__class__" = some (some (.builtin "object.__class__"))) (x6BadLog : PySem.W.mroIn K cBadLog (.type "object") = some true) (yBadLogBadMachine : PySem.W.kitOne K (.ref cBadLog) (.ref cBadMachine) = some false) (yBadLogBadWish : PySem.W.kitOne K (.ref cBadLog) (.ref cBadWish) = some false) (yBadLogBadPath : PySem.W.kitOne K (.ref cBadLog) (.ref cBadPath) = some false) (yBadLogBadRun : PySem.W.kitOne K (.ref cBadLog) (.ref cBadRun) = some false) (yBadLogBadNumber : PySem.W.kitOne K (.ref cBadLog) (.ref cBadNumber) = some false) (yBadLogBadPaper : PySem.W.kitOne K (.ref cBadLog) (.ref cBadPaper) = some false) (yBadLogBadRow : PySem.W.kitOne K (.ref cBadLog) (.ref cBadRow) = some false) (yBadLogBadMenu : PySem.W.kitOne K (.ref cBadLog) (.ref cBadMenu) = some false) (yBadLogBadText : PySem.W.kitOne K (.ref cBadLog) (.ref cBadText) = some false) (yBadLogWishError : PySem.W.kitOne K (.ref cBadLog) (.ref cWishError) = some true) (yBadLogValueError : PySem.W.kitOne K (.ref cBadLog) (.type "ValueError") = some true) (yBadLogTooGreat : PySem.W.kitOne K (.ref cBadLog) (.ref cTooGreat) = some false) (qBadText : PySem.W.excInitIn K cBadText [.type "ValueError", .type "Exception", .type "BaseException", .type "object"] "ValueError.__new__" = true) (oBadText : PySem.W.excOver K cBadText [.type "ValueError", .type "Exception", .type "BaseException", .type "object"] = true) (hBadText : PySem.W.hasDictIn K cBadText = true) (sBadText : PySem.W.findIn K (.ref cBadText) "__setattr__" = some (some (.builtin "object.__setattr__"))) (kcBadText : PySem.W.keepIn K (.ref cBadText) = true) (iiBadText : PySem.W.findIn K (.ref cBadText) "__init__" = some (some (.ref fBadText))) (tiBadText : PySem.W.typeIn K (.ref fBadText) = some (.type "function")) (lBadText : K.lookup fBadText = some ⟨ocBadText, odBadText, .func (PySem.W.fnOf "__init__" "BadText.__init__" (defArgs (initOf 11)) (defBody (initOf 11)) (defScope (initOf 11)) .none kVBadText dcBadText pmBadText anBadText cdBadText ctBadText), slBadText⟩) (ciBadText : PySem.W.codeIn K cdBadText "BadText.__init__" = true) (kiBadText : PySem.W.keepIn K (.ref fBadText) = true) (tBadTextline : PySem.W.takerIn K cBadText "line" = some none) (nBadTextline : PySem.W.findIn K (.ref cBadText) "line" = some none) (tBadTextword : PySem.W.takerIn K cBadText "word" = some none) (nBadTextword : PySem.W.findIn K (.ref cBadText) "word" = some none) (x2BadText : PySem.W.findIn K (.ref cBadText) "__getattribute__" = some (some (.builtin "BaseException.__getattribute__"))) (x3BadText : PySem.W.findIn K (.ref cBadText) "__getattr__" = some none) (x4BadText : PySem.W.subIn K (.ref cBadText) (.type "BaseException") = some true) (x5BadText : PySem.W.findIn K (.ref cBadText) "__class__" = some (some (.builtin "object.__class__"))) (x6BadText : PySem.W.mroIn K cBadText (.type "object") = some true) (yBadTextBadMachine : PySem.W.kitOne K (.ref cBadText) (.ref cBadMachine) = some false) (yBadTextBadWish : PySem.W.kitOne K (.ref cBadText) (.ref cBadWish) = some false) (yBadTextBadPath : PySem.W.kitOne K (.ref cBadText) (.ref cBadPath) = some false) (yBadTextBadRun : PySem.W.kitOne K (.ref cBadText) (.ref cBadRun) = some false) (yBadTextBadNumber : PySem.W.kitOne K (.ref cBadText) (.ref cBadNumber) = some false) (yBadTextBadPaper : PySem.W.kitOne K (.ref cBadText) (.ref cBadPaper) = some false) (yBadTextBadRow : PySem.W.kitOne K (.ref cBadText) (.ref cBadRow) = some false) (yBadTextBadMenu : PySem.W.kitOne K (.ref cBadText) (.ref cBadMenu) = some false) (yBadTextBadLog : PySem.W.kitOne K (.ref cBadText) (.ref cBadLog) = some false) (yBadTextWishError : PySem.W.kitOne K (.ref cBadText) (.ref cWishError) = some true) (yBadTextValueError : PySem.W.kitOne K (.ref cBadText) (.type "ValueError") = some true) (yBadTextTooGreat : PySem.W.kitOne K (.ref cBadText) (.ref cTooGreat) = some false) (qTooGreat : PySem.W.excInitIn K cTooGreat [.type "OverflowError", .type "ArithmeticError", .type "Exception", .type "BaseException", .type "object"] "OverflowError.__new__" = true) (oTooGreat : PySem.W.excOver K cTooGreat [.type "OverflowError", .type "ArithmeticError", .type "Exception", .type "BaseException", .type "object"] = true) (hTooGreat : PySem.W.hasDictIn K cTooGreat = true) (sTooGreat : PySem.W.findIn K (.ref cTooGreat) "__setattr__" = some (some (.builtin "object.__setattr__"))) (kcTooGreat : PySem.W.keepIn K (.ref cTooGreat) = true) (iiTooGreat : PySem.W.findIn K (.ref cTooGreat) "__init__" = some (some (.ref fTooGreat))) (tiTooGreat : PySem.W.typeIn K (.ref fTooGreat) = some (.type "function")) (lTooGreat : K.lookup fTooGreat = some ⟨ocTooGreat, odTooGreat, .func (PySem.W.fnOf "__init__" "TooGreat.__init__" (defArgs (initOf 12)) (defBody (initOf 12)) (defScope (initOf 12)) .none kVTooGreat dcTooGreat pmTooGreat anTooGreat cdTooGreat ctTooGreat), slTooGreat⟩) (ciTooGreat : PySem.W.codeIn K cdTooGreat "TooGreat.__init__" = true) (kiTooGreat : PySem.W.keepIn K (.ref fTooGreat) = true) (tTooGreatmost : PySem.W.takerIn K cTooGreat "most" = some none) (nTooGreatmost : PySem.W.findIn K (.ref cTooGreat) "most" = some none) (x2TooGreat : PySem.W.findIn K (.ref cTooGreat) "__getattribute__" = some (some (.builtin "BaseException.__getattribute__"))) (x3TooGreat : PySem.W.findIn K (.ref cTooGreat) "__getattr__" = some none) (x4TooGreat : PySem.W.subIn K (.ref cTooGreat) (.type "BaseException") = some true) (x5TooGreat : PySem.W.findIn K (.ref cTooGreat) "__class__" = some (some (.builtin "object.__class__"))) (x6TooGreat : PySem.W.mroIn K cTooGreat (.type "object") = some true) (yTooGreatBadMachine : PySem.W.kitOne K (.ref cTooGreat) (.ref cBadMachine) = some false) (yTooGreatBadWish : PySem.W.kitOne K (.ref cTooGreat) (.ref cBadWish) = some false) (yTooGreatBadPath : PySem.W.kitOne K (.ref cTooGreat) (.ref cBadPath) = some false) (yTooGreatBadRun : PySem.W.kitOne K (.ref cTooGreat) (.ref cBadRun) = some false) (yTooGreatBadNumber : PySem.W.kitOne K (.ref cTooGreat) (.ref cBadNumber) = some false) (yTooGreatBadPaper : PySem.W.kitOne K (.ref cTooGreat) (.ref cBadPaper) = some false) (yTooGreatBadRow : PySem.W.kitOne K (.ref cTooGreat) (.ref cBadRow) = some false) (yTooGreatBadMenu : PySem.W.kitOne K (.ref cTooGreat) (.ref cBadMenu) = some false) (yTooGreatBadLog : PySem.W.kitOne K (.ref cTooGreat) (.ref cBadLog) = some false) (yTooGreatBadText : PySem.W.kitOne K (.ref cTooGreat) (.ref cBadText) = some false) (yTooGreatWishError : PySem.W.kitOne K (.ref cTooGreat) (.ref cWishError) = some false) (yTooGreatValueError : PySem.W.kitOne K (.ref cTooGreat) (.type "ValueError") = some false) (apart : Apart ⟨cBadRow, cBadMenu, cBadLog, cBadText, cTooGreat⟩) :
    ∃ (fd : FuncData) (g : Fn), (∀ (s : Shared) (u : Value), BindsTo s fd ⟨[u], []⟩ [("script", u)]) ∧ (∀ base : Heap, K.In base → base.Ns mainGlobals mg → FnG P w K mg base 3 fa fd ["script"] (spD 1 K EA0 g)) ∧ ∀ ns : List Int, ns.length ≤ 63 → ∃ w', g [.scr ns] [] = some (.ok (.dat (.bool true)), w') := by
  obtain ⟨c, hc⟩ : ∃ c : Cs, c = ⟨cBadRow, cBadMenu, cBadLog, cBadText, cTooGreat⟩ := ⟨_, rfl⟩
  have ks : ∀ C : Addr, PySem.W.kitOne K (.ref C) (.ref C) = some true := fun C => if_pos (beq_self_eq_true _)
  have z : Zs mg := ⟨PySem.W.mg_none_of X G zint, PySem.W.mg_none_of X G zlen, PySem.W.mg_none_of X G zrange, PySem.W.mg_none_of X G zenumerate, PySem.W.mg_none_of X G zrepr, PySem.W.mg_none_of X G zmin, PySem.W.mg_none_of X G zisinstance⟩
  have W : WishF K mg cWishError := ⟨PySem.W.mg_of X G aWishError, wrd, wga, wfi⟩
  have WG : GreatF K mg := ⟨PySem.W.mg_none_of X G zOverflowError, gfi⟩
  have TBadRow : EC K cBadRow "ValueError" "ValueError.__new__" "ValueError.__init__" [.type "ValueError", .type "Exception", .type "BaseException", .type "object"] := ⟨PySem.F.excBase_ValueError, PySem.F.store_ValueError, qBadRow, oBadRow, hBadRow, sBadRow, kcBadRow⟩
  have XBadRow : ExK K cBadRow := ⟨cls_some hBadRow, x2BadRow, x3BadRow, x4BadRow, hBadRow, x5BadRow, xcg, xct, x6BadRow⟩
  have FBadRow := fun_mk (st := initOf 8) lBadRow ciBadRow kiBadRow
  have OBadRow : ∀ base : Heap, vaE P w K mg base 1 "BadRow" c.row ["number"] := fun base => by
    rw [hc]
    exact ⟨TBadRow, XBadRow, PySem.W.mg_of X G aBadRow, fun f hf => by
      have e := List.mem_singleton.mp hf
      rw [e]; exact nBadRownumber, _, _, _, iiBadRow, tiBadRow, iBadRow TBadRow tBadRownumber W FBadRow, FBadRow.binds (fun _ _ _ _ _ _ us hl => match us, hl with | [_, _], _ => rfl), kwB1 (fun s u x => .of_eq rfl)⟩
  have TBadMenu : EC K cBadMenu "ValueError" "ValueError.__new__" "ValueError.__init__" [.type "ValueError", .type "Exception", .type "BaseException", .type "object"] := ⟨PySem.F.excBase_ValueError, PySem.F.store_ValueError, qBadMenu, oBadMenu, hBadMenu, sBadMenu, kcBadMenu⟩
  have XBadMenu : ExK K cBadMenu := ⟨cls_some hBadMenu, x2BadMenu, x3BadMenu, x4BadMenu, hBadMenu, x5BadMenu, xcg, xct, x6BadMenu⟩
  have FBadMenu := fun_mk (st := initOf 9) lBadMenu ciBadMenu kiBadMenu
  have OBadMenu : ∀ base : Heap, vaE P w K mg base 1 "BadMenu" c.menu ["number"] := fun base => by
    rw [hc]
    exact ⟨TBadMenu, XBadMenu, PySem.W.mg_of X G aBadMenu, fun f hf => by
      have e := List.mem_singleton.mp hf
      rw [e]; exact nBadMenunumber, _, _, _, iiBadMenu, tiBadMenu, iBadMenu TBadMenu tBadMenunumber W FBadMenu, FBadMenu.binds (fun _ _ _ _ _ _ us hl => match us, hl with | [_, _], _ => rfl), kwB1 (fun s u x => .of_eq rfl)⟩
  have TBadLog : EC K cBadLog "ValueError" "ValueError.__new__" "ValueError.__init__" [.type "ValueError", .type "Exception", .type "BaseException", .type "object"] := ⟨PySem.F.excBase_ValueError, PySem.F.store_ValueError, qBadLog, oBadLog, hBadLog, sBadLog, kcBadLog⟩
  have XBadLog : ExK K cBadLog := ⟨cls_some hBadLog, x2BadLog, x3BadLog, x4BadLog, hBadLog, x5BadLog, xcg, xct, x6BadLog⟩
  have FBadLog := fun_mk (st := initOf 10) lBadLog ciBadLog kiBadLog
  have OBadLog : ∀ base : Heap, vaE P w K mg base 1 "BadLog" c.log ["place"] := fun base => by
    rw [hc]
    exact ⟨TBadLog, XBadLog, PySem.W.mg_of X G aBadLog, fun f hf => by
      have e := List.mem_singleton.mp hf
      rw [e]; exact nBadLogplace, _, _, _, iiBadLog, tiBadLog, iBadLog TBadLog tBadLogplace W FBadLog, FBadLog.binds (fun _ _ _ _ _ _ us hl => match us, hl with | [_, _], _ => rfl), kwB1 (fun s u x => .of_eq rfl)⟩
  have TBadText : EC K cBadText "ValueError" "ValueError.__new__" "ValueError.__init__" [.type "ValueError", .type "Exception", .type "BaseException", .type "object"] := ⟨PySem.F.excBase_ValueError, PySem.F.store_ValueError, qBadText, oBadText, hBadText, sBadText, kcBadText⟩
  have XBadText : ExK K cBadText := ⟨cls_some hBadText, x2BadText, x3BadText, x4BadText, hBadText, x5BadText, xcg, xct, x6BadText⟩
  have FBadText := fun_mk (st := initOf 11) lBadText ciBadText kiBadText
  have OBadText : ∀ base : Heap, vaE P w K mg base 1 "BadText" c.text ["line", "word"] := fun base => by
    rw [hc]
    exact ⟨TBadText, XBadText, PySem.W.mg_of X G aBadText, fun f hf => by
      rcases List.mem_cons.mp hf with e | e
      · rw [e]; exact nBadTextline
      · rw [List.mem_singleton.mp e]; exact nBadTextword, _, _, _, iiBadText, tiBadText, iBadText TBadText tBadTextline tBadTextword W FBadText, FBadText.binds (fun _ _ _ _ _ _ us hl => match us, hl with | [_, _, _], _ => rfl), kwB2 (fun s u x y => .of_eq rfl) (fun s u x y => .of_eq rfl)⟩
  have TTooGreat : EC K cTooGreat "OverflowError" "OverflowError.__new__" "OverflowError.__init__" [.type "OverflowError", .type "ArithmeticError", .type "Exception", .type "BaseException", .type "object"] := ⟨PySem.F.excBase_OverflowError, PySem.F.store_OverflowError, qTooGreat, oTooGreat, hTooGreat, sTooGreat, kcTooGreat⟩
  have XTooGreat : ExK K cTooGreat := ⟨cls_some hTooGreat, x2TooGreat, x3TooGreat, x4TooGreat, hTooGreat, x5TooGreat, xcg, xct, x6TooGreat⟩
  have FTooGreat := fun_mk (st := initOf 12) lTooGreat ciTooGreat kiTooGreat
  have OTooGreat : ∀ base : Heap, ovE P w K mg base 1 "TooGreat" c.great ["most"] := fun base => by
    rw [hc]
    exact ⟨TTooGreat, XTooGreat, PySem.W.mg_of X G aTooGreat, fun f hf => by
      have e := List.mem_singleton.mp hf
      rw [e]; exact nTooGreatmost, _, _, _, iiTooGreat, tiTooGreat, iTooGreat TTooGreat tTooGreatmost WG FTooGreat, FTooGreat.binds (fun _ _ _ _ _ _ us hl => match us, hl with | [_, _], _ => rfl), kwB1 (fun s u x => .of_eq rfl)⟩
  have NBadMachine : NmX K mg "BadMachine" (tab5 c false false false false false) := by
    rw [hc]
    exact ⟨.ref cBadMachine, .ref cBadMachine, rfl, fun _ h => h, .inl (PySem.W.mg_of X G aBadMachine), tab_all XBadRow yBadRowBadMachine XBadMenu yBadMenuBadMachine XBadLog yBadLogBadMachine XBadText yBadTextBadMachine XTooGreat yTooGreatBadMachine⟩
  have NBadWish : NmX K mg "BadWish" (tab5 c false false false false false) := by
    rw [hc]
    exact ⟨.ref cBadWish, .ref cBadWish, rfl, fun _ h => h, .inl (PySem.W.mg_of X G aBadWish), tab_all XBadRow yBadRowBadWish XBadMenu yBadMenuBadWish XBadLog yBadLogBadWish XBadText yBadTextBadWish XTooGreat yTooGreatBadWish⟩
  have NBadPath : NmX K mg "BadPath" (tab5 c false false false false false) := by
    rw [hc]
    exact ⟨.ref cBadPath, .ref cBadPath, rfl, fun _ h => h, .inl (PySem.W.mg_of X G aBadPath), tab_all XBadRow yBadRowBadPath XBadMenu yBadMenuBadPath XBadLog yBadLogBadPath XBadText yBadTextBadPath XTooGreat yTooGreatBadPath⟩
  have NBadRun : NmX K mg "BadRun" (tab5 c false false false false false) := by
    rw [hc]
    exact ⟨.ref cBadRun, .ref cBadRun, rfl, fun _ h => h, .inl (PySem.W.mg_of X G aBadRun), tab_all XBadRow yBadRowBadRun XBadMenu yBadMenuBadRun XBadLog yBadLogBadRun XBadText yBadTextBadRun XTooGreat yTooGreatBadRun⟩
  have NBadNumber : NmX K mg "BadNumber" (tab5 c false false false false false) := by
    rw [hc]
    exact ⟨.ref cBadNumber, .ref cBadNumber, rfl, fun _ h => h, .inl (PySem.W.mg_of X G aBadNumber), tab_all XBadRow yBadRowBadNumber XBadMenu yBadMenuBadNumber XBadLog yBadLogBadNumber XBadText yBadTextBadNumber XTooGreat yTooGreatBadNumber⟩
  have NBadPaper : NmX K mg "BadPaper" (tab5 c false false false false false) := by
    rw [hc]
    exact ⟨.ref cBadPaper, .ref cBadPaper, rfl, fun _ h => h, .inl (PySem.W.mg_of X G aBadPaper), tab_all XBadRow yBadRowBadPaper XBadMenu yBadMenuBadPaper XBadLog yBadLogBadPaper XBadText yBadTextBadPaper XTooGreat yTooGreatBadPaper⟩
  have NBadRow : NmX K mg "BadRow" (tab5 c true false false false false) := by
    rw [hc]
    exact ⟨.ref cBadRow, .ref cBadRow, rfl, fun _ h => h, .inl (PySem.W.mg_of X G aBadRow), tab_all XBadRow (ks _) XBadMenu yBadMenuBadRow XBadLog yBadLogBadRow XBadText yBadTextBadRow XTooGreat yTooGreatBadRow⟩
  have NBadMenu : NmX K mg "BadMenu" (tab5 c false true false false false) := by
    rw [hc]
    exact ⟨.ref cBadMenu, .ref cBadMenu, rfl, fun _ h => h, .inl (PySem.W.mg_of X G aBadMenu), tab_all XBadRow yBadRowBadMenu XBadMenu (ks _) XBadLog yBadLogBadMenu XBadText yBadTextBadMenu XTooGreat yTooGreatBadMenu⟩
  have NBadLog : NmX K mg "BadLog" (tab5 c false false true false false) := by
    rw [hc]
    exact ⟨.ref cBadLog, .ref cBadLog, rfl, fun _ h => h, .inl (PySem.W.mg_of X G aBadLog), tab_all XBadRow yBadRowBadLog XBadMenu yBadMenuBadLog XBadLog (ks _) XBadText yBadTextBadLog XTooGreat yTooGreatBadLog⟩
  have NBadText : NmX K mg "BadText" (tab5 c false false false true false) := by
    rw [hc]
    exact ⟨.ref cBadText, .ref cBadText, rfl, fun _ h => h, .inl (PySem.W.mg_of X G aBadText), tab_all XBadRow yBadRowBadText XBadMenu yBadMenuBadText XBadLog yBadLogBadText XBadText (ks _) XTooGreat yTooGreatBadText⟩
  have NWishError : NmX K mg "WishError" (tab5 c true true true true false) := by
    rw [hc]
    exact ⟨.ref cWishError, .ref cWishError, rfl, fun _ h => h, .inl (PySem.W.mg_of X G aWishError), tab_all XBadRow yBadRowWishError XBadMenu yBadMenuWishError XBadLog yBadLogWishError XBadText yBadTextWishError XTooGreat yTooGreatWishError⟩
  have NValueError : NmX K mg "ValueError" (tab5 c true true true true false) := by
    rw [hc]
    exact ⟨.ty "ValueError", .type "ValueError", rfl, fun _ h => h, .inr ⟨PySem.W.mg_none_of X G zValueError, by decide +kernel, by decide⟩, tab_all XBadRow yBadRowValueError XBadMenu yBadMenuValueError XBadLog yBadLogValueError XBadText yBadTextValueError XTooGreat yTooGreatValueError⟩
  have NTooGreat : NmX K mg "TooGreat" (tab5 c false false false false true) := by
    rw [hc]
    exact ⟨.ref cTooGreat, .ref cTooGreat, rfl, fun _ h => h, .inl (PySem.W.mg_of X G aTooGreat), tab_all XBadRow yBadRowTooGreat XBadMenu yBadMenuTooGreat XBadLog yBadLogTooGreat XBadText yBadTextTooGreat XTooGreat (ks _)⟩
  have f_number : ∀ C ∈ [c.row, c.menu], ExK K C ∧ PySem.W.findIn K (.ref C) "number" = some none := fun C hC => by
    rcases List.mem_cons.mp hC with e | e
    · rw [e, hc]; exact ⟨XBadRow, nBadRownumber⟩
    · rw [List.mem_singleton.mp e, hc]; exact ⟨XBadMenu, nBadMenunumber⟩
  have f_place : ∀ C ∈ [c.log], ExK K C ∧ PySem.W.findIn K (.ref C) "place" = some none := fun C hC => by
    have e := List.mem_singleton.mp hC
    rw [e, hc]; exact ⟨XBadLog, nBadLogplace⟩
  have f_line : ∀ C ∈ [c.text], ExK K C ∧ PySem.W.findIn K (.ref C) "line" = some none := fun C hC => by
    have e := List.mem_singleton.mp hC
    rw [e, hc]; exact ⟨XBadText, nBadTextline⟩
  have f_word : ∀ C ∈ [c.text], ExK K C ∧ PySem.W.findIn K (.ref C) "word" = some none := fun C hC => by
    have e := List.mem_singleton.mp hC
    rw [e, hc]; exact ⟨XBadText, nBadTextword⟩
  have f_most : ∀ C ∈ [c.great], ExK K C ∧ PySem.W.findIn K (.ref C) "most" = some none := fun C hC => by
    have e := List.mem_singleton.mp hC
    rw [e, hc]; exact ⟨XTooGreat, nTooGreatmost⟩
  have Flawmixed := fun_mk (st := s_law_mixed) llawmixed clawmixed klawmixed
  have Olawmixed : ∀ base : Heap, OwnF P w K mg base EA0 1 "_law_mixed" 2 g_law_mixed := fun base => ⟨_, _, ["cell", "n"], fnD EA0_go Flawmixed sc_law_mixed (fun cdv A outer s H E hg hr => d_law_mixed  z cdv A outer s H E hg hr), PySem.W.mg_of X G alawmixed, klawmixed, Flawmixed.binds (fun _ _ _ _ _ _ us hl => match us, hl with | [_, _], _ => rfl)⟩
  have Flawfolded := fun_mk (st := s_law_folded) llawfolded clawfolded klawfolded
  have Olawfolded : ∀ base : Heap, OwnF P w K mg base EA0 1 "_law_folded" 1 g_law_folded := fun base => ⟨_, _, ["script"], fnD EA0_go Flawfolded sc_law_folded (fun cdv A outer s H E hg hr => d_law_folded  z cdv A outer s H E hg hr), PySem.W.mg_of X G alawfolded, klawfolded, Flawfolded.binds (fun _ _ _ _ _ _ us hl => match us, hl with | [_], _ => rfl)⟩
  have Flawdraw := fun_mk (st := s_law_draw) llawdraw clawdraw klawdraw
  have Olawdraw : ∀ base : Heap, OwnF P w K mg base EA0 2 "_law_draw" 2 g_law_draw := fun base => ⟨_, _, ["m", "limit"], fnD EA0_go Flawdraw sc_law_draw (fun cdv A outer s H E hg hr => d_law_draw (Olawmixed base) z cdv A outer s H E hg hr), PySem.W.mg_of X G alawdraw, klawdraw, Flawdraw.binds (fun _ _ _ _ _ _ us hl => match us, hl with | [_, _], _ => rfl)⟩
  have Flawbegun := fun_mk (st := s_law_begun) llawbegun clawbegun klawbegun
  have Olawbegun : ∀ base : Heap, OwnF P w K mg base EA0 2 "_law_begun" 1 g_law_begun := fun base => ⟨_, _, ["script"], fnD EA0_go Flawbegun sc_law_begun (fun cdv A outer s H E hg hr => d_law_begun (Olawfolded base) z cdv A outer s H E hg hr), PySem.W.mg_of X G alawbegun, klawbegun, Flawbegun.binds (fun _ _ _ _ _ _ us hl => match us, hl with | [_], _ => rfl)⟩
  have Flawlike := fun_mk (st := s_law_like) llawlike clawlike klawlike
  have Olawlike : ∀ base : Heap, OwnF P w K mg base EA0 1 "_law_like" 2 g_law_like := fun base => ⟨_, _, ["answer", "due"], fnD EA0_go Flawlike sc_law_like (fun cdv A outer s H E hg hr => d_law_like  z cdv A outer s H E hg hr), PySem.W.mg_of X G alawlike, klawlike, Flawlike.binds (fun _ _ _ _ _ _ us hl => match us, hl with | [_, _], _ => rfl)⟩
  have Flawclasses := fun_mk (st := s_law_classes) llawclasses clawclasses klawclasses
  have Olawclasses : ∀ base : Heap, OwnF P w K mg base EA0 1 "_law_classes" 1 (g_law_classes c) := fun base => ⟨_, _, ["error"], fnD EA0_go Flawclasses sc_law_classes (fun cdv A outer s H E hg hr => d_law_classes c NBadMachine NBadWish NBadPath NBadRun NBadNumber NBadPaper NBadRow NBadMenu NBadLog NBadText NWishError NValueError NTooGreat z cdv A outer s H E hg hr), PySem.W.mg_of X G alawclasses, klawclasses, Flawclasses.binds (fun _ _ _ _ _ _ us hl => match us, hl with | [_], _ => rfl)⟩
  have Flaw := fun_mk (st := slaw) llaw claw klaw
  have e := hfa.symm.trans (PySem.W.mg_of X G alaw)
  cases e
  exact ⟨_, glaw c, fun s v => .of_eq rfl, fun base _ _ => fnD EA0_go Flaw sclaw (fun cdv A outer s H E hg hr => dlaw c (Olawbegun base) (Olawdraw base) (Olawlike base) (Olawclasses base) (OBadRow base) (OBadMenu base) (OBadLog base) (OBadText base) (OTooGreat base) f_number f_place f_line f_word f_most z cdv A outer s H E hg hr), fun ns hz => law_ok (by rw [hc]; exact apart) ns hz⟩
end K80
end EG

open PySem PySem.W PyProof.Rows
set_option Elab.async false
set_option maxRecDepth 100000 in
set_option maxHeartbeats 0 in
theorem PySem.Challenge.cw_idlewishes_k80_errors_of_the_third_part_holds : PySem.Challenge.rw_idlewishes_k80_errors_of_the_third_part.Holds := by
  w_on; o_law; k_head; (case hw => w_witness2)
  k_fill
  refine EG.law_end2 (l := PySem.Challenge.rw_idlewishes_k80_errors_of_the_third_part) (n := 63) (k := 3) (x := "script") rfl (by decide) rfl ⟨rfl, by decide, by decide⟩ (fun w h Y => PySem.W.kIn_of Y) ?F
  case F =>
    intro w mg fa h KX G hmg
    refine' EG.K80.all_mk KX G hmg ?aBadMachine ?aBadWish ?aBadPath ?aBadRun ?aBadNumber ?aBadPaper ?aBadRow ?aBadMenu ?aBadLog ?aBadText ?aWishError ?aTooGreat ?alawmixed ?llawmixed ?clawmixed ?klawmixed ?alawfolded ?llawfolded ?clawfolded ?klawfolded ?alawdraw ?llawdraw ?clawdraw ?klawdraw ?alawbegun ?llawbegun ?clawbegun ?klawbegun ?alawlike ?llawlike ?clawlike ?klawlike ?alawclasses ?llawclasses ?clawclasses ?klawclasses ?alaw ?llaw ?claw ?klaw ?zint ?zlen ?zrange ?zenumerate ?zrepr ?zmin ?zisinstance ?zValueError ?zOverflowError ?wrd ?wga ?wfi ?gfi ?xcg ?xct ?qBadRow ?oBadRow ?hBadRow ?sBadRow ?kcBadRow ?iiBadRow ?tiBadRow ?lBadRow ?ciBadRow ?kiBadRow ?tBadRownumber ?nBadRownumber ?x2BadRow ?x3BadRow ?x4BadRow ?x5BadRow ?x6BadRow ?yBadRowBadMachine ?yBadRowBadWish ?yBadRowBadPath ?yBadRowBadRun ?yBadRowBadNumber ?yBadRowBadPaper ?yBadRowBadMenu ?yBadRowBadLog ?yBadRowBadText ?yBadRowWishError ?yBadRowValueError ?yBadRowTooGreat ?qBadMenu ?oBadMenu ?hBadMenu ?sBadMenu ?kcBadMenu ?iiBadMenu ?tiBadMenu ?lBadMenu ?ciBadMenu ?kiBadMenu ?tBadMenunumber ?nBadMenunumber ?x2BadMenu ?x3BadMenu ?x4BadMenu ?x5BadMenu ?x6BadMenu ?yBadMenuBadMachine ?yBadMenuBadWish ?yBadMenuBadPath ?yBadMenuBadRun ?yBadMenuBadNumber ?yBadMenuBadPaper ?yBadMenuBadRow ?yBadMenuBadLog ?yBadMenuBadText ?yBadMenuWishError ?yBadMenuValueError ?yBadMenuTooGreat ?qBadLog ?oBadLog ?hBadLog ?sBadLog ?kcBadLog ?iiBadLog ?tiBadLog ?lBadLog ?ciBadLog ?kiBadLog ?tBadLogplace ?nBadLogplace ?x2BadLog ?x3BadLog ?x4BadLog ?x5BadLog ?x6BadLog ?yBadLogBadMachine ?yBadLogBadWish ?yBadLogBadPath ?yBadLogBadRun ?yBadLogBadNumber ?yBadLogBadPaper ?yBadLogBadRow ?yBadLogBadMenu ?yBadLogBadText ?yBadLogWishError ?yBadLogValueError ?yBadLogTooGreat ?qBadText ?oBadText ?hBadText ?sBadText ?kcBadText ?iiBadText ?tiBadText ?lBadText ?ciBadText ?kiBadText ?tBadTextline ?nBadTextline ?tBadTextword ?nBadTextword ?x2BadText ?x3BadText ?x4BadText ?x5BadText ?x6BadText ?yBadTextBadMachine ?yBadTextBadWish ?yBadTextBadPath ?yBadTextBadRun ?yBadTextBadNumber ?yBadTextBadPaper ?yBadTextBadRow ?yBadTextBadMenu ?yBadTextBadLog ?yBadTextWishError ?yBadTextValueError ?yBadTextTooGreat ?qTooGreat ?oTooGreat ?hTooGreat ?sTooGreat ?kcTooGreat ?iiTooGreat ?tiTooGreat ?lTooGreat ?ciTooGreat ?kiTooGreat ?tTooGreatmost ?nTooGreatmost ?x2TooGreat ?x3TooGreat ?x4TooGreat ?x5TooGreat ?x6TooGreat ?yTooGreatBadMachine ?yTooGreatBadWish ?yTooGreatBadPath ?yTooGreatBadRun ?yTooGreatBadNumber ?yTooGreatBadPaper ?yTooGreatBadRow ?yTooGreatBadMenu ?yTooGreatBadLog ?yTooGreatBadText ?yTooGreatWishError ?yTooGreatValueError ?apart
    (case aBadMachine => k_is)
    (case aBadWish => k_is)
    (case aBadPath => k_is)
    (case aBadRun => k_is)
    (case aBadNumber => k_is)
    (case aBadPaper => k_is)
    (case aBadRow => k_is)
    (case aBadMenu => k_is)
    (case aBadLog => k_is)
    (case aBadText => k_is)
    (case aWishError => k_is)
    (case aTooGreat => k_is)
    (case alawmixed => k_is)
    (case llawmixed => k_is)
    (case clawmixed => k_is)
    (case klawmixed => k_is)
    (case alawfolded => k_is)
    (case llawfolded => k_is)
    (case clawfolded => k_is)
    (case klawfolded => k_is)
    (case alawdraw => k_is)
    (case llawdraw => k_is)
    (case clawdraw => k_is)
    (case klawdraw => k_is)
    (case alawbegun => k_is)
    (case llawbegun => k_is)
    (case clawbegun => k_is)
    (case klawbegun => k_is)
    (case alawlike => k_is)
    (case llawlike => k_is)
    (case clawlike => k_is)
    (case klawlike => k_is)
    (case alawclasses => k_is)
    (case llawclasses => k_is)
    (case clawclasses => k_is)
    (case klawclasses => k_is)
    (case alaw => k_is)
    (case llaw => k_is)
    (case claw => k_is)
    (case klaw => k_is)
    (case zint => k_is)
    (case zlen => k_is)
    (case zrange => k_is)
    (case zenumerate => k_is)
    (case zrepr => k_is)
    (case zmin => k_is)
    (case zisinstance => k_is)
    (case zValueError => k_is)
    (case zOverflowError => k_is)
    (case wrd => k_is)
    (case wga => k_is)
    (case wfi => k_is)
    (case gfi => k_is)
    (case xcg => k_is)
    (case xct => k_is)
    (case qBadRow => kx_is)
    (case oBadRow => kx_is)
    (case hBadRow => k_is)
    (case sBadRow => k_is)
    (case kcBadRow => k_is)
    (case iiBadRow => k_is)
    (case tiBadRow => k_is)
    (case lBadRow => k_is)
    (case ciBadRow => k_is)
    (case kiBadRow => k_is)
    (case tBadRownumber => k_is)
    (case nBadRownumber => k_is)
    (case x2BadRow => k_is)
    (case x3BadRow => k_is)
    (case x4BadRow => k_is)
    (case x5BadRow => k_is)
    (case x6BadRow => k_is)
    (case yBadRowBadMachine => kit_is)
    (case yBadRowBadWish => kit_is)
    (case yBadRowBadPath => kit_is)
    (case yBadRowBadRun => kit_is)
    (case yBadRowBadNumber => kit_is)
    (case yBadRowBadPaper => kit_is)
    (case yBadRowBadMenu => kit_is)
    (case yBadRowBadLog => kit_is)
    (case yBadRowBadText => kit_is)
    (case yBadRowWishError => kit_is)
    (case yBadRowValueError => kit_is)
    (case yBadRowTooGreat => kit_is)
    (case qBadMenu => kx_is)
    (case oBadMenu => kx_is)
    (case hBadMenu => k_is)
    (case sBadMenu => k_is)
    (case kcBadMenu => k_is)
    (case iiBadMenu => k_is)
    (case tiBadMenu => k_is)
    (case lBadMenu => k_is)
    (case ciBadMenu => k_is)
    (case kiBadMenu => k_is)
    (case tBadMenunumber => k_is)
    (case nBadMenunumber => k_is)
    (case x2BadMenu => k_is)
    (case x3BadMenu => k_is)
    (case x4BadMenu => k_is)
    (case x5BadMenu => k_is)
    (case x6BadMenu => k_is)
    (case yBadMenuBadMachine => kit_is)
    (case yBadMenuBadWish => kit_is)
    (case yBadMenuBadPath => kit_is)
    (case yBadMenuBadRun => kit_is)
    (case yBadMenuBadNumber => kit_is)
    (case yBadMenuBadPaper => kit_is)
    (case yBadMenuBadRow => kit_is)
    (case yBadMenuBadLog => kit_is)
    (case yBadMenuBadText => kit_is)
    (case yBadMenuWishError => kit_is)
    (case yBadMenuValueError => kit_is)
    (case yBadMenuTooGreat => kit_is)
    (case qBadLog => kx_is)
    (case oBadLog => kx_is)
    (case hBadLog => k_is)
    (case sBadLog => k_is)
    (case kcBadLog => k_is)
    (case iiBadLog => k_is)
    (case tiBadLog => k_is)
    (case lBadLog => k_is)
    (case ciBadLog => k_is)
    (case kiBadLog => k_is)
    (case tBadLogplace => k_is)
    (case nBadLogplace => k_is)
    (case x2BadLog => k_is)
    (case x3BadLog => k_is)
    (case x4BadLog => k_is)
    (case x5BadLog => k_is)
    (case x6BadLog => k_is)
    (case yBadLogBadMachine => kit_is)
    (case yBadLogBadWish => kit_is)
    (case yBadLogBadPath => kit_is)
    (case yBadLogBadRun => kit_is)
    (case yBadLogBadNumber => kit_is)
    (case yBadLogBadPaper => kit_is)
    (case yBadLogBadRow => kit_is)
    (case yBadLogBadMenu => kit_is)
    (case yBadLogBadText => kit_is)
    (case yBadLogWishError => kit_is)
    (case yBadLogValueError => kit_is)
    (case yBadLogTooGreat => kit_is)
    (case qBadText => kx_is)
    (case oBadText => kx_is)
    (case hBadText => k_is)
    (case sBadText => k_is)
    (case kcBadText => k_is)
    (case iiBadText => k_is)
    (case tiBadText => k_is)
    (case lBadText => k_is)
    (case ciBadText => k_is)
    (case kiBadText => k_is)
    (case tBadTextline => k_is)
    (case nBadTextline => k_is)
    (case tBadTextword => k_is)
    (case nBadTextword => k_is)
    (case x2BadText => k_is)
    (case x3BadText => k_is)
    (case x4BadText => k_is)
    (case x5BadText => k_is)
    (case x6BadText => k_is)
    (case yBadTextBadMachine => kit_is)
    (case yBadTextBadWish => kit_is)
    (case yBadTextBadPath => kit_is)
    (case yBadTextBadRun => kit_is)
    (case yBadTextBadNumber => kit_is)
    (case yBadTextBadPaper => kit_is)
    (case yBadTextBadRow => kit_is)
    (case yBadTextBadMenu => kit_is)
    (case yBadTextBadLog => kit_is)
    (case yBadTextWishError => kit_is)
    (case yBadTextValueError => kit_is)
    (case yBadTextTooGreat => kit_is)
    (case qTooGreat => kx_is)
    (case oTooGreat => kx_is)
    (case hTooGreat => k_is)
    (case sTooGreat => k_is)
    (case kcTooGreat => k_is)
    (case iiTooGreat => k_is)
    (case tiTooGreat => k_is)
    (case lTooGreat => k_is)
    (case ciTooGreat => k_is)
    (case kiTooGreat => k_is)
    (case tTooGreatmost => k_is)
    (case nTooGreatmost => k_is)
    (case x2TooGreat => k_is)
    (case x3TooGreat => k_is)
    (case x4TooGreat => k_is)
    (case x5TooGreat => k_is)
    (case x6TooGreat => k_is)
    (case yTooGreatBadMachine => kit_is)
    (case yTooGreatBadWish => kit_is)
    (case yTooGreatBadPath => kit_is)
    (case yTooGreatBadRun => kit_is)
    (case yTooGreatBadNumber => kit_is)
    (case yTooGreatBadPaper => kit_is)
    (case yTooGreatBadRow => kit_is)
    (case yTooGreatBadMenu => kit_is)
    (case yTooGreatBadLog => kit_is)
    (case yTooGreatBadText => kit_is)
    (case yTooGreatWishError => kit_is)
    (case yTooGreatValueError => kit_is)
    (case apart => exact ⟨by decide, by decide, by decide, by decide, by decide, by decide, by decide, by decide, by decide, by decide⟩)

