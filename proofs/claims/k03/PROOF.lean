import PyProof.Rows.All
import Wide.All
import OpenK.AllK
import Wide.FinOn
import HandS.ForMost
import HandS.ForExc
import HandS.TupAny
import HandS.TupMul
import HandS.IsInst
import HandS.SortInts
import HandS.Conv
import HandS.Deep
import HandS.Zip
import HandS.RaiseMore
import HandS.ExcInit
import HandS.CallSlots
import HandS.Lambda
import PyProof.ReprRoads
import KE.KExcInit
import HandS.ExcField
import HandS.ExcIs
import KE.KExcIs
import HandS.MakeKw
import HandS.Style
import HandS.More
import HandS.Flow
import KE.GoesEnumKw
import HandS.TryMany
import KE.KTryMore
import KE.KNestM
import PyProof.ReprLen
import PySem.Challenge.RW_idlewishes_k03_whole_wishes
set_option Elab.async false
set_option linter.all false
set_option maxRecDepth 100000
set_option maxHeartbeats 4000000
/-! An engine over the layer: what a def does to plain data, told by a Lean function (Mo) over slots, and once for each construct that the layer's reading follows from it. -/
namespace EG
open PySem PySem.Spec PyProof.Rows L2

/-! ### data that lie in the heap -/
/-- a list, a tuple that is read and no longer changed: its address is not among those that may change -/
def SL (K : PySem.W.Frag) (M : List Addr) (H : Hp) (a : Addr) (xs : List V) : Prop := (Rd H a (.lst xs) ∧ a ∉ M) ∨ SqL K (fun _ => none) a xs
def ST (K : PySem.W.Frag) (M : List Addr) (H : Hp) (a : Addr) (xs : List V) : Prop := (Rd H a (.tup xs) ∧ a ∉ M) ∨ SqT K (fun _ => none) a xs
def kD : Key → PyData
  | .inl i => .int i
  | .inr s => .str s
mutual
inductive Dt (K : PySem.W.Frag) (M : List Addr) (H : Hp) : V → PyData → Prop
  | non : Dt K M H .non .none
  | bl (b : Bool) : Dt K M H (.bl b) (.bool b)
  | int (i : Int) : Dt K M H (.int i) (.int i)
  | str (x : Str) : Dt K M H (.str x) (.str x)
  | lst {a : Addr} {xs : List V} {ds : List PyData} : H a = some (.lst xs) → a ∉ M → DtA K M H xs ds → Dt K M H (.ref a) (.list ds)
  | tup {a : Addr} {xs : List V} {ds : List PyData} : ST K M H a xs → DtA K M H xs ds → Dt K M H (.ref a) (.tuple ds)
  | dic {a : Addr} {kvs : List (Key × V)} {ds : List (PyData × PyData)} : H a = some (.dK kvs) → a ∉ M → DtK K M H kvs ds → Dt K M H (.ref a) (.dict ds)
inductive DtA (K : PySem.W.Frag) (M : List Addr) (H : Hp) : List V → List PyData → Prop
  | nil : DtA K M H [] []
  | cons {v : V} {vs : List V} {d : PyData} {ds : List PyData} : Dt K M H v d → DtA K M H vs ds → DtA K M H (v :: vs) (d :: ds)
inductive DtK (K : PySem.W.Frag) (M : List Addr) (H : Hp) : List (Key × V) → List (PyData × PyData) → Prop
  | nil : DtK K M H [] []
  | cons {k : Key} {v : V} {r : List (Key × V)} {d : PyData} {ds : List (PyData × PyData)} : Dt K M H v d → DtK K M H r ds → DtK K M H ((k, v) :: r) ((kD k, d) :: ds)
end

/-- from one state to a later one: what was not open to change is as it was, and is not open now -/
def Go (M : List Addr) (H : Hp) (M' : List Addr) (H' : Hp) : Prop := ∀ b o, b ∉ M → H b = some o → H' b = some o ∧ b ∉ M'
theorem Go.refl (M : List Addr) (H : Hp) : Go M H M H := fun _ _ n h => ⟨h, n⟩
theorem Go.trans {M M1 M2 : List Addr} {H H1 H2 : Hp} (a : Go M H M1 H1) (b : Go M1 H1 M2 H2) : Go M H M2 H2 := fun c o n h => by
  obtain ⟨h1, n1⟩ := a c o n h
  exact b c o n1 h1
/-- a new object -/
theorem Go.new {M : List Addr} {H : Hp} {p : Addr} {o : HO} (hp : H p = none) : Go M H M (upd H p o) := fun b u n h => ⟨by rw [upd_ne (ne_of_none h hp)]; exact h, n⟩
/-- a new object that may change -/
theorem Go.newM {M : List Addr} {H : Hp} {p : Addr} {o : HO} (hp : H p = none) : Go M H (p :: M) (upd H p o) := fun b u n h => by
  have e := ne_of_none h hp
  refine ⟨by rw [upd_ne e]; exact h, fun z => ?_⟩
  rcases List.mem_cons.mp z with z | z
  · exact e z
  · exact n z
/-- an object that may change is changed -/
theorem Go.write {M : List Addr} {H : Hp} {p : Addr} {o : HO} (hp : p ∈ M) : Go M H M (upd H p o) := fun b u n h => ⟨by rw [upd_ne (fun z => n (by rw [z]; exact hp))]; exact h, n⟩
theorem Go.less {M M' : List Addr} {H : Hp} (h : ∀ b, b ∈ M' → b ∈ M) : Go M H M' H := fun b _ n e => ⟨e, fun z => n (h b z)⟩

section
variable {K : PySem.W.Frag} {M M' : List Addr} {H H' : Hp}
theorem SL.go {a : Addr} {xs : List V} (g : Go M H M' H') (h : SL K M H a xs) : SL K M' H' a xs := by
  rcases h with ⟨h, n⟩ | h
  · rcases h with h | ⟨o, h⟩
    · obtain ⟨h1, n1⟩ := g _ _ n h
      exact .inl ⟨.inl h1, n1⟩
    · obtain ⟨h1, n1⟩ := g _ _ n h
      exact .inl ⟨.inr ⟨o, h1⟩, n1⟩
  · exact .inr h
theorem ST.go {a : Addr} {xs : List V} (g : Go M H M' H') (h : ST K M H a xs) : ST K M' H' a xs := by
  rcases h with ⟨h, n⟩ | h
  · rcases h with h | ⟨o, h⟩
    · obtain ⟨h1, n1⟩ := g _ _ n h
      exact .inl ⟨.inl h1, n1⟩
    · obtain ⟨h1, n1⟩ := g _ _ n h
      exact .inl ⟨.inr ⟨o, h1⟩, n1⟩
  · exact .inr h
theorem noRd {a : Addr} {u : HO} : ¬ Rd (fun _ => none) a u := fun h => by
  rcases h with h | ⟨o, h⟩
  · cases h
  · cases h
theorem SL.sq {a : Addr} {xs : List V} (h : SL K M H a xs) : SqL K H a xs := by
  rcases h with ⟨h, _⟩ | h | h
  · exact .inl h
  · exact (noRd h).elim
  · exact .inr h
theorem ST.sq {a : Addr} {xs : List V} (h : ST K M H a xs) : SqT K H a xs := by
  rcases h with ⟨h, _⟩ | h | h
  · exact .inl h
  · exact (noRd h).elim
  · exact .inr h
mutual
theorem Dt.go (g : Go M H M' H') : ∀ {v : V} {d : PyData}, Dt K M H v d → Dt K M' H' v d
  | _, _, .non => .non
  | _, _, .bl b => .bl b
  | _, _, .int i => .int i
  | _, _, .str x => .str x
  | _, _, .lst h n q => .lst (g _ _ n h).1 (g _ _ n h).2 (DtA.go g q)
  | _, _, .tup h q => .tup (h.go g) (DtA.go g q)
  | _, _, .dic h n q => .dic (g _ _ n h).1 (g _ _ n h).2 (DtK.go g q)
theorem DtA.go (g : Go M H M' H') : ∀ {vs : List V} {ds : List PyData}, DtA K M H vs ds → DtA K M' H' vs ds
  | _, _, .nil => .nil
  | _, _, .cons h q => .cons (Dt.go g h) (DtA.go g q)
theorem DtK.go (g : Go M H M' H') : ∀ {vs : List (Key × V)} {ds : List (PyData × PyData)}, DtK K M H vs ds → DtK K M' H' vs ds
  | _, _, .nil => .nil
  | _, _, .cons h q => .cons (Dt.go g h) (DtK.go g q)
end
theorem DtA.length : ∀ {vs : List V} {ds : List PyData}, DtA K M H vs ds → vs.length = ds.length
  | _, _, .nil => rfl
  | _, _, .cons _ q => congrArg (· + 1) q.length
theorem DtA.get : ∀ {vs : List V} {ds : List PyData} {i : Nat} {v : V}, DtA K M H vs ds → vs[i]? = some v → ∃ d, ds[i]? = some d ∧ Dt K M H v d
  | _, _, _, _, .nil, e => by simp at e
  | _, _, 0, _, .cons h _, e => by
    cases (Option.some.inj e)
    exact ⟨_, rfl, h⟩
  | _, _, i + 1, v, .cons _ q, e => by
    obtain ⟨d, h1, h2⟩ := DtA.get (i := i) q (by simpa using e)
    exact ⟨d, by simpa using h1, h2⟩
theorem DtA.getD : ∀ {vs : List V} {ds : List PyData} {i : Nat} {d : PyData}, DtA K M H vs ds → ds[i]? = some d → ∃ v, vs[i]? = some v ∧ Dt K M H v d
  | _, _, _, _, .nil, e => by simp at e
  | _, _, 0, _, .cons h _, e => by
    cases (Option.some.inj e)
    exact ⟨_, rfl, h⟩
  | _, _, i + 1, v, .cons _ q, e => by
    obtain ⟨d, h1, h2⟩ := DtA.getD (i := i) q (by simpa using e)
    exact ⟨d, by simpa using h1, h2⟩
theorem DtA.app : ∀ {vs ws : List V} {ds es : List PyData}, DtA K M H vs ds → DtA K M H ws es → DtA K M H (vs ++ ws) (ds ++ es)
  | _, _, _, _, .nil, q => q
  | _, _, _, _, .cons h r, q => .cons h (r.app q)
theorem DtA.take : ∀ {vs : List V} {ds : List PyData} (n : Nat), DtA K M H vs ds → DtA K M H (vs.take n) (ds.take n)
  | _, _, 0, _ => .nil
  | _, _, _ + 1, .nil => .nil
  | _, _, n + 1, .cons h r => .cons h (r.take n)
theorem DtA.drop : ∀ {vs : List V} {ds : List PyData} (n : Nat), DtA K M H vs ds → DtA K M H (vs.drop n) (ds.drop n)
  | _, _, 0, r => r
  | _, _, _ + 1, .nil => .nil
  | _, _, n + 1, .cons _ r => r.drop n
theorem DtA.set {v : V} {d : PyData} (hv : Dt K M H v d) : ∀ {vs : List V} {ds : List PyData} (i : Nat), DtA K M H vs ds → DtA K M H (vs.set i v) (ds.set i d)
  | _, _, _, .nil => .nil
  | _, _, 0, .cons _ r => .cons hv r
  | _, _, i + 1, .cons h r => .cons h (r.set hv i)
theorem DtA.rev : ∀ {vs : List V} {ds : List PyData}, DtA K M H vs ds → DtA K M H vs.reverse ds.reverse
  | _, _, .nil => .nil
  | _, _, .cons h r => by
    rw [List.reverse_cons, List.reverse_cons]
    exact r.rev.app (.cons h .nil)
theorem DtA.ints : ∀ ns : List Int, DtA K M H (ns.map V.int) (ns.map PyData.int)
  | [] => .nil
  | n :: r => .cons (.int n) (DtA.ints r)
theorem DtA.of_ints : ∀ {ns : List Int} {vs : List V}, DtA K M H vs (ns.map PyData.int) → vs = ns.map V.int
  | [], _, .nil => rfl
  | n :: r, _, .cons h q => by
    cases h
    rw [DtA.of_ints q]
    rfl
theorem DtA.pop {vs : List V} {ds : List PyData} (h : DtA K M H vs ds) : DtA K M H vs.dropLast ds.dropLast := by
  rw [List.dropLast_eq_take, List.dropLast_eq_take, h.length]
  exact h.take _
end

/-! ### the store: what may change -/
inductive SO where
  | lst (xs : List PyData)
  | dic (kvs : List (Key × PyData))
  | draw (cs gs : List Int) (n : Int)
  /-- the table of a def's code objects: those known bear the name q -/
  | tab (p : Addr) (q : Str)
  | dead
/-- an exception's class, its fields -/
abbrev ExV := Addr × List (Str × PyData)
abbrev Sto := List SO
inductive SV where
  | dat (d : PyData)
  | obj (n : Nat)
  /-- the script -/
  | scr (ns : List Int)
  /-- an exception object; a list of such -/
  | exc (c : ExV)
  | excs (l : List ExV)
  /-- the inner list of a draw -/
  | drg (n : Nat)
def footOf : List Addr → SO → List Addr
  | _, .dead => []
  | l, _ => l
/-- the addresses that may change -/
def mz : List (List Addr) → Sto → List Addr
  | l :: ls, o :: os => footOf l o ++ mz ls os
  | _, _ => []
def SOk (K : PySem.W.Frag) (M : List Addr) (H : Hp) : List Addr → SO → Prop
  | l, .lst ds => ∃ a vs, l = [a] ∧ H a = some (.lst vs) ∧ DtA K M H vs ds
  | l, .dic ds => ∃ a kvs, l = [a] ∧ H a = some (.dK kvs) ∧ (kvs.map (·.1)) = ds.map (·.1) ∧ DtA K M H (kvs.map (·.2)) (ds.map (·.2))
  | l, .draw cs gs n => ∃ a b c, l = [a, c] ∧ H a = some (.dK [(Sum.inr "cells", .ref b), (Sum.inr "great", .ref c), (Sum.inr "spot", .int n)]) ∧ (H b = some (.lst (cs.map V.int)) ∧ b ∉ M) ∧ H c = some (.lst (gs.map V.int))
  | l, .tab a q => ∃ ps : Array Value, l = [a] ∧ H a = some (.tbl ps) ∧ TriplesOk ps.toList ∧ ∀ (pos : Pos) (cv : Value), codeAmong pos ps.toList = some cv → ∃ c, cv = .ref c ∧ H c = some (LamX.CodeO c q) ∧ c ∉ M
  | _, .dead => True
structure SRel (K : PySem.W.Frag) (ι : List (List Addr)) (w : Sto) (H : Hp) : Prop where
  len : ι.length = w.length
  ok : ∀ (n : Nat) (l : List Addr) (o : SO), ι[n]? = some l → w[n]? = some o → SOk K (mz ι w) H l o
  nd : (mz ι w).Nodup
/-- an exception object, new or caught; its dict -/
def exw (a C dx : Addr) : HO := .ext fun h => ∃ (oe : Obj) (vs : Array Value), h.get? a = some oe ∧ oe.cls = .ref C ∧ oe.dict = some dx ∧ oe.data = .fields vs
def IsEx (H : Hp) (a C dx : Addr) : Prop := H a = some (exo a C (some dx)) ∨ H a = some (exw a C dx)
def IsXd (H : Hp) (dx : Addr) (gs : List (Str × V)) : Prop := H dx = some (exd dx gs) ∨ H dx = some (.xd gs)
theorem IsEx.go {M M' : List Addr} {H H' : Hp} {a C dx : Addr} (g : Go M H M' H') (n : a ∉ M) (h : IsEx H a C dx) : IsEx H' a C dx ∧ a ∉ M' := by
  rcases h with h | h
  · exact ⟨.inl (g _ _ n h).1, (g _ _ n h).2⟩
  · exact ⟨.inr (g _ _ n h).1, (g _ _ n h).2⟩
theorem IsXd.go {M M' : List Addr} {H H' : Hp} {dx : Addr} {gs : List (Str × V)} (g : Go M H M' H') (n : dx ∉ M) (h : IsXd H dx gs) : IsXd H' dx gs ∧ dx ∉ M' := by
  rcases h with h | h
  · exact ⟨.inl (g _ _ n h).1, (g _ _ n h).2⟩
  · exact ⟨.inr (g _ _ n h).1, (g _ _ n h).2⟩
/-- an exception that stands still, its fields plain data -/
def ExR (K : PySem.W.Frag) (M : List Addr) (H : Hp) (v : V) (c : ExV) : Prop := ∃ (a dx : Addr) (gs : List (Str × V)), v = .ref a ∧ IsEx H a c.1 dx ∧ a ∉ M ∧ IsXd H dx gs ∧ dx ∉ M ∧ gs.map (·.1) = c.2.map (·.1) ∧ DtA K M H (gs.map (·.2)) (c.2.map (·.2))
inductive ExA (K : PySem.W.Frag) (M : List Addr) (H : Hp) : List V → List ExV → Prop
  | nil : ExA K M H [] []
  | cons {v : V} {vs : List V} {c : ExV} {cs : List ExV} : ExR K M H v c → ExA K M H vs cs → ExA K M H (v :: vs) (c :: cs)
theorem ExR.go {K : PySem.W.Frag} {M M' : List Addr} {H H' : Hp} (g : Go M H M' H') {v : V} {c : ExV} (h : ExR K M H v c) : ExR K M' H' v c := by
  obtain ⟨a, dx, gs, e, h1, n1, h2, n2, h3, h4⟩ := h
  exact ⟨a, dx, gs, e, (h1.go g n1).1, (h1.go g n1).2, (h2.go g n2).1, (h2.go g n2).2, h3, h4.go g⟩
theorem ExA.go {K : PySem.W.Frag} {M M' : List Addr} {H H' : Hp} (g : Go M H M' H') : ∀ {vs : List V} {cs : List ExV}, ExA K M H vs cs → ExA K M' H' vs cs
  | _, _, .nil => .nil
  | _, _, .cons h r => .cons (h.go g) (r.go g)
theorem ExA.length {K : PySem.W.Frag} {M : List Addr} {H : Hp} : ∀ {vs : List V} {cs : List ExV}, ExA K M H vs cs → vs.length = cs.length
  | _, _, .nil => rfl
  | _, _, .cons _ r => congrArg (· + 1) r.length
theorem ExA.getD {K : PySem.W.Frag} {M : List Addr} {H : Hp} : ∀ {vs : List V} {cs : List ExV} {i : Nat} {c : ExV}, ExA K M H vs cs → cs[i]? = some c → ∃ v, vs[i]? = some v ∧ ExR K M H v c
  | _, _, _, _, .nil, e => by simp at e
  | _, _, 0, _, .cons h _, e => by
    cases (Option.some.inj e)
    exact ⟨_, rfl, h⟩
  | _, _, i + 1, c, .cons _ q, e => by
    obtain ⟨v, h1, h2⟩ := ExA.getD (i := i) q (by simpa using e)
    exact ⟨v, by simpa using h1, h2⟩
def VRel (K : PySem.W.Frag) (ι : List (List Addr)) (M : List Addr) (H : Hp) (v : V) : SV → Prop
  | .dat d => Dt K M H v d
  | .obj n => ∃ a l, ι[n]? = some (a :: l) ∧ v = .ref a
  | .scr ns => ∃ a, v = .ref a ∧ SL K M H a (ns.map V.int)
  | .exc c => ExR K M H v c
  | .excs l => ∃ a vs, v = .ref a ∧ H a = some (.lst vs) ∧ a ∉ M ∧ ExA K M H vs l
  | .drg n => ∃ a c, ι[n]? = some [a, c] ∧ v = .ref c
structure Stp (K : PySem.W.Frag) (ι : List (List Addr)) (w : Sto) (H : Hp) (ι' : List (List Addr)) (w' : Sto) (H' : Hp) : Prop where
  pre : ι <+: ι'
  go : Go (mz ι w) H (mz ι' w') H'
  rel : SRel K ι' w' H'
section
variable {K : PySem.W.Frag} {ι ι1 ι2 : List (List Addr)} {w w1 w2 : Sto} {H H1 H2 : Hp}
theorem Stp.refl (h : SRel K ι w H) : Stp K ι w H ι w H := ⟨List.prefix_rfl, Go.refl _ _, h⟩
theorem Stp.trans (a : Stp K ι w H ι1 w1 H1) (b : Stp K ι1 w1 H1 ι2 w2 H2) : Stp K ι w H ι2 w2 H2 := ⟨a.pre.trans b.pre, a.go.trans b.go, b.rel⟩
theorem VRel.stp (s : Stp K ι w H ι1 w1 H1) {v : V} {x : SV} (h : VRel K ι (mz ι w) H v x) : VRel K ι1 (mz ι1 w1) H1 v x := by
  cases x with
  | dat d => exact Dt.go s.go h
  | obj n =>
    obtain ⟨a, l, e, q⟩ := h
    refine ⟨a, l, ?_, q⟩
    obtain ⟨t, rfl⟩ := s.pre
    rw [List.getElem?_append_left (List.getElem?_eq_some_iff.mp e).1]
    exact e
  | scr ns =>
    obtain ⟨a, e, q⟩ := h
    exact ⟨a, e, q.go s.go⟩
  | exc c => exact ExR.go s.go h
  | excs l =>
    obtain ⟨a, vs, e, h1, n1, q⟩ := h
    exact ⟨a, vs, e, (s.go _ _ n1 h1).1, (s.go _ _ n1 h1).2, q.go s.go⟩
  | drg n =>
    obtain ⟨a, c, e, q⟩ := h
    refine ⟨a, c, ?_, q⟩
    obtain ⟨t, rfl⟩ := s.pre
    rw [List.getElem?_append_left (List.getElem?_eq_some_iff.mp e).1]
    exact e
end
/-! the store's relation under single changes -/
theorem mz_app : ∀ {ι : List (List Addr)} {w : Sto} {κ : List (List Addr)} {u : Sto}, ι.length = w.length → mz (ι ++ κ) (w ++ u) = mz ι w ++ mz κ u
  | [], [], _, _, _ => rfl
  | l :: ls, o :: os, κ, u, h => by
    show footOf l o ++ mz (ls ++ κ) (os ++ u) = (footOf l o ++ mz ls os) ++ mz κ u
    rw [mz_app (by simpa using h), List.append_assoc]
theorem mem_mz : ∀ {ι : List (List Addr)} {w : Sto} {n : Nat} {l : List Addr} {o : SO} {b : Addr}, ι[n]? = some l → w[n]? = some o → b ∈ footOf l o → b ∈ mz ι w
  | [], _, _, _, _, _, h, _, _ => by simp at h
  | _ :: _, [], _, _, _, _, _, h, _ => by simp at h
  | l :: ls, o :: os, 0, _, _, b, h1, h2, hb => by
    cases (Option.some.inj h1)
    cases (Option.some.inj h2)
    exact List.mem_append_left _ hb
  | l :: ls, o :: os, n + 1, _, _, b, h1, h2, hb => List.mem_append_right _ (mem_mz (n := n) (by simpa using h1) (by simpa using h2) hb)
theorem of_mz : ∀ {ι : List (List Addr)} {w : Sto} {b : Addr}, b ∈ mz ι w → ∃ (n : Nat) (l : List Addr) (o : SO), ι[n]? = some l ∧ w[n]? = some o ∧ b ∈ footOf l o
  | [], _, _, h => by simp [mz] at h
  | _ :: _, [], _, h => by simp [mz] at h
  | l :: ls, o :: os, b, h => by
    rcases List.mem_append.mp h with h | h
    · exact ⟨0, l, o, rfl, rfl, h⟩
    · obtain ⟨n, l', o', h1, h2, h3⟩ := of_mz h
      exact ⟨n + 1, l', o', by simpa using h1, by simpa using h2, h3⟩
/-- the store at n replaced: who may change stays (another content), or less -/
theorem mz_set : ∀ {ι : List (List Addr)} {w : Sto} {n : Nat} {l : List Addr} {o u : SO}, ι[n]? = some l → w[n]? = some o → footOf l o = footOf l u → mz ι (w.set n u) = mz ι w
  | [], _, _, _, _, _, h, _, _ => by simp at h
  | _ :: _, [], _, _, _, _, _, h, _ => by simp at h
  | l :: ls, o :: os, 0, _, _, u, h1, h2, e => by
    cases (Option.some.inj h1)
    cases (Option.some.inj h2)
    show footOf l u ++ mz ls os = footOf l o ++ mz ls os
    rw [e]
  | l :: ls, o :: os, n + 1, _, _, u, h1, h2, e => by
    show footOf l o ++ mz ls (os.set n u) = footOf l o ++ mz ls os
    rw [mz_set (n := n) (by simpa using h1) (by simpa using h2) e]
theorem mz_dead : ∀ {ι : List (List Addr)} {w : Sto} {n : Nat}, (mz ι (w.set n .dead)).Sublist (mz ι w)
  | [], w, _ => by cases w <;> exact List.Sublist.refl _
  | _ :: _, [], n => by cases n <;> exact List.Sublist.refl _
  | l :: ls, o :: os, 0 => by
    show (footOf l .dead ++ mz ls os).Sublist (footOf l o ++ mz ls os)
    exact List.sublist_append_right _ _
  | l :: ls, o :: os, n + 1 => by
    show (footOf l o ++ mz ls (os.set n .dead)).Sublist (footOf l o ++ mz ls os)
    exact List.Sublist.append (List.Sublist.refl _) mz_dead
/-- two objects of the store stand apart -/
theorem mz_apart {ι : List (List Addr)} {w : Sto} (nd : (mz ι w).Nodup) : ∀ {n m : Nat} {l k : List Addr} {o u : SO} {b : Addr}, ι[n]? = some l → w[n]? = some o → b ∈ footOf l o → ι[m]? = some k → w[m]? = some u → b ∈ footOf k u → n = m := by
  induction ι generalizing w with
  | nil => intro n m l k o u b h; simp at h
  | cons a as ih =>
    cases w with
    | nil => intro n m l k o u b _ h; simp at h
    | cons x xs =>
      intro n m l k o u b h1 h2 hb g1 g2 gb
      have nd' : (footOf a x ++ mz as xs).Nodup := nd
      obtain ⟨_, nd2, dj⟩ := List.nodup_append.mp nd'
      cases n with
      | zero =>
        cases m with
        | zero => rfl
        | succ m =>
          cases (Option.some.inj h1)
          cases (Option.some.inj h2)
          exact absurd rfl (dj b hb b (mem_mz (n := m) (by simpa using g1) (by simpa using g2) gb))
      | succ n =>
        cases m with
        | zero =>
          cases (Option.some.inj g1)
          cases (Option.some.inj g2)
          exact absurd rfl (dj b gb b (mem_mz (n := n) (by simpa using h1) (by simpa using h2) hb))
        | succ m =>
          rw [ih nd2 (n := n) (m := m) (by simpa using h1) (by simpa using h2) hb (by simpa using g1) (by simpa using g2) gb]
end EG


set_option Elab.async false
set_option linter.all false
set_option maxRecDepth 100000
set_option maxHeartbeats 4000000
namespace EG
open PySem PySem.Spec PyProof.Rows L2

section
variable {K : PySem.W.Frag} {ι ι1 ι2 : List (List Addr)} {w w1 w2 : Sto} {H H1 H2 : Hp}
theorem SOk.go {M M' : List Addr} {l : List Addr} {o : SO} (g : Go M H M' H1) (st : ∀ b ∈ footOf l o, H1 b = H b) (h : SOk K M H l o) : SOk K M' H1 l o := by
  cases o with
  | lst ds =>
    obtain ⟨a, vs, rfl, e, q⟩ := h
    exact ⟨a, vs, rfl, by rw [st a (by simp [footOf])]; exact e, q.go g⟩
  | dic ds =>
    obtain ⟨a, kvs, rfl, e, q1, q2⟩ := h
    exact ⟨a, kvs, rfl, by rw [st a (by simp [footOf])]; exact e, q1, q2.go g⟩
  | draw cs gs n =>
    obtain ⟨a, b, c, rfl, e1, ⟨e2, n2⟩, e3⟩ := h
    exact ⟨a, b, c, rfl, by rw [st a (by simp [footOf])]; exact e1, g _ _ n2 e2, by rw [st c (by simp [footOf])]; exact e3⟩
  | tab a q =>
    obtain ⟨ps, rfl, e, t, k⟩ := h
    refine ⟨ps, rfl, by rw [st a (by simp [footOf])]; exact e, t, fun pos cv hc => ?_⟩
    obtain ⟨c, e1, e2, e3⟩ := k pos cv hc
    exact ⟨c, e1, g _ _ e3 e2⟩
  | dead => exact True.intro
/-- what stands in the store is tracked -/
theorem SOk.there {M : List Addr} {l : List Addr} {o : SO} {b : Addr} (h : SOk K M H l o) (hb : b ∈ footOf l o) : ∃ u, H b = some u := by
  cases o with
  | lst ds =>
    obtain ⟨a, vs, rfl, e, q⟩ := h
    have : b = a := by simpa [footOf] using hb
    exact ⟨_, by rw [this]; exact e⟩
  | dic ds =>
    obtain ⟨a, kvs, rfl, e, q1, q2⟩ := h
    have : b = a := by simpa [footOf] using hb
    exact ⟨_, by rw [this]; exact e⟩
  | draw cs gs n =>
    obtain ⟨a, b', c, rfl, e1, e2, e3⟩ := h
    have : b = a ∨ b = c := by simpa [footOf] using hb
    rcases this with z | z
    · exact ⟨_, by rw [z]; exact e1⟩
    · exact ⟨_, by rw [z]; exact e3⟩
  | tab a q =>
    obtain ⟨ps, rfl, e, t, k⟩ := h
    have : b = a := by simpa [footOf] using hb
    exact ⟨_, by rw [this]; exact e⟩
  | dead => exact absurd (show b ∈ ([] : List Addr) from hb) (by simp)
theorem SRel.there (r : SRel K ι w H) {b : Addr} (hb : b ∈ mz ι w) : ∃ u, H b = some u := by
  obtain ⟨n, l, o, h1, h2, h3⟩ := of_mz hb
  exact (r.ok n l o h1 h2).there h3
theorem SRel.ne (r : SRel K ι w H) {b p : Addr} (hb : b ∈ mz ι w) (hp : H p = none) : b ≠ p := fun e => by
  obtain ⟨u, z⟩ := r.there hb
  rw [e, hp] at z
  cases z
/-- a new object that is not of the store -/
theorem SRel.new (r : SRel K ι w H) {p : Addr} {o : HO} (hp : H p = none) : SRel K ι w (upd H p o) :=
  ⟨r.len, fun n l u h1 h2 => (r.ok n l u h1 h2).go (Go.new hp) (fun b hb => upd_ne (r.ne (mem_mz h1 h2 hb) hp)), r.nd⟩
theorem Stp.new (r : SRel K ι w H) {p : Addr} {o : HO} (hp : H p = none) : Stp K ι w H ι w (upd H p o) := ⟨List.prefix_rfl, Go.new hp, r.new hp⟩
/-- a new object of the store -/
theorem Stp.alloc (r : SRel K ι w H) {p : Addr} {o : HO} {u : SO} (hp : H p = none) (hf : footOf [p] u = [p]) (ok : ∀ M, (∀ b, b ∈ M → b = p ∨ b ∈ mz ι w) → SOk K M (upd H p o) [p] u) : Stp K ι w H (ι ++ [[p]]) (w ++ [u]) (upd H p o) := by
  have em : mz (ι ++ [[p]]) (w ++ [u]) = mz ι w ++ [p] := by
    rw [mz_app r.len]
    show mz ι w ++ (footOf [p] u ++ mz [] []) = _
    rw [hf]
    rfl
  have np : p ∉ mz ι w := fun z => r.ne z hp rfl
  have g : Go (mz ι w) H (mz (ι ++ [[p]]) (w ++ [u])) (upd H p o) := fun b x n e => by
    have nb := ne_of_none e hp
    refine ⟨by rw [upd_ne nb]; exact e, fun z => ?_⟩
    rw [em] at z
    rcases List.mem_append.mp z with z | z
    · exact n z
    · exact nb (by simpa using z)
  refine ⟨List.prefix_append _ _, g, ⟨by simp [r.len], fun n l x h1 h2 => ?_, ?_⟩⟩
  · by_cases hn : n < ι.length
    · rw [List.getElem?_append_left hn] at h1
      rw [List.getElem?_append_left (by rw [← r.len]; exact hn)] at h2
      exact (r.ok n l x h1 h2).go g (fun b hb => upd_ne (r.ne (mem_mz h1 h2 hb) hp))
    · have hlt : n < (ι ++ [[p]]).length := (List.getElem?_eq_some_iff.mp h1).1
      rw [List.length_append, List.length_singleton] at hlt
      have e : n = ι.length := by omega
      subst e
      rw [List.getElem?_append_right (Nat.le_refl _), Nat.sub_self] at h1
      rw [List.getElem?_append_right (by rw [r.len]; exact Nat.le_refl _), r.len, Nat.sub_self] at h2
      cases (Option.some.inj h1)
      cases (Option.some.inj h2)
      refine ok _ fun b hb => ?_
      rw [em] at hb
      rcases List.mem_append.mp hb with z | z
      · exact .inr z
      · exact .inl (by simpa using z)
  · rw [em, List.nodup_append]
    exact ⟨r.nd, by simp, fun a ha b hb z => np (by
      have : b = p := by simpa using hb
      rw [← this, ← z]; exact ha)⟩
/-- one object of the store is written: its footprint stays -/
theorem Stp.write (r : SRel K ι w H) {n : Nat} {l : List Addr} {o u : SO} (h1 : ι[n]? = some l) (h2 : w[n]? = some o) (hf : footOf l o = footOf l u) (hg : ∀ b x, b ∉ footOf l o → H b = some x → H1 b = some x)
    (hn : ∀ b, b ∉ footOf l o → H b = none → H1 b = none ∨ True) (ok : SOk K (mz ι w) H1 l u) : Stp K ι w H ι (w.set n u) H1 := by
  have em : mz ι (w.set n u) = mz ι w := mz_set h1 h2 hf
  have g : Go (mz ι w) H (mz ι w) H1 := fun b x nb e => ⟨hg b x (fun z => nb (mem_mz h1 h2 z)) e, nb⟩
  refine ⟨List.prefix_rfl, by rw [em]; exact g, ⟨by simp [r.len], fun m k x g1 g2 => ?_, by rw [em]; exact r.nd⟩⟩
  rw [em]
  by_cases hm : m = n
  · subst hm
    rw [h1] at g1
    cases g1
    rw [List.getElem?_set_self (List.getElem?_eq_some_iff.mp h2).1] at g2
    cases g2
    exact ok
  · rw [List.getElem?_set_ne (Ne.symm hm)] at g2
    have q := r.ok m k x g1 g2
    refine q.go g fun b hb => ?_
    obtain ⟨y, hy⟩ := q.there hb
    rw [hy]
    exact hg b y (fun z => hm (mz_apart r.nd g1 g2 hb h1 h2 z)) hy
/-- an object of the store is given up: it changes no longer -/
theorem Stp.kill (r : SRel K ι w H) (n : Nat) : Stp K ι w H ι (w.set n .dead) H := by
  have sub : ∀ b, b ∈ mz ι (w.set n .dead) → b ∈ mz ι w := fun b hb => mz_dead.subset hb
  have g : Go (mz ι w) H (mz ι (w.set n .dead)) H := Go.less sub
  refine ⟨List.prefix_rfl, g, ⟨by simp [r.len], fun m k x g1 g2 => ?_, r.nd.sublist mz_dead⟩⟩
  by_cases hm : m = n
  · subst hm
    have hl : m < w.length := by
      have := (List.getElem?_eq_some_iff.mp g2).1
      rw [List.length_set] at this
      exact this
    rw [List.getElem?_set_self hl] at g2
    cases g2
    exact True.intro
  · rw [List.getElem?_set_ne (Ne.symm hm)] at g2
    exact (r.ok m k x g1 g2).go g fun _ _ => rfl
end

/-! ### what a def does: Mo -/
inductive Res (α : Type) where
  | ok (a : α)
  | err (c : Nat) (fs : List PyData)
abbrev Mo (α : Type) := Sto → Option (Res α × Sto)
def mPure {α : Type} (a : α) : Mo α := fun w => some (.ok a, w)
def mFail {α : Type} : Mo α := fun _ => none
def mBind {α β : Type} (m : Mo α) (f : α → Mo β) : Mo β := fun w => match m w with
  | none => none
  | some (.err c fs, w') => some (.err c fs, w')
  | some (.ok a, w') => f a w'
abbrev Env := List (Option SV)
/-- how an error that is raised lies: its class, its fields; class and dict; the heap -/
abbrev EAt := List Addr → Hp → Nat → List PyData → Value → Option Addr → Prop
def Hyp {α : Type} (K : PySem.W.Frag) (EA : EAt) (ι : List (List Addr)) (w : Sto) (H : Hp) (r : Option (Res α × Sto)) (P : α → List (List Addr) → Sto → Hp → Prop) (W : Value → Option Addr → Hp → Prop) : Prop :=
  match r with
  | none => False
  | some (.ok a, w') => ∀ ι' H', Stp K ι w H ι' w' H' → P a ι' w' H'
  | some (.err c fs, w') => ∀ ι' H' cls d, Stp K ι w H ι' w' H' → EA (mz ι' w') H' c fs cls d → W cls d H'
section
variable {α β : Type} {K : PySem.W.Frag} {EA : EAt} {ι ι1 : List (List Addr)} {w w1 : Sto} {H H1 : Hp} {P : α → List (List Addr) → Sto → Hp → Prop} {W : Value → Option Addr → Hp → Prop}
theorem Hyp.on {r : Option (Res α × Sto)} (h : Hyp K EA ι w H r P W) (s : Stp K ι w H ι1 w1 H1) : Hyp K EA ι1 w1 H1 r P W := by
  match r, h with
  | some (.ok a, w'), h => exact fun ι' H' t => h ι' H' (s.trans t)
  | some (.err c fs, w'), h => exact fun ι' H' cls d t e => h ι' H' cls d (s.trans t) e
theorem Hyp.imp {r : Option (Res α × Sto)} {P' : α → List (List Addr) → Sto → Hp → Prop} (h : Hyp K EA ι w H r P W) (q : ∀ a ι' w' H', Stp K ι w H ι' w' H' → P a ι' w' H' → P' a ι' w' H') : Hyp K EA ι w H r P' W := by
  match r, h with
  | some (.ok a, w'), h => exact fun ι' H' t => q a ι' w' H' t (h ι' H' t)
  | some (.err c fs, w'), h => exact h
theorem Hyp.bind {m : Mo α} {f : α → Mo β} {P : β → List (List Addr) → Sto → Hp → Prop} (h : Hyp K EA ι w H (mBind m f w) P W) : Hyp K EA ι w H (m w) (fun a ι1 w1 H1 => Hyp K EA ι1 w1 H1 (f a w1) P W) W := by
  unfold mBind at h
  cases e : m w with
  | none => rw [e] at h; exact h
  | some q =>
    obtain ⟨r, w'⟩ := q
    cases r with
    | err c fs => rw [e] at h; exact h
    | ok a =>
      rw [e] at h
      exact fun ι' H' t => Hyp.on h t
theorem Hyp.here {a : α} (h : Hyp K EA ι w H (some (.ok a, w)) P W) (r : SRel K ι w H) : P a ι w H := h ι H (Stp.refl r)
theorem Hyp.pure {a : α} (h : Hyp K EA ι w H (mPure a w) P W) (r : SRel K ι w H) : P a ι w H := h ι H (Stp.refl r)
theorem Hyp.nil {a : Prop} (h : Hyp K EA ι w H (none : Option (Res α × Sto)) P W) : a := h.elim
end

/-! ### the judgements -/
def EnvR (K : PySem.W.Frag) (ι : List (List Addr)) (M : List Addr) (H : Hp) (σ : L2.St) (ρ : Env) : Prop := σ.length = ρ.length ∧ ∀ (i : Nat) (v : SV), ρ[i]? = some (some v) → ∃ V, σ[i]? = some (some V) ∧ VRel K ι M H V v
theorem EnvR.stp {K : PySem.W.Frag} {ι ι1 : List (List Addr)} {w w1 : Sto} {H H1 : Hp} {σ : L2.St} {ρ : Env} (s : Stp K ι w H ι1 w1 H1) (e : EnvR K ι (mz ι w) H σ ρ) : EnvR K ι1 (mz ι1 w1) H1 σ ρ :=
  ⟨e.1, fun i v h => let ⟨V, h1, h2⟩ := e.2 i v h; ⟨V, h1, h2.stp s⟩⟩
theorem EnvR.set {K : PySem.W.Frag} {ι : List (List Addr)} {M : List Addr} {H : Hp} {σ : L2.St} {ρ : Env} {i : Nat} {V : L2.V} {v : SV} (e : EnvR K ι M H σ ρ) (h : VRel K ι M H V v) : EnvR K ι M H (σ.set i (some V)) (ρ.set i (some v)) := by
  refine ⟨by simp [e.1], fun j x hj => ?_⟩
  by_cases hij : i = j
  · subst hij
    have hl : i < ρ.length := by
      have := (List.getElem?_eq_some_iff.mp hj).1
      simpa using this
    rw [List.getElem?_set_self hl] at hj
    cases hj
    exact ⟨V, List.getElem?_set_self (by rw [e.1]; exact hl), h⟩
  · rw [List.getElem?_set_ne hij] at hj ⊢
    exact e.2 j x hj

def PV (Q : VK) : SV → List (List Addr) → PySem.W.Frag → Sto → Hp → Prop := fun v ι' K w' H' => ∀ V, VRel K ι' (mz ι' w') H' V v → Q V H'
/-- an expression, a test, arguments, a statement, a block -/
structure DE (X : Cx) (EA : EAt) (W : WX) (e : Expr) (m : Env → Mo SV) : Prop where
  ex : ∃ t : TE, PE X e t ∧ ∀ ι w σ H ρ Q, SRel X.K ι w H → EnvR X.K ι (mz ι w) H σ ρ → Hyp X.K EA ι w H (m ρ w) (fun v ι' w' H' => ∀ V, VRel X.K ι' (mz ι' w') H' V v → Q V H') (fun cls d H' => W cls d σ H') → t σ H Q
structure DT (X : Cx) (EA : EAt) (W : WX) (e : Expr) (m : Env → Mo Bool) : Prop where
  ex : ∃ t : TT, PT X e t ∧ ∀ ι w σ H ρ Q, SRel X.K ι w H → EnvR X.K ι (mz ι w) H σ ρ → Hyp X.K EA ι w H (m ρ w) (fun b _ _ H' => Q b H') (fun cls d H' => W cls d σ H') → t σ H Q
structure DWt (X : Cx) (EA : EAt) (W : WX) (e : Expr) (m : Env → Mo Bool) : Prop where
  ex : ∃ t : TT, PW X e t ∧ ∀ ι w σ H ρ Q, SRel X.K ι w H → EnvR X.K ι (mz ι w) H σ ρ → Hyp X.K EA ι w H (m ρ w) (fun b _ _ H' => Q b H') (fun cls d H' => W cls d σ H') → t σ H Q
inductive VsR (K : PySem.W.Frag) (ι : List (List Addr)) (M : List Addr) (H : Hp) : List V → List SV → Prop
  | nil : VsR K ι M H [] []
  | cons {v : V} {x : SV} {vs : List V} {xs : List SV} : VRel K ι M H v x → VsR K ι M H vs xs → VsR K ι M H (v :: vs) (x :: xs)
theorem VsR.stp {K : PySem.W.Frag} {ι ι1 : List (List Addr)} {w w1 : Sto} {H H1 : Hp} (s : Stp K ι w H ι1 w1 H1) : ∀ {vs : List V} {xs : List SV}, VsR K ι (mz ι w) H vs xs → VsR K ι1 (mz ι1 w1) H1 vs xs
  | _, _, .nil => .nil
  | _, _, .cons h r => .cons (h.stp s) (r.stp s)
theorem VsR.length {K : PySem.W.Frag} {ι : List (List Addr)} {M : List Addr} {H : Hp} : ∀ {vs : List V} {xs : List SV}, VsR K ι M H vs xs → vs.length = xs.length
  | _, _, .nil => rfl
  | _, _, .cons _ r => congrArg (· + 1) r.length
structure DA (X : Cx) (EA : EAt) (W : WX) (es : List Expr) (m : Env → Mo (List SV)) : Prop where
  ex : ∃ t : TA, PA X es t ∧ ∀ ι w σ H ρ Q, SRel X.K ι w H → EnvR X.K ι (mz ι w) H σ ρ → Hyp X.K EA ι w H (m ρ w) (fun xs ι' w' H' => ∀ Vs, VsR X.K ι' (mz ι' w') H' Vs xs → Q Vs H') (fun cls d H' => W cls d σ H') → t σ H Q
inductive Out where
  | nx (ρ : Env)
  | rt (v : SV)
  | bk (ρ : Env)
  | ct (ρ : Env)
def OutP (X : Cx) (D : Ends) : Out → List (List Addr) → Sto → Hp → Prop
  | .nx ρ, ι, w, H => ∀ σ, EnvR X.K ι (mz ι w) H σ ρ → D.nx σ H
  | .rt v, ι, w, H => ∀ V, VRel X.K ι (mz ι w) H V v → D.rt V H
  | .bk ρ, ι, w, H => ∀ σ, EnvR X.K ι (mz ι w) H σ ρ → D.bk σ H
  | .ct ρ, ι, w, H => ∀ σ, EnvR X.K ι (mz ι w) H σ ρ → D.ct σ H
def WE' (W : WX) : Value → Option Addr → Hp → Prop := fun cls d H' => ∀ σ, W cls d σ H'
/-- the wish of an error does not look at the slots -/
structure DS (X : Cx) (EA : EAt) (W : WX) (st : Stmt) (m : Env → Mo Out) : Prop where
  ex : ∃ t : TS, PS X st t ∧ ∀ ι w σ H ρ D, SRel X.K ι w H → EnvR X.K ι (mz ι w) H σ ρ → Hyp X.K EA ι w H (m ρ w) (OutP X D) (WE' W) → t D σ H
structure DSs (X : Cx) (EA : EAt) (W : WX) (st : List Stmt) (m : Env → Mo Out) : Prop where
  ex : ∃ t : TS, PSs X st t ∧ ∀ ι w σ H ρ D, SRel X.K ι w H → EnvR X.K ι (mz ι w) H σ ρ → Hyp X.K EA ι w H (m ρ w) (OutP X D) (WE' W) → t D σ H
theorem Hyp.wE {α : Type} {K : PySem.W.Frag} {EA : EAt} {ι : List (List Addr)} {w : Sto} {H : Hp} {r : Option (Res α × Sto)} {P : α → List (List Addr) → Sto → Hp → Prop} {W : WX} (h : Hyp K EA ι w H r P (WE' W)) (σ : L2.St) : Hyp K EA ι w H r P (fun cls d H' => W cls d σ H') := by
  match r, h with
  | some (.ok a, w'), h => exact h
  | some (.err c fs, w'), h => exact fun ι' H' cls d s e => h ι' H' cls d s e σ

/-! ### what data an operand holds -/
def kvD (p : Key × PyData) : PyData × PyData := (kD p.1, p.2)
/-- the data that an operand holds now: of the store's own, its content -/
def toD (w : Sto) : SV → Option PyData
  | .dat d => some d
  | .obj n => match w[n]? with
    | some (.lst xs) => some (.list xs)
    | some (.dic kvs) => some (.dict (kvs.map kvD))
    | _ => none
  | .scr ns => some (.list (ns.map .int))
  | .drg n => match w[n]? with
    | some (.draw _ gs _) => some (.list (gs.map .int))
    | _ => none
  | _ => none
/-- a list that stands by itself -/
def toL (w : Sto) : SV → Option (List PyData)
  | .dat (.list ds) => some ds
  | .obj n => match w[n]? with
    | some (.lst xs) => some xs
    | _ => none
  | _ => none
/-- data whose own object may be one that changes -/
def DtP (K : PySem.W.Frag) (M : List Addr) (H : Hp) (v : V) : PyData → Prop
  | .list ds => ∃ a vs, v = .ref a ∧ SqL K H a vs ∧ DtA K M H vs ds
  | .tuple ds => ∃ a vs, v = .ref a ∧ SqT K H a vs ∧ DtA K M H vs ds
  | .dict ds => ∃ a kvs, v = .ref a ∧ H a = some (.dK kvs) ∧ DtK K M H kvs ds
  | .none => v = .non
  | .bool b => v = .bl b
  | .int i => v = .int i
  | .str x => v = .str x
section
variable {K : PySem.W.Frag} {ι : List (List Addr)} {M : List Addr} {w : Sto} {H : Hp} {v : V}
theorem Dt.p : ∀ {d : PyData}, Dt K M H v d → DtP K M H v d
  | .none, h => by cases h; rfl
  | .bool _, h => by cases h; rfl
  | .int _, h => by cases h; rfl
  | .str _, h => by cases h; rfl
  | .list _, h => by
    cases h with
    | lst h n q => exact ⟨_, _, rfl, SqL.of h, q⟩
  | .tuple _, h => by
    cases h with
    | tup h q => exact ⟨_, _, rfl, h.sq, q⟩
  | .dict _, h => by
    cases h with
    | dic h n q => exact ⟨_, _, rfl, h, q⟩
theorem DtK.of : ∀ {kvs : List (Key × V)} {ds : List (Key × PyData)}, kvs.map (·.1) = ds.map (·.1) → DtA K M H (kvs.map (·.2)) (ds.map (·.2)) → DtK K M H kvs (ds.map kvD)
  | [], [], _, _ => .nil
  | [], _ :: _, h, _ => by simp at h
  | _ :: _, [], h, _ => by simp at h
  | (k, v) :: r, (l, d) :: s, h, q => by
    have h' : k = l ∧ r.map (·.1) = s.map (·.1) := by simpa using h
    cases q with
    | cons q1 q2 =>
      obtain ⟨rfl, h2⟩ := h'
      exact .cons q1 (DtK.of h2 q2)
theorem VRel.p {x : SV} {d : PyData} (r : SRel K ι w H) (h : VRel K ι (mz ι w) H v x) (e : toD w x = some d) : DtP K (mz ι w) H v d := by
  cases x with
  | dat y =>
    cases (Option.some.inj e)
    exact Dt.p h
  | obj n =>
    obtain ⟨a, l, h1, rfl⟩ := h
    unfold toD at e
    cases hw : w[n]? with
    | none => simp [hw] at e
    | some o =>
      cases o with
      | lst xs =>
        simp [hw] at e
        subst e
        obtain ⟨b, vs, e1, e2, e3⟩ := r.ok n _ _ h1 hw
        injection e1 with e1 _
        subst e1
        exact ⟨a, vs, rfl, SqL.of e2, e3⟩
      | dic kvs =>
        simp [hw] at e
        subst e
        obtain ⟨b, vs, e1, e2, e3, e4⟩ := r.ok n _ _ h1 hw
        injection e1 with e1 _
        subst e1
        exact ⟨a, vs, rfl, e2, DtK.of e3 e4⟩
      | draw _ _ _ => simp [hw] at e
      | tab _ _ => simp [hw] at e
      | dead => simp [hw] at e
  | scr ns =>
    cases (Option.some.inj e)
    obtain ⟨a, rfl, q⟩ := h
    exact ⟨a, _, rfl, q.sq, DtA.ints ns⟩
  | exc _ => cases e
  | excs _ => cases e
  | drg n =>
    obtain ⟨a, c, h1, rfl⟩ := h
    unfold toD at e
    cases hw : w[n]? with
    | none => simp [hw] at e
    | some o =>
      cases o with
      | draw cs gs k =>
        simp [hw] at e
        subst e
        obtain ⟨a', b', c', e1, e2, e3, e4⟩ := r.ok n _ _ h1 hw
        injection e1 with e1 e5
        injection e5 with e5 _
        subst e1 e5
        exact ⟨c, _, rfl, SqL.of e4, DtA.ints gs⟩
      | _ => simp [hw] at e
theorem VRel.l {x : SV} {ds : List PyData} (r : SRel K ι w H) (h : VRel K ι (mz ι w) H v x) (e : toL w x = some ds) : ∃ a vs, v = .ref a ∧ H a = some (.lst vs) ∧ DtA K (mz ι w) H vs ds := by
  cases x with
  | dat y =>
    cases y with
    | list es =>
      cases (Option.some.inj e)
      cases h with
      | lst h n q => exact ⟨_, _, rfl, h, q⟩
    | _ => cases e
  | obj n =>
    obtain ⟨a, l, h1, rfl⟩ := h
    unfold toL at e
    cases hw : w[n]? with
    | none => simp [hw] at e
    | some o =>
      cases o with
      | lst xs =>
        simp [hw] at e
        subst e
        obtain ⟨b, vs, e1, e2, e3⟩ := r.ok n _ _ h1 hw
        injection e1 with e1 _
        subst e1
        exact ⟨a, vs, rfl, e2, e3⟩
      | _ => simp [hw] at e
  | scr ns => cases e
  | exc _ => cases e
  | excs _ => cases e
  | drg _ => cases e
end
end EG


set_option Elab.async false
set_option linter.all false
set_option maxRecDepth 100000
set_option maxHeartbeats 4000000
namespace EG
open PySem PySem.Spec PyProof.Rows L2

/-! ### the words of Mo -/
def mV (i : Nat) : Env → Mo SV := fun ρ w => match ρ[i]? with
  | some (some v) => some (.ok v, w)
  | _ => none
def mC (d : PyData) : Env → Mo SV := fun _ => mPure (.dat d)
abbrev Op2 := SV → SV → Sto → Option SV
def mBin (ma mb : Env → Mo SV) (g : Op2) : Env → Mo SV := fun ρ => mBind (ma ρ) fun x => mBind (mb ρ) fun y w => (g x y w).map fun v => (.ok v, w)
def mUn (ma : Env → Mo SV) (g : SV → Sto → Option SV) : Env → Mo SV := fun ρ => mBind (ma ρ) fun x w => (g x w).map fun v => (.ok v, w)
/-- a value as a test: a bool | by its truth -/
def mTB (m : Env → Mo SV) : Env → Mo Bool := fun ρ => mBind (m ρ) fun x w => match x with
  | .dat (.bool b) => some (.ok b, w)
  | _ => none
def truD : PyData → Bool
  | .none => false
  | .bool b => b
  | .int i => i != 0
  | .str x => x.length != 0
  | .list xs => !xs.isEmpty
  | .tuple xs => !xs.isEmpty
  | .dict xs => !xs.isEmpty
def shortD : PyData → Bool
  | .str x => decide (x.length ≤ sizeLine)
  | _ => true
def mTr (m : Env → Mo SV) : Env → Mo Bool := fun ρ => mBind (m ρ) fun x w => match toD w x with
  | some d => if shortD d then some (.ok (truD d), w) else none
  | none => none
def mAnd (a b : Env → Mo Bool) : Env → Mo Bool := fun ρ => mBind (a ρ) fun c => if c then b ρ else mPure false
def mOr (a b : Env → Mo Bool) : Env → Mo Bool := fun ρ => mBind (a ρ) fun c => if c then mPure true else b ρ
def mNot (a : Env → Mo Bool) : Env → Mo Bool := fun ρ => mBind (a ρ) fun c => mPure (!c)
def mIf (c : Env → Mo Bool) (a b : Env → Mo SV) : Env → Mo SV := fun ρ => mBind (c ρ) fun k => if k then a ρ else b ρ
/-- x and y, x or y, not x as values, the first a bool -/
def mAndV (a b : Env → Mo SV) : Env → Mo SV := fun ρ => mBind (mTB a ρ) fun c => if c then b ρ else mPure (.dat (.bool false))
def mOrV (a b : Env → Mo SV) : Env → Mo SV := fun ρ => mBind (mTB a ρ) fun c => if c then mPure (.dat (.bool true)) else b ρ
def mNotV (a : Env → Mo SV) : Env → Mo SV := fun ρ => mBind (mTB a ρ) fun c => mPure (.dat (.bool (!c)))
def mNil : Env → Mo (List SV) := fun _ => mPure []
def mCons (a : Env → Mo SV) (r : Env → Mo (List SV)) : Env → Mo (List SV) := fun ρ => mBind (a ρ) fun x => mBind (r ρ) fun xs => mPure (x :: xs)
/-- a op b op' c -/
def mChain (ma mb mc : Env → Mo SV) (g h : Op2) : Env → Mo SV := fun ρ => mBind (ma ρ) fun x => mBind (mb ρ) fun y w => match g x y w with
  | some (.dat (.bool true)) => mBind (mc ρ) (fun z w => (h y z w).map fun v => (.ok v, w)) w
  | some (.dat (.bool false)) => some (.ok (.dat (.bool false)), w)
  | _ => none

/-! ### what the operators do -/
def gI (f : Int → Int → Option PyData) : Op2 := fun x y _ => match x, y with
  | .dat (.int i), .dat (.int j) => (f i j).map .dat
  | _, _ => none
abbrev gAdd : Op2 := gI fun i j => some (.int (i + j))
abbrev gSub : Op2 := gI fun i j => some (.int (i - j))
abbrev gLt : Op2 := gI fun i j => some (.bool (decide (i < j)))
abbrev gLe : Op2 := gI fun i j => some (.bool (decide (i ≤ j)))
abbrev gGt : Op2 := gI fun i j => some (.bool (decide (j < i)))
abbrev gGe : Op2 := gI fun i j => some (.bool (decide (j ≤ i)))
def sm64 (i : Int) : Bool := decide (-(2 ^ 64) < i ∧ i < 2 ^ 64)
abbrev gMul : Op2 := gI fun i j => if sm64 i || sm64 j then some (.int (i * j)) else none
abbrev gMod : Op2 := gI fun i j => if 0 < j then some (.int (i % j)) else none
abbrev gFdiv : Op2 := gI fun i j => if 0 < j ∧ j < 1073741824 then some (.int (i / j)) else none
abbrev gPow : Op2 := gI fun i j => if 0 ≤ j ∧ j ≤ 1000000 ∧ i.natAbs < 2 ^ 64 then some (.int (i ^ j.toNat)) else none
/-- == of data -/
def noDict : PyData → Bool := fun d => !d.hasDict
def eqDD (d e : PyData) : Option Bool := match d, e with
  | .str a, .str b => some (decide (a = b))
  | d, e => if SeqAt.shaped d && SeqAt.shaped e then some (PyData.eqv d e) else none
def gEq : Op2 := fun x y w => match toD w x, toD w y with
  | some d, some e => (eqDD d e).map fun b => .dat (.bool b)
  | _, _ => none
def gNe : Op2 := fun x y w => match toD w x, toD w y with
  | some d, some e => (eqDD d e).map fun b => .dat (.bool (!b))
  | _, _ => none
def gIs (neg : Bool) : Op2 := fun x _ _ => match x with
  | .dat .none => some (.dat (.bool (!neg)))
  | .dat _ => some (.dat (.bool neg))
  | .obj _ => some (.dat (.bool neg))
  | .scr _ => some (.dat (.bool neg))
  | .exc _ => some (.dat (.bool neg))
  | .excs _ => some (.dat (.bool neg))
  | .drg _ => some (.dat (.bool neg))
/-- in a sequence of flat things -/
def flatD : PyData → Bool
  | .none => true
  | .bool _ => true
  | .int _ => true
  | .str _ => true
  | _ => false
def eqF : PyData → PyData → Bool
  | .none, .none => true
  | .bool a, .bool b => a == b
  | .bool a, .int b => (if a then 1 else 0) == b
  | .int a, .bool b => a == (if b then 1 else 0)
  | .int a, .int b => a == b
  | .str a, .str b => a == b
  | _, _ => false
def itemsD : PyData → Option (List PyData)
  | .list xs => some xs
  | .tuple xs => some xs
  | _ => none
def gIn (neg : Bool) : Op2 := fun x y w => match toD w x, (toD w y).bind itemsD with
  | some d, some es => if flatD d && es.all flatD then some (.dat (.bool (if neg then !es.any (fun e => eqF e d) else es.any (fun e => eqF e d)))) else none
  | _, _ => none
/-- in a list of things at any depth -/
def gInD (neg : Bool) : Op2 := fun x y w => match toD w x, toD w y with
  | some d, some (.list es) => if SeqAt.shaped d && SeqAt.shaped (.list es) then some (.dat (.bool (if neg then !es.any (fun z => PyData.eqv z d) else es.any (fun z => PyData.eqv z d)))) else none
  | _, _ => none
/-- xs[i] -/
def atD {α : Type} (xs : List α) (i : Int) : Option α := (ixN xs.length i).bind fun j => xs[j]?
def gIx : Op2 := fun x y w => match (toD w x).bind itemsD, y with
  | some ds, .dat (.int i) => (atD ds i).map .dat
  | _, _ => none
def fitsN (n : Nat) : Bool := decide (n ≤ sizeLine)
/-- t + u, xs + ys -/
def gCat : Op2 := fun x y w => match x, y with
  | .dat (.tuple a), .dat (.tuple b) => if fitsN (a.length + b.length) then some (.dat (.tuple (a ++ b))) else none
  | _, _ => match toL w x, toL w y with
    | some a, some b => if fitsN (a.length + b.length) then some (.dat (.list (a ++ b))) else none
    | _, _ => none

section
variable {X : Cx} {EA : EAt} {W : WX} {a b c : Expr} {ma mb mc : Env → Mo SV} {pos : Pos}

theorem dv (i : Nat) {x : Str} {pos : Pos} (hN : X.N[i]? = some x := by rfl) (hv : Vis X.env.scope x := by first | exact Or.inl rfl | exact Or.inr (Or.inl rfl) | exact Or.inr (Or.inr rfl)) (hd : (x == ("__debug__" : Str)) = false := by decide)
    (hcd : (x == ("__classdict__" : Str)) = false := by decide) : DE X EA W (.Name x pos) (mV i) := by
  refine ⟨tVar i, pv i hN hv hd hcd, fun ι w σ H ρ Q R E h => ?_⟩
  unfold mV at h
  cases e : ρ[i]? with
  | none => rw [e] at h; exact h.elim
  | some q =>
    cases q with
    | none => rw [e] at h; exact h.elim
    | some v =>
      rw [e] at h
      obtain ⟨V, h1, h2⟩ := E.2 i v e
      exact ⟨V, h1, Hyp.here h R V h2⟩
theorem d_int {i j pos} : DE X EA W (.Constant (.int i) j pos) (mC (.int i)) := ⟨_, pe_int, fun ι w σ H ρ Q R E h => Hyp.here h R _ (Dt.int i)⟩
theorem d_bl {i j pos} : DE X EA W (.Constant (.bool i) j pos) (mC (.bool i)) := ⟨_, pe_bl, fun ι w σ H ρ Q R E h => Hyp.here h R _ (Dt.bl i)⟩
theorem d_non {j pos} : DE X EA W (.Constant .none j pos) (mC .none) := ⟨_, pe_non, fun ι w σ H ρ Q R E h => Hyp.here h R _ Dt.non⟩
theorem d_str {i j pos} : DE X EA W (.Constant (.str i) j pos) (mC (.str i)) := ⟨_, pe_str, fun ι w σ H ρ Q R E h => Hyp.here h R _ (Dt.str i)⟩
/-- a constant of the module -/
theorem d_glob {x : Str} {pos : Pos} {v : V} {u : Value} {d : PyData} (hm : X.mg x = some u) (r : RelV v u) (hd : ∀ M H, Dt X.K M H v d) (hg : Gl X x := by rfl) (hdb : (x == ("__debug__" : Str)) = false := by decide) : DE X EA W (.Name x pos) (mC d) :=
  ⟨_, pe_glob hg hm r hdb, fun ι w σ H ρ Q R E h => Hyp.here h R _ (hd _ _)⟩

def OpS (K : PySem.W.Frag) (r : R2) (g : Op2) : Prop := ∀ ι w H vx vy x y v Q, SRel K ι w H → VRel K ι (mz ι w) H vx x → VRel K ι (mz ι w) H vy y → g x y w = some v → (∀ H', Stp K ι w H ι w H' → ∀ V, VRel K ι (mz ι w) H' V v → Q V H') → r vx vy H Q
theorem OpS.run {K : PySem.W.Frag} {r : R2} {g : Op2} (s : OpS K r g) {ι : List (List Addr)} {w : Sto} {H : Hp} {vx vy : V} {x y : SV} {Q : VK} {W : Value → Option Addr → Hp → Prop} (R : SRel K ι w H) (hx : VRel K ι (mz ι w) H vx x) (hy : VRel K ι (mz ι w) H vy y)
    (h : Hyp K EA ι w H ((g x y w).map fun v => (Res.ok v, w)) (fun v ι' w' H' => ∀ V, VRel K ι' (mz ι' w') H' V v → Q V H') W) : r vx vy H Q := by
  cases e : g x y w with
  | none => rw [e] at h; exact h.elim
  | some v =>
    rw [e] at h
    exact s ι w H vx vy x y v Q R hx hy e fun H' st V rv => h ι H' st V rv
theorem two {α : Type} {R : V → V → Hp → Prop} {ta tb : TE} {f : SV → SV → Mo α} {ι : List (List Addr)} {w : Sto} {H : Hp} {σ : L2.St} {ρ : Env} {Pf : α → List (List Addr) → Sto → Hp → Prop}
    (sa : ∀ ι w σ H ρ Q, SRel X.K ι w H → EnvR X.K ι (mz ι w) H σ ρ → Hyp X.K EA ι w H (ma ρ w) (fun v ι' w' H' => ∀ V, VRel X.K ι' (mz ι' w') H' V v → Q V H') (fun cls d H' => W cls d σ H') → ta σ H Q)
    (sb : ∀ ι w σ H ρ Q, SRel X.K ι w H → EnvR X.K ι (mz ι w) H σ ρ → Hyp X.K EA ι w H (mb ρ w) (fun v ι' w' H' => ∀ V, VRel X.K ι' (mz ι' w') H' V v → Q V H') (fun cls d H' => W cls d σ H') → tb σ H Q)
    (S : SRel X.K ι w H) (E : EnvR X.K ι (mz ι w) H σ ρ) (h : Hyp X.K EA ι w H (mBind (ma ρ) (fun x => mBind (mb ρ) fun y => f x y) w) Pf (fun cls d H' => W cls d σ H'))
    (k : ∀ ι2 w2 H2 vx vy x y, Stp X.K ι w H ι2 w2 H2 → VRel X.K ι2 (mz ι2 w2) H2 vx x → VRel X.K ι2 (mz ι2 w2) H2 vy y → Hyp X.K EA ι2 w2 H2 (f x y w2) Pf (fun cls d H' => W cls d σ H') → R vx vy H2) :
    ta σ H fun x H1 => tb σ H1 fun y H2 => R x y H2 := by
  refine sa ι w σ H ρ _ S E ((Hyp.bind h).imp fun x ι1 w1 H1 s1 h1 V1 r1 => ?_)
  refine sb ι1 w1 σ H1 ρ _ s1.rel (E.stp s1) ((Hyp.bind h1).imp fun y ι2 w2 H2 s2 h2 V2 r2 => ?_)
  exact k ι2 w2 H2 V1 V2 x y (s1.trans s2) (r1.stp s2) r2 h2
theorem de_op {op : Operator} {r : R2} {g : Op2} (ho : OpR X (binaryOp op) r) (hs : OpS X.K r g) (ha : DE X EA W a ma) (hb : DE X EA W b mb) : DE X EA W (.BinOp a op b pos) (mBin ma mb g) := by
  obtain ⟨ta, pa, sa⟩ := ha.ex
  obtain ⟨tb, pb, sb⟩ := hb.ex
  refine ⟨tOp r ta tb, pe_op ho pa pb, fun ι w σ H ρ Q R E h => ?_⟩
  exact two (R := fun x y H2 => r x y H2 Q) sa sb R E h fun ι2 w2 H2 vx vy x y s rx ry h2 => hs.run s.rel rx ry h2
theorem de_cmp {op : CmpOp} {r : R2} {g : Op2} (ho : OpR X (compareOp op) r) (hs : OpS X.K r g) (ha : DE X EA W a ma) (hb : DE X EA W b mb) (hm : behindInMarks op b = false := by first | exact nomark _ | rfl) : DE X EA W (.Compare a [op] [b] pos) (mBin ma mb g) := by
  obtain ⟨ta, pa, sa⟩ := ha.ex
  obtain ⟨tb, pb, sb⟩ := hb.ex
  refine ⟨tOp r ta tb, pe_cmpR ho pa pb hm, fun ι w σ H ρ Q R E h => ?_⟩
  exact two (R := fun x y H2 => r x y H2 Q) sa sb R E h fun ι2 w2 H2 vx vy x y s rx ry h2 => hs.run s.rel rx ry h2
theorem dt_cmp {op : CmpOp} {r : R2} {g : Op2} (ho : OpR X (compareOp op) r) (hs : OpS X.K r g) (ha : DE X EA W a ma) (hb : DE X EA W b mb) (hm : behindInMarks op b = false := by first | exact nomark _ | rfl) : DT X EA W (.Compare a [op] [b] pos) (mTB (mBin ma mb g)) := by
  obtain ⟨ta, pa, sa⟩ := ha.ex
  obtain ⟨tb, pb, sb⟩ := hb.ex
  refine ⟨tTest (tOp r ta tb), pt_cmpR ho pa pb hm, fun ι w σ H ρ Q R E h => ?_⟩
  have h' := Hyp.bind h
  exact two (R := fun x y H2 => r x y H2 fun z H3 => ∃ k, z = .bl k ∧ Q k H3) sa sb R E h' fun ι2 w2 H2 vx vy x y s rx ry h2 => hs.run (EA := EA) s.rel rx ry (h2.imp fun v ι3 w3 H3 s3 h3 V rv => by
    cases v with
    | dat d =>
      cases d with
      | bool k =>
        cases rv
        exact ⟨k, rfl, Hyp.here h3 s3.rel⟩
      | _ => exact h3.elim
    | _ => exact h3.elim)
theorem de_chain {op op' : CmpOp} {r r' : R2} {g g' : Op2} (ho : OpR X (compareOp op) r) (hs : OpS X.K r g) (ho' : OpR X (compareOp op') r') (hs' : OpS X.K r' g') (ha : DE X EA W a ma) (hb : DE X EA W b mb) (hc : DE X EA W c mc)
    (hm : lastMarks [op, op'] [b, c] = false := by with_unfolding_all rfl) : DE X EA W (.Compare a [op, op'] [b, c] pos) (mChain ma mb mc g g') := by
  obtain ⟨ta, pa, sa⟩ := ha.ex
  obtain ⟨tb, pb, sb⟩ := hb.ex
  obtain ⟨tc, pc, sc⟩ := hc.ex
  refine ⟨tChain r r' ta tb tc, pe_chain ho ho' pa pb pc hm, fun ι w σ H ρ Q R E h => ?_⟩
  refine two (R := fun x y H2 => r x y H2 fun z H3 => ∃ k, z = .bl k ∧ (if k = true then tc σ H3 fun w' H4 => r' y w' H4 Q else Q (.bl false) H3)) sa sb R E h fun ι2 w2 H2 vx vy x y s rx ry h2 => ?_
  cases e : g x y w2 with
  | none => simp only [e] at h2; exact h2.elim
  | some v =>
    refine hs _ _ _ _ _ _ _ v _ s.rel rx ry e fun H3 s3 V rv => ?_
    simp only [e] at h2
    cases v with
    | dat d =>
      cases d with
      | bool k =>
        cases rv
        refine ⟨k, rfl, ?_⟩
        cases k with
        | false =>
          refine iteF ?_
          exact (h2.on s3).here s3.rel _ (Dt.bl false)
        | true =>
          refine iteT ?_
          refine sc _ _ σ H3 ρ _ s3.rel ((E.stp s).stp s3) ((Hyp.bind (h2.on s3)).imp fun z ι4 w4 H4 s4 h4 V4 r4 => ?_)
          exact hs'.run s4.rel ((ry.stp s3).stp s4) r4 h4
      | _ => exact h2.elim
    | _ => exact h2.elim
theorem dt_chain {op op' : CmpOp} {r r' : R2} {g g' : Op2} (ho : OpR X (compareOp op) r) (hs : OpS X.K r g) (ho' : OpR X (compareOp op') r') (hs' : OpS X.K r' g') (ha : DE X EA W a ma) (hb : DE X EA W b mb) (hc : DE X EA W c mc)
    (hm : lastMarks [op, op'] [b, c] = false := by with_unfolding_all rfl) : DT X EA W (.Compare a [op, op'] [b, c] pos) (mTB (mChain ma mb mc g g')) := by
  obtain ⟨ta, pa, sa⟩ := ha.ex
  obtain ⟨tb, pb, sb⟩ := hb.ex
  obtain ⟨tc, pc, sc⟩ := hc.ex
  refine ⟨tTest (tChain r r' ta tb tc), pt_chain ho ho' pa pb pc hm, fun ι w σ H ρ Q R E h0 => ?_⟩
  have h := Hyp.bind h0
  refine two (R := fun x y H2 => r x y H2 fun z H3 => ∃ k, z = .bl k ∧ (if k = true then tc σ H3 fun w' H4 => r' y w' H4 (fun z H5 => ∃ k, z = .bl k ∧ Q k H5) else (∃ k, V.bl false = .bl k ∧ Q k H3))) sa sb R E h fun ι2 w2 H2 vx vy x y s rx ry h2 => ?_
  cases e : g x y w2 with
  | none => simp only [e] at h2; exact h2.elim
  | some v =>
    refine hs _ _ _ _ _ _ _ v _ s.rel rx ry e fun H3 s3 V rv => ?_
    simp only [e] at h2
    cases v with
    | dat d =>
      cases d with
      | bool k =>
        cases rv
        refine ⟨k, rfl, ?_⟩
        cases k with
        | false =>
          refine iteF ?_
          exact ⟨false, rfl, ((h2.on s3).here s3.rel).here s3.rel⟩
        | true =>
          refine iteT ?_
          refine sc _ _ σ H3 ρ _ s3.rel ((E.stp s).stp s3) ((Hyp.bind (h2.on s3)).imp fun z ι4 w4 H4 s4 h4 V4 r4 => ?_)
          refine hs'.run (EA := EA) s4.rel ((ry.stp s3).stp s4) r4 (h4.imp fun v ι5 w5 H5 s5 h5 V5 rv5 => ?_)
          cases v with
          | dat d =>
            cases d with
            | bool k =>
              cases rv5
              exact ⟨k, rfl, Hyp.here h5 s5.rel⟩
            | _ => exact h5.elim
          | _ => exact h5.elim
      | _ => exact h2.elim
    | _ => exact h2.elim

/-! ### the operators' rules -/
variable {K : PySem.W.Frag}
theorem os_I {C : Int → Int → Prop} {g : Int → Int → V} {f : Int → Int → Option PyData} (hf : ∀ i j d, f i j = some d → C i j ∧ ∀ M H, Dt K M H (g i j) d) : OpS K (rI C g) (gI f) := by
  intro ι w H vx vy x y v Q R rx ry e k
  cases x with
  | dat d =>
    cases d with
    | int i =>
      cases y with
      | dat d =>
        cases d with
        | int j =>
          cases rx
          cases ry
          have e' : (f i j).map SV.dat = some v := e
          cases q : f i j with
          | none => rw [q] at e'; cases e'
          | some d =>
            rw [q] at e'
            cases e'
            obtain ⟨c, r⟩ := hf i j d q
            exact ⟨i, j, rfl, rfl, c, k H (Stp.refl R) _ (r _ _)⟩
        | _ => cases e
      | _ => cases e
    | _ => cases e
  | _ => cases e
theorem os_I0 {g : Int → Int → V} {f : Int → Int → Option PyData} (hf : ∀ i j d, f i j = some d → ∀ M H, Dt K M H (g i j) d) : OpS K (rI0 g) (gI f) := by
  intro ι w H vx vy x y v Q R rx ry e k
  obtain ⟨i, j, e1, e2, _, q⟩ := os_I (C := fun _ _ => True) (g := g) (fun i j d h => ⟨True.intro, hf i j d h⟩) ι w H vx vy x y v Q R rx ry e k
  exact ⟨i, j, e1, e2, q⟩
theorem os_add : OpS K (rI0 fun i j => .int (i + j)) gAdd := os_I0 fun i j d h _ _ => by cases h; exact Dt.int _
theorem os_sub : OpS K (rI0 fun i j => .int (i - j)) gSub := os_I0 fun i j d h _ _ => by cases h; exact Dt.int _
theorem os_lt : OpS K (rI0 fun i j => .bl (decide (i < j))) gLt := os_I0 fun i j d h _ _ => by cases h; exact Dt.bl _
theorem os_le : OpS K (rI0 fun i j => .bl (decide (i ≤ j))) gLe := os_I0 fun i j d h _ _ => by cases h; exact Dt.bl _
theorem os_gt : OpS K (rI0 fun i j => .bl (decide (j < i))) gGt := os_I0 fun i j d h _ _ => by cases h; exact Dt.bl _
theorem os_ge : OpS K (rI0 fun i j => .bl (decide (j ≤ i))) gGe := os_I0 fun i j d h _ _ => by cases h; exact Dt.bl _
theorem os_mul : OpS K (rI CMul fun i j => .int (i * j)) gMul := os_I fun i j d h => by
  by_cases c : (sm64 i || sm64 j) = true
  · rw [if_pos c] at h
    cases h
    refine ⟨?_, fun _ _ => Dt.int _⟩
    rcases Bool.or_eq_true_iff.mp c with z | z
    · exact .inl (of_decide_eq_true z)
    · exact .inr (of_decide_eq_true z)
  · rw [if_neg c] at h; cases h
theorem os_mod : OpS K (rI (fun _ j => 0 < j) fun i j => .int (i % j)) gMod := os_I fun i j d h => by
  by_cases c : 0 < j
  · rw [if_pos c] at h; cases h; exact ⟨c, fun _ _ => Dt.int _⟩
  · rw [if_neg c] at h; cases h
theorem os_fdiv : OpS K (rI CDiv fun i j => .int (i / j)) gFdiv := os_I fun i j d h => by
  by_cases c : 0 < j ∧ j < 1073741824
  · rw [if_pos c] at h; cases h; exact ⟨c, fun _ _ => Dt.int _⟩
  · rw [if_neg c] at h; cases h
theorem os_pow : OpS K (rI CPow fun i j => .int (i ^ j.toNat)) gPow := os_I fun i j d h => by
  by_cases c : 0 ≤ j ∧ j ≤ 1000000 ∧ i.natAbs < 2 ^ 64
  · rw [if_pos c] at h; cases h; exact ⟨c, fun _ _ => Dt.int _⟩
  · rw [if_neg c] at h; cases h

/-! == -/
mutual
theorem dp_of {M : List Addr} {H : Hp} : ∀ {d : PyData} {v : V}, Dt K M H v d → noDict d = true → Dp K H v d
  | .none, _, h, _ => by cases h; exact .non
  | .bool b, _, h, _ => by cases h; exact .bl b
  | .int b, _, h, _ => by cases h; exact .int b
  | .str b, _, h, _ => by cases h; exact .str b
  | .list ds, _, h, n => by
    cases h with
    | lst h _ q => exact .lst (SqL.of h) (dpa_of q (by simpa [noDict, PyData.hasDict] using n))
  | .tuple ds, _, h, n => by
    cases h with
    | tup h q => exact .tup h.sq (dpa_of q (by simpa [noDict, PyData.hasDict] using n))
  | .dict ds, _, h, n => by simp [noDict, PyData.hasDict] at n
theorem dpa_of {M : List Addr} {H : Hp} : ∀ {ds : List PyData} {vs : List V}, DtA K M H vs ds → PyData.hasDictAll ds = false → DpAll K H vs ds
  | [], _, h, _ => by cases h; exact .nil
  | d :: ds, _, h, n => by
    have n' : d.hasDict = false ∧ PyData.hasDictAll ds = false := by simpa [PyData.hasDictAll] using n
    cases h with
    | cons h1 h2 => exact .cons (dp_of h1 (by simp [noDict, n'.1])) (dpa_of h2 n'.2)
end
theorem DtP.dp {M : List Addr} {H : Hp} {v : V} : ∀ {d : PyData}, DtP K M H v d → noDict d = true → Dp K H v d
  | .none, h, _ => by have h' : v = .non := h; rw [h']; exact .non
  | .bool b, h, _ => by have h' : v = .bl b := h; rw [h']; exact .bl b
  | .int b, h, _ => by have h' : v = .int b := h; rw [h']; exact .int b
  | .str b, h, _ => by have h' : v = .str b := h; rw [h']; exact .str b
  | .list ds, h, n => by
    obtain ⟨a, vs, rfl, h1, h2⟩ := h
    exact .lst h1 (dpa_of h2 (by simpa [noDict, PyData.hasDict] using n))
  | .tuple ds, h, n => by
    obtain ⟨a, vs, rfl, h1, h2⟩ := h
    exact .tup h1 (dpa_of h2 (by simpa [noDict, PyData.hasDict] using n))
  | .dict ds, h, n => by simp [noDict, PyData.hasDict] at n
theorem noDict_of {d : PyData} (h : SeqAt.shaped d = true) : noDict d = true := by
  unfold noDict
  rw [PyData.hasDict_of_canLay d (SeqAt.canLay_of_shaped h)]
  rfl
theorem eqDD_ok {M : List Addr} {H : Hp} {vx vy : V} {d e : PyData} {b : Bool} {Q : Bool → Prop} (hx : DtP K M H vx d) (hy : DtP K M H vy e) (h : eqDD d e = some b) (q : Q b) :
    (∃ d e, Dp K H vx d ∧ Dp K H vy e ∧ SeqAt.shaped d = true ∧ SeqAt.shaped e = true ∧ Q (PyData.eqv d e)) ∨ (scal vx vy = true ∧ Q (decide (vx = vy))) := by
  have gen : (if SeqAt.shaped d && SeqAt.shaped e then some (PyData.eqv d e) else none) = some b → (∃ d e, Dp K H vx d ∧ Dp K H vy e ∧ SeqAt.shaped d = true ∧ SeqAt.shaped e = true ∧ Q (PyData.eqv d e)) := fun h => by
    by_cases c : (SeqAt.shaped d && SeqAt.shaped e) = true
    · rw [if_pos c] at h
      cases h
      simp only [Bool.and_eq_true] at c
      exact ⟨d, e, hx.dp (noDict_of c.1), hy.dp (noDict_of c.2), c.1, c.2, q⟩
    · rw [if_neg c] at h; cases h
  cases d with
  | str a =>
    cases e with
    | str b' =>
      have hx' : vx = .str a := hx
      have hy' : vy = .str b' := hy
      subst hx' hy'
      have h' : some (decide (a = b')) = some b := h
      cases h'
      refine .inr ⟨rfl, ?_⟩
      have e : decide (V.str a = V.str b') = decide (a = b') := by
        by_cases z : a = b'
        · subst z; simp
        · simp [z]
      rw [e]
      exact q
    | _ => exact .inl (gen h)
  | _ => exact .inl (gen h)
theorem os_eq : OpS K (fun x y H Q => rEqD K x y H Q ∨ rEq x y H Q) gEq := by
  intro ι w H vx vy x y v Q R rx ry e k
  unfold gEq at e
  cases e1 : toD w x with
  | none => simp [e1] at e
  | some d =>
    cases e2 : toD w y with
    | none => simp [e1, e2] at e
    | some d2 =>
      simp only [e1, e2] at e
      cases c : eqDD d d2 with
      | none => rw [c] at e; cases e
      | some b =>
        rw [c] at e
        cases e
        exact eqDD_ok (Q := fun b => Q (.bl b) H) (rx.p R e1) (ry.p R e2) c (k H (Stp.refl R) _ (Dt.bl _))
theorem os_ne : OpS K (fun x y H Q => rNeD K x y H Q ∨ rNe x y H Q) gNe := by
  intro ι w H vx vy x y v Q R rx ry e k
  unfold gNe at e
  cases e1 : toD w x with
  | none => simp [e1] at e
  | some d =>
    cases e2 : toD w y with
    | none => simp [e1, e2] at e
    | some d2 =>
      simp only [e1, e2] at e
      cases c : eqDD d d2 with
      | none => rw [c] at e; cases e
      | some b =>
        rw [c] at e
        cases e
        exact eqDD_ok (Q := fun b => Q (.bl (!b)) H) (rx.p R e1) (ry.p R e2) c (k H (Stp.refl R) _ (Dt.bl _))
/-! is None -/
theorem os_isN {neg : Bool} {r : R2} (hr : ∀ x H Q, Q (.bl (if neg then !decide (x = V.non) else decide (x = V.non))) H → r x .non H Q) : OpS K r (fun x y w => match y with | .dat .none => gIs neg x y w | _ => none) := by
  intro ι w H vx vy x y v Q R rx ry e k
  cases y with
  | dat d =>
    cases d with
    | none =>
      cases ry
      have e : gIs neg x (.dat .none) w = some v := e
      refine hr vx H Q ?_
      have go : ∀ bb, v = .dat (.bool bb) → decide (vx = V.non) = (if neg then !bb else bb) → Q (.bl (if neg then !decide (vx = V.non) else decide (vx = V.non))) H := fun bb e1 e2 => by
        subst e1
        rw [e2]
        have e3 : (if neg = true then !(if neg = true then !bb else bb) else (if neg = true then !bb else bb)) = bb := by cases neg <;> cases bb <;> rfl
        rw [e3]
        exact k H (Stp.refl R) _ (Dt.bl _)
      cases x with
      | dat d =>
        cases d with
        | none => cases rx; cases e; exact go _ rfl (by cases neg <;> rfl)
        | bool _ => cases rx; cases e; exact go _ rfl (by cases neg <;> rfl)
        | int _ => cases rx; cases e; exact go _ rfl (by cases neg <;> rfl)
        | str _ => cases rx; cases e; exact go _ rfl (by cases neg <;> rfl)
        | list _ => cases rx; cases e; exact go _ rfl (by cases neg <;> rfl)
        | tuple _ => cases rx; cases e; exact go _ rfl (by cases neg <;> rfl)
        | dict _ => cases rx; cases e; exact go _ rfl (by cases neg <;> rfl)
      | obj n =>
        obtain ⟨a, l, _, rfl⟩ := rx
        cases e
        exact go _ rfl (by cases neg <;> rfl)
      | scr n =>
        obtain ⟨a, rfl, _⟩ := rx
        cases e
        exact go _ rfl (by cases neg <;> rfl)
      | exc n =>
        obtain ⟨a, _, _, rfl, _⟩ := rx
        cases e
        exact go _ rfl (by cases neg <;> rfl)
      | excs n =>
        obtain ⟨a, _, rfl, _⟩ := rx
        cases e
        exact go _ rfl (by cases neg <;> rfl)
      | drg n =>
        obtain ⟨a, _, _, rfl⟩ := rx
        cases e
        exact go _ rfl (by cases neg <;> rfl)
    | _ => cases e
  | _ => cases e
/-! in -/
theorem flat_v {M : List Addr} {H : Hp} {v : V} {d : PyData} (h : Dt K M H v d) (f : flatD d = true) : flatV v = true := by
  cases h with
  | lst _ _ _ => exact absurd (show false = true from f) Bool.false_ne_true
  | tup _ _ => exact absurd (show false = true from f) Bool.false_ne_true
  | dic _ _ _ => exact absurd (show false = true from f) Bool.false_ne_true
  | _ => rfl
theorem flat_p {M : List Addr} {H : Hp} {v : V} : ∀ {d : PyData}, DtP K M H v d → flatD d = true → Dt K M H v d
  | .none, h, _ => by have h' : v = .non := h; rw [h']; exact .non
  | .bool b, h, _ => by have h' : v = .bl b := h; rw [h']; exact .bl b
  | .int b, h, _ => by have h' : v = .int b := h; rw [h']; exact .int b
  | .str b, h, _ => by have h' : v = .str b := h; rw [h']; exact .str b
  | .list ds, h, n => by cases n
  | .tuple ds, h, n => by cases n
  | .dict ds, h, n => by cases n
theorem eqF_v {M : List Addr} {H : Hp} {v u : V} {d e : PyData} (h : Dt K M H v d) (g : Dt K M H u e) (f : flatD d = true) (f' : flatD e = true) : eqV v u = eqF d e := by
  cases h with
  | lst _ _ _ => exact absurd (show false = true from f) Bool.false_ne_true
  | tup _ _ => exact absurd (show false = true from f) Bool.false_ne_true
  | dic _ _ _ => exact absurd (show false = true from f) Bool.false_ne_true
  | _ =>
    cases g with
    | lst _ _ _ => exact absurd (show false = true from f') Bool.false_ne_true
    | tup _ _ => exact absurd (show false = true from f') Bool.false_ne_true
    | dic _ _ _ => exact absurd (show false = true from f') Bool.false_ne_true
    | _ => rfl
theorem flat_all {M : List Addr} {H : Hp} : ∀ {vs : List V} {ds : List PyData}, DtA K M H vs ds → ds.all flatD = true → vs.all flatV = true
  | _, _, .nil, _ => rfl
  | _, _, .cons h r, f => by
    simp only [List.all_cons, Bool.and_eq_true] at f ⊢
    exact ⟨flat_v h f.1, flat_all r f.2⟩
theorem inF_v {M : List Addr} {H : Hp} {v : V} {d : PyData} (h : Dt K M H v d) (f : flatD d = true) : ∀ {vs : List V} {ds : List PyData}, DtA K M H vs ds → ds.all flatD = true → inV v vs = ds.any fun e => eqF e d
  | _, _, .nil, _ => rfl
  | _, _, .cons g r, f' => by
    simp only [List.all_cons, Bool.and_eq_true] at f'
    show (eqV _ v || inV v _) = (eqF _ d || _)
    rw [eqF_v g h f'.1 f, inF_v h f r f'.2]
theorem VRel.items {ι : List (List Addr)} {w : Sto} {H : Hp} {v : V} {x : SV} {ds : List PyData} (R : SRel K ι w H) (rx : VRel K ι (mz ι w) H v x) (e : (toD w x).bind itemsD = some ds) : ∃ a vs, v = .ref a ∧ (SqL K H a vs ∨ SqT K H a vs) ∧ DtA K (mz ι w) H vs ds := by
  cases q : toD w x with
  | none => rw [q] at e; cases e
  | some d =>
    rw [q] at e
    have p := rx.p R q
    cases d with
    | list xs =>
      cases e
      obtain ⟨a, vs, h1, h2, h3⟩ := p
      exact ⟨a, vs, h1, .inl h2, h3⟩
    | tuple xs =>
      cases e
      obtain ⟨a, vs, h1, h2, h3⟩ := p
      exact ⟨a, vs, h1, .inr h2, h3⟩
    | _ => cases e
theorem os_in {neg : Bool} : OpS K (rIn K neg) (gIn neg) := by
  intro ι w H vx vy x y v Q R rx ry e k
  unfold gIn at e
  cases e1 : toD w x with
  | none => simp [e1] at e
  | some d =>
    cases e2 : (toD w y).bind itemsD with
    | none => simp [e1, e2] at e
    | some es =>
      simp only [e1, e2] at e
      by_cases c : (flatD d && es.all flatD) = true
      · rw [if_pos c] at e
        cases e
        simp only [Bool.and_eq_true] at c
        obtain ⟨a, vs, rfl, h1, h2⟩ := ry.items R e2
        have dx := flat_p (rx.p R e1) c.1
        refine ⟨a, vs, rfl, h1, flat_v dx c.1, flat_all h2 c.2, ?_⟩
        rw [inF_v dx c.1 h2 c.2]
        exact k H (Stp.refl R) _ (Dt.bl _)
      · rw [if_neg c] at e; cases e
/-! an item, a concatenation -/
theorem atD_of {M : List Addr} {H : Hp} {vs : List V} {ds : List PyData} {i : Int} {d : PyData} (h : DtA K M H vs ds) (e : atD ds i = some d) : ∃ v, atI vs i = some v ∧ Dt K M H v d := by
  unfold atD at e
  unfold atI
  rw [h.length]
  cases q : ixN ds.length i with
  | none => rw [q] at e; cases e
  | some j =>
    rw [q] at e
    exact h.getD e
theorem os_ixL {r : R2} (hr : ∀ x y H Q, (rIxL K x y H Q ∨ rIxT K x y H Q) → r x y H Q) : OpS K r gIx := by
  intro ι w H vx vy x y v Q R rx ry e k
  unfold gIx at e
  cases e1 : (toD w x).bind itemsD with
  | none => simp [e1] at e
  | some ds =>
    cases y with
    | dat d =>
      cases d with
      | int i =>
        simp only [e1] at e
        cases q : atD ds i with
        | none => rw [q] at e; cases e
        | some d =>
          rw [q] at e
          cases e
          cases ry
          obtain ⟨a, vs, rfl, h1, h2⟩ := rx.items R e1
          obtain ⟨z, h3, h4⟩ := atD_of h2 q
          refine hr _ _ _ _ ?_
          rcases h1 with h1 | h1
          · exact .inl ⟨a, vs, i, z, rfl, rfl, h1, h3, k H (Stp.refl R) _ h4⟩
          · exact .inr ⟨a, vs, i, z, rfl, rfl, h1, h3, k H (Stp.refl R) _ h4⟩
      | _ => simp [e1] at e
    | _ => simp [e1] at e
theorem ST.tup {M : List Addr} {H : Hp} {v : V} {ds : List PyData} (h : Dt K M H v (.tuple ds)) : ∃ a vs, v = .ref a ∧ ST K M H a vs ∧ DtA K M H vs ds := by
  cases h with
  | tup h q => exact ⟨_, _, rfl, h, q⟩
theorem os_cat : OpS K (fun x y H Q => rCatA K x y H Q ∨ rCat x y H Q) gCat := by
  intro ι w H vx vy x y v Q R rx ry e k
  have ls : (match toL w x, toL w y with | some a, some b => if fitsN (a.length + b.length) then some (SV.dat (.list (a ++ b))) else none | _, _ => none) = some v → rCatA K vx vy H Q ∨ rCat vx vy H Q := fun e => by
    cases e1 : toL w x with
    | none => simp [e1] at e
    | some a =>
      cases e2 : toL w y with
      | none => simp [e1, e2] at e
      | some b =>
        simp only [e1, e2] at e
        by_cases c : fitsN (a.length + b.length) = true
        · rw [if_pos c] at e
          cases e
          obtain ⟨p, vs, rfl, h1, h2⟩ := rx.l R e1
          obtain ⟨q, us, rfl, h3, h4⟩ := ry.l R e2
          refine .inr ⟨p, q, vs, us, rfl, rfl, h1, h3, by rw [h2.length, h4.length]; exact of_decide_eq_true c, fun z hz => ?_⟩
          refine k _ (Stp.new R hz) _ (Dt.lst upd_same (fun m => R.ne m hz rfl) ?_)
          exact (h2.app h4).go (Go.new hz)
        · rw [if_neg c] at e; cases e
  unfold gCat at e
  cases x with
  | dat d =>
    cases d with
    | tuple a =>
      cases y with
      | dat d2 =>
        cases d2 with
        | tuple b =>
          have e : (if fitsN (a.length + b.length) then some (SV.dat (.tuple (a ++ b))) else none) = some v := e
          by_cases c : fitsN (a.length + b.length) = true
          · rw [if_pos c] at e
            cases e
            obtain ⟨p, vs, rfl, h1, h2⟩ := ST.tup rx
            obtain ⟨q, us, rfl, h3, h4⟩ := ST.tup ry
            refine .inl ⟨p, q, vs, us, rfl, rfl, h1.sq, h3.sq, by rw [h2.length, h4.length]; exact of_decide_eq_true c, fun hx => ?_, fun hx hy => ?_, fun hx hy z hz => ?_⟩
            · subst hx
              cases h2
              exact k H (Stp.refl R) _ (Dt.tup h3 h4)
            · subst hy
              cases h4
              rw [List.append_nil] at k
              exact k H (Stp.refl R) _ (Dt.tup h1 h2)
            · refine k _ (Stp.new R hz) _ (Dt.tup (.inl ⟨.inl upd_same, fun m => R.ne m hz rfl⟩) ?_)
              exact (h2.app h4).go (Go.new hz)
          · rw [if_neg c] at e; cases e
        | _ => exact ls e
      | _ => exact ls e
    | _ => exact ls e
  | _ => exact ls e
end
end EG


set_option Elab.async false
set_option linter.all false
set_option maxRecDepth 100000
set_option maxHeartbeats 4000000
namespace EG
open PySem PySem.Spec PyProof.Rows L2

/-! ### giving up: an object of the store becomes plain data -/
def fz1 : SV → Sto → Option (PyData × Sto)
  | .dat d, w => some (d, w)
  | .obj n, w => match w[n]? with
    | some (.lst xs) => some (.list xs, w.set n .dead)
    | some (.dic kvs) => some (.dict (kvs.map kvD), w.set n .dead)
    | _ => none
  | _, _ => none
def fzs : List SV → Sto → Option (List PyData × Sto)
  | [], w => some ([], w)
  | x :: xs, w => match fz1 x w with
    | some (d, w1) => match fzs xs w1 with
      | some (ds, w2) => some (d :: ds, w2)
      | none => none
    | none => none
section
variable {K : PySem.W.Frag} {ι : List (List Addr)} {w w' : Sto} {H : Hp}
theorem gone {n : Nat} {l : List Addr} {o : SO} {b : Addr} (r : SRel K ι w H) (h1 : ι[n]? = some l) (h2 : w[n]? = some o) (hb : b ∈ footOf l o) : b ∉ mz ι (w.set n .dead) := fun z => by
  obtain ⟨m, k, u, g1, g2, g3⟩ := of_mz z
  by_cases hm : m = n
  · subst hm
    rw [List.getElem?_set_self (List.getElem?_eq_some_iff.mp h2).1] at g2
    cases g2
    exact absurd g3 (by simp [footOf])
  · rw [List.getElem?_set_ne (Ne.symm hm)] at g2
    exact hm (mz_apart r.nd g1 g2 g3 h1 h2 hb)
theorem fz1_ok {v : V} {x : SV} {d : PyData} (r : SRel K ι w H) (h : VRel K ι (mz ι w) H v x) (e : fz1 x w = some (d, w')) : Stp K ι w H ι w' H ∧ Dt K (mz ι w') H v d := by
  cases x with
  | dat y =>
    cases (Option.some.inj e)
    exact ⟨Stp.refl r, h⟩
  | obj n =>
    obtain ⟨a, l, h1, rfl⟩ := h
    unfold fz1 at e
    cases hw : w[n]? with
    | none => simp [hw] at e
    | some o =>
      have s := Stp.kill r n
      have q := r.ok n _ _ h1 hw
      cases o with
      | lst xs =>
        simp [hw] at e
        obtain ⟨rfl, rfl⟩ := e
        have g := gone (b := a) r h1 hw (by simp [footOf])
        obtain ⟨b, vs, e1, e2, e3⟩ := q
        injection e1 with e1 _
        subst e1
        exact ⟨s, .lst e2 g (e3.go s.go)⟩
      | dic kvs =>
        simp [hw] at e
        obtain ⟨rfl, rfl⟩ := e
        have g := gone (b := a) r h1 hw (by simp [footOf])
        obtain ⟨b, vs, e1, e2, e3, e4⟩ := q
        injection e1 with e1 _
        subst e1
        exact ⟨s, .dic e2 g (DtK.of e3 (e4.go s.go))⟩
      | draw _ _ _ => simp [hw] at e
      | tab _ _ => simp [hw] at e
      | dead => simp [hw] at e
  | scr _ => cases e
  | exc _ => cases e
  | excs _ => cases e
  | drg _ => cases e
theorem fzs_ok : ∀ {xs : List SV} {vs : List V} {ds : List PyData} {w w' : Sto}, SRel K ι w H → VsR K ι (mz ι w) H vs xs → fzs xs w = some (ds, w') → Stp K ι w H ι w' H ∧ DtA K (mz ι w') H vs ds
  | [], _, _, _, _, r, h, e => by
    cases h
    cases (Option.some.inj e)
    exact ⟨Stp.refl r, .nil⟩
  | x :: xs, _, ds, w, w', r, h, e => by
    cases h with
    | cons h1 h2 =>
      unfold fzs at e
      cases e1 : fz1 x w with
      | none => rw [e1] at e; cases e
      | some p =>
        obtain ⟨d, w1⟩ := p
        rw [e1] at e
        simp only at e
        cases e2 : fzs xs w1 with
        | none => rw [e2] at e; cases e
        | some q =>
          obtain ⟨es, w2⟩ := q
          rw [e2] at e
          simp only at e
          cases (Option.some.inj e)
          obtain ⟨s1, q1⟩ := fz1_ok r h1 e1
          obtain ⟨s2, q2⟩ := fzs_ok s1.rel (h2.stp s1) e2
          exact ⟨s1.trans s2, .cons (q1.go s2.go) q2⟩
end

/-! ### tests, and, or, not -/
section
variable {X : Cx} {EA : EAt} {W : WX} {a b c : Expr} {rest : List Expr} {ma mb mc : Env → Mo SV} {ta tb : Env → Mo Bool} {pos : Pos}
theorem dt_val (ha : DE X EA W a ma) (he : ∀ whole, isTrue a X.env whole = (do let v ← whole; standAt a.pos; holding [v] (truthy v)) := by intro _; rfl) : DT X EA W a (mTB ma) := by
  obtain ⟨t, p, s⟩ := ha.ex
  refine ⟨tB t, pt_val p he, fun ι w σ H ρ Q R E h => ?_⟩
  refine s ι w σ H ρ _ R E ((Hyp.bind h).imp fun x ι1 w1 H1 s1 h1 V rv => ?_)
  cases x with
  | dat d =>
    cases d with
    | bool k =>
      cases rv
      exact ⟨k, rfl, Hyp.here h1 s1.rel⟩
    | _ => exact h1.elim
  | _ => exact h1.elim
theorem tru_p {K : PySem.W.Frag} {M : List Addr} {H : Hp} {v : V} : ∀ {d : PyData}, DtP K M H v d → shortD d = true → TruV K v H (truD d)
  | .none, h, _ => by have h' : v = .non := h; rw [h']; rfl
  | .bool b, h, _ => by have h' : v = .bl b := h; rw [h']; rfl
  | .int b, h, _ => by have h' : v = .int b := h; rw [h']; rfl
  | .str b, h, n => by
    have h' : v = .str b := h
    rw [h']
    refine ⟨of_decide_eq_true n, ?_⟩
    show (b.length != 0) = ((b.length : Int) != 0)
    by_cases e : b.length = 0
    · rw [e]; rfl
    · have e2 : ((b.length : Int) != 0) = true := by simp; exact e
      rw [e2]
      simp [e]
  | .list ds, h, n => by
    obtain ⟨a, vs, rfl, h1, h2⟩ := h
    refine .inl ⟨vs, h1, ?_⟩
    show (!ds.isEmpty) = !vs.isEmpty
    cases h2 <;> rfl
  | .tuple ds, h, n => by
    obtain ⟨a, vs, rfl, h1, h2⟩ := h
    refine .inr (.inl ⟨vs, h1, ?_⟩)
    show (!ds.isEmpty) = !vs.isEmpty
    cases h2 <;> rfl
  | .dict ds, h, n => by
    obtain ⟨a, vs, rfl, h1, h2⟩ := h
    refine .inr (.inr ⟨vs, h1, ?_⟩)
    show (!ds.isEmpty) = !vs.isEmpty
    cases h2 <;> rfl
theorem dt_tr (ha : DE X EA W a ma) (he : ∀ whole, isTrue a X.env whole = (do let v ← whole; standAt a.pos; holding [v] (truthy v)) := by intro _; rfl) : DT X EA W a (mTr ma) := by
  obtain ⟨t, p, s⟩ := ha.ex
  refine ⟨_, pt_truth p he, fun ι w σ H ρ Q R E h => ?_⟩
  refine s ι w σ H ρ _ R E ((Hyp.bind h).imp fun x ι1 w1 H1 s1 h1 V rv => ?_)
  cases e : toD w1 x with
  | none => simp only [e] at h1; exact h1.elim
  | some d =>
    simp only [e] at h1
    by_cases c : shortD d = true
    · rw [if_pos c] at h1
      exact ⟨truD d, tru_p (rv.p s1.rel e) c, Hyp.here h1 s1.rel⟩
    · rw [if_neg c] at h1; exact h1.elim
theorem dw_and1 (ha : DT X EA W a ta) : DWt X EA W (.BoolOp .And [a] pos) ta := by
  obtain ⟨t, p, s⟩ := ha.ex
  exact ⟨t, pw_and1 p, s⟩
theorem dw_or1 (ha : DT X EA W a ta) : DWt X EA W (.BoolOp .Or [a] pos) ta := by
  obtain ⟨t, p, s⟩ := ha.ex
  exact ⟨t, pw_or1 p, s⟩
theorem dw_and (ha : DT X EA W a ta) (hb : DWt X EA W (.BoolOp .And (b :: rest) pos) tb) : DWt X EA W (.BoolOp .And (a :: b :: rest) pos) (mAnd ta tb) := by
  obtain ⟨t, p, s⟩ := ha.ex
  obtain ⟨u, q, z⟩ := hb.ex
  refine ⟨tAnd t u, pw_and p q, fun ι w σ H ρ Q R E h => ?_⟩
  refine s ι w σ H ρ _ R E ((Hyp.bind h).imp fun k ι1 w1 H1 s1 h1 => ?_)
  cases k with
  | true => exact z _ _ σ H1 ρ Q s1.rel (E.stp s1) h1
  | false => exact Hyp.here h1 s1.rel
theorem dw_or (ha : DT X EA W a ta) (hb : DWt X EA W (.BoolOp .Or (b :: rest) pos) tb) : DWt X EA W (.BoolOp .Or (a :: b :: rest) pos) (mOr ta tb) := by
  obtain ⟨t, p, s⟩ := ha.ex
  obtain ⟨u, q, z⟩ := hb.ex
  refine ⟨tOr t u, pw_or p q, fun ι w σ H ρ Q R E h => ?_⟩
  refine s ι w σ H ρ _ R E ((Hyp.bind h).imp fun k ι1 w1 H1 s1 h1 => ?_)
  cases k with
  | true => exact Hyp.here h1 s1.rel
  | false => exact z _ _ σ H1 ρ Q s1.rel (E.stp s1) h1
theorem dt_w {e : Expr} (h : DWt X EA W e ta) : DT X EA W e ta := by
  obtain ⟨t, p, s⟩ := h.ex
  exact ⟨t, p.pt, s⟩
theorem dt_not (ha : DT X EA W a ta) : DT X EA W (.UnaryOp .Not a pos) (mNot ta) := by
  obtain ⟨t, p, s⟩ := ha.ex
  refine ⟨tNot t, pt_not p, fun ι w σ H ρ Q R E h => ?_⟩
  exact s ι w σ H ρ _ R E ((Hyp.bind h).imp fun k ι1 w1 H1 s1 h1 => Hyp.here h1 s1.rel)
theorem de_one {op} (ha : DE X EA W a ma) : DE X EA W (.BoolOp op [a] pos) ma := by
  obtain ⟨t, p, s⟩ := ha.ex
  exact ⟨t, pe_one p, s⟩
theorem boolOf {K : PySem.W.Frag} {ι : List (List Addr)} {w : Sto} {σ : L2.St} {H : Hp} {ρ : Env} {P : Bool → Hp → Prop} {Pf : Bool → List (List Addr) → Sto → Hp → Prop} {t : TE}
    (s : ∀ ι w σ H ρ Q, SRel K ι w H → EnvR K ι (mz ι w) H σ ρ → Hyp K EA ι w H (ma ρ w) (fun v ι' w' H' => ∀ V, VRel K ι' (mz ι' w') H' V v → Q V H') (fun cls d H' => W cls d σ H') → t σ H Q)
    (R : SRel K ι w H) (E : EnvR K ι (mz ι w) H σ ρ) (h : Hyp K EA ι w H (mTB ma ρ w) Pf (fun cls d H' => W cls d σ H')) (k : ∀ b ι1 w1 H1, Stp K ι w H ι1 w1 H1 → Pf b ι1 w1 H1 → P b H1) :
    t σ H fun x H1 => ∃ c, x = .bl c ∧ P c H1 := by
  refine s ι w σ H ρ _ R E ((Hyp.bind h).imp fun x ι1 w1 H1 s1 h1 V rv => ?_)
  cases x with
  | dat d =>
    cases d with
    | bool b =>
      cases rv
      exact ⟨b, rfl, k b ι1 w1 H1 s1 (Hyp.here h1 s1.rel)⟩
    | _ => exact h1.elim
  | _ => exact h1.elim
theorem de_and (ha : DE X EA W a ma) (hb : DE X EA W (.BoolOp .And (b :: rest) pos) mb) : DE X EA W (.BoolOp .And (a :: b :: rest) pos) (mAndV ma mb) := by
  obtain ⟨t, p, s⟩ := ha.ex
  obtain ⟨u, q, z⟩ := hb.ex
  refine ⟨tAndV t u, L2.pe_and p q, fun ι w σ H ρ Q R E h => ?_⟩
  refine boolOf (P := fun c H1 => if c = true then u σ H1 Q else Q (.bl false) H1) s R E (Hyp.bind h) fun c ι1 w1 H1 s1 h1 => ?_
  cases c with
  | true => exact iteT (z _ _ σ H1 ρ Q s1.rel (E.stp s1) h1)
  | false => exact iteF (Hyp.here h1 s1.rel _ (Dt.bl false))
theorem de_or (ha : DE X EA W a ma) (hb : DE X EA W (.BoolOp .Or (b :: rest) pos) mb) : DE X EA W (.BoolOp .Or (a :: b :: rest) pos) (mOrV ma mb) := by
  obtain ⟨t, p, s⟩ := ha.ex
  obtain ⟨u, q, z⟩ := hb.ex
  refine ⟨tOrV t u, L2.pe_or p q, fun ι w σ H ρ Q R E h => ?_⟩
  refine boolOf (P := fun c H1 => if c = true then Q (.bl true) H1 else u σ H1 Q) s R E (Hyp.bind h) fun c ι1 w1 H1 s1 h1 => ?_
  cases c with
  | true => exact iteT (Hyp.here h1 s1.rel _ (Dt.bl true))
  | false => exact iteF (z _ _ σ H1 ρ Q s1.rel (E.stp s1) h1)
theorem de_not (ha : DE X EA W a ma) : DE X EA W (.UnaryOp .Not a pos) (mNotV ma) := by
  obtain ⟨t, p, s⟩ := ha.ex
  refine ⟨tNotV t, L2.pe_not p, fun ι w σ H ρ Q R E h => ?_⟩
  exact boolOf (P := fun c H1 => Q (.bl (!c)) H1) s R E (Hyp.bind h) fun c ι1 w1 H1 s1 h1 => Hyp.here h1 s1.rel _ (Dt.bl _)
theorem de_if (hc : DT X EA W c ta) (ha : DE X EA W a ma) (hb : DE X EA W b mb) : DE X EA W (.IfExp c a b pos) (mIf ta ma mb) := by
  obtain ⟨t, p, s⟩ := hc.ex
  obtain ⟨u, q, z⟩ := ha.ex
  obtain ⟨u', q', z'⟩ := hb.ex
  refine ⟨tIf t u u', pe_ifExp p q q', fun ι w σ H ρ Q R E h => ?_⟩
  refine s ι w σ H ρ _ R E ((Hyp.bind h).imp fun k ι1 w1 H1 s1 h1 => ?_)
  cases k with
  | true => exact iteT (z _ _ σ H1 ρ Q s1.rel (E.stp s1) h1)
  | false => exact iteF (z' _ _ σ H1 ρ Q s1.rel (E.stp s1) h1)

/-! ### arguments, displays -/
theorem da_nil : DA X EA W [] mNil := ⟨tNil, pa_nil, fun ι w σ H ρ Q R E h => Hyp.here h R _ .nil⟩
theorem da_cons {e : Expr} {es : List Expr} {m : Env → Mo SV} {mr : Env → Mo (List SV)} (ha : DE X EA W e m) (hr : DA X EA W es mr) (hs : starEach (e :: es) X.env = (false, eval e X.env) :: starEach es X.env := by rfl) : DA X EA W (e :: es) (mCons m mr) := by
  obtain ⟨t, p, s⟩ := ha.ex
  obtain ⟨u, q, z⟩ := hr.ex
  refine ⟨tCons t u, pa_cons p q hs, fun ι w σ H ρ Q R E h => ?_⟩
  refine s ι w σ H ρ _ R E ((Hyp.bind h).imp fun x ι1 w1 H1 s1 h1 V rv => ?_)
  refine z _ _ σ H1 ρ _ s1.rel (E.stp s1) ((Hyp.bind h1).imp fun xs ι2 w2 H2 s2 h2 Vs rs => ?_)
  exact Hyp.here h2 s2.rel _ (.cons (rv.stp s2) rs)
/-- a tuple, a list of written items; a list that may change -/
def mTup (m : Env → Mo (List SV)) : Env → Mo SV := fun ρ => mBind (m ρ) fun xs w => match fzs xs w with
  | some (ds, w') => if fitsN ds.length then some (.ok (.dat (.tuple ds)), w') else none
  | none => none
def mLst (m : Env → Mo (List SV)) : Env → Mo SV := fun ρ => mBind (m ρ) fun xs w => match fzs xs w with
  | some (ds, w') => if fitsN ds.length then some (.ok (.dat (.list ds)), w') else none
  | none => none
def mLstO (m : Env → Mo (List SV)) : Env → Mo SV := fun ρ => mBind (m ρ) fun xs w => match fzs xs w with
  | some (ds, w') => if fitsN ds.length then some (.ok (.obj w'.length), w' ++ [.lst ds]) else none
  | none => none
theorem Stp.newLst {K : PySem.W.Frag} {ι : List (List Addr)} {w : Sto} {H : Hp} {p : Addr} {vs : List V} {ds : List PyData} (r : SRel K ι w H) (hp : H p = none) (q : DtA K (mz ι w) H vs ds) :
    Stp K ι w H (ι ++ [[p]]) (w ++ [.lst ds]) (upd H p (.lst vs)) :=
  Stp.alloc r hp rfl fun M hM => ⟨p, vs, rfl, upd_same, q.go (fun b o nb e => by
    have ne := ne_of_none e hp
    refine ⟨by rw [upd_ne ne]; exact e, fun z => ?_⟩
    rcases hM b z with z | z
    · exact ne z
    · exact nb z)⟩
theorem VRel.last {K : PySem.W.Frag} {ι : List (List Addr)} {w : Sto} {M : List Addr} {H : Hp} {p : Addr} (e : ι.length = w.length) : VRel K (ι ++ [[p]]) M H (.ref p) (.obj w.length) :=
  ⟨p, [], by rw [List.getElem?_append_right (by rw [e]; exact Nat.le_refl _), e, Nat.sub_self]; rfl, rfl⟩
variable {es : List Expr} {ml : Env → Mo (List SV)}
theorem de_tup {x1} (ha : DA X EA W es ml) : DE X EA W (.Tuple es x1 pos) (mTup ml) := by
  obtain ⟨t, p, s⟩ := ha.ex
  refine ⟨tTup t, pe_tup p, fun ι w σ H ρ Q R E h => ?_⟩
  refine s ι w σ H ρ _ R E ((Hyp.bind h).imp fun xs ι1 w1 H1 s1 h1 Vs rs => ?_)
  cases e : fzs xs w1 with
  | none => simp only [e] at h1; exact h1.elim
  | some q =>
    obtain ⟨ds, w2⟩ := q
    obtain ⟨s2, q2⟩ := fzs_ok s1.rel rs e
    simp only [e] at h1
    by_cases c : fitsN ds.length = true
    · rw [if_pos c] at h1
      refine ⟨by rw [q2.length]; exact of_decide_eq_true c, fun z hz => ?_⟩
      have s3 := Stp.new (o := .tup Vs) s2.rel hz
      exact h1 _ _ (s2.trans s3) _ (Dt.tup (.inl ⟨.inl upd_same, fun m => s2.rel.ne m hz rfl⟩) (q2.go s3.go))
    · rw [if_neg c] at h1; exact h1.elim
theorem de_lst (ha : DA X EA W es ml) : DE X EA W (.List es pos) (mLst ml) := by
  obtain ⟨t, p, s⟩ := ha.ex
  refine ⟨tLst t, pe_lst p, fun ι w σ H ρ Q R E h => ?_⟩
  refine s ι w σ H ρ _ R E ((Hyp.bind h).imp fun xs ι1 w1 H1 s1 h1 Vs rs => ?_)
  cases e : fzs xs w1 with
  | none => simp only [e] at h1; exact h1.elim
  | some q =>
    obtain ⟨ds, w2⟩ := q
    obtain ⟨s2, q2⟩ := fzs_ok s1.rel rs e
    simp only [e] at h1
    by_cases c : fitsN ds.length = true
    · rw [if_pos c] at h1
      refine ⟨by rw [q2.length]; exact of_decide_eq_true c, fun z hz => ?_⟩
      have s3 := Stp.new (o := .lst Vs) s2.rel hz
      exact h1 _ _ (s2.trans s3) _ (Dt.lst upd_same (fun m => s2.rel.ne m hz rfl) (q2.go s3.go))
    · rw [if_neg c] at h1; exact h1.elim
theorem de_lstO (ha : DA X EA W es ml) : DE X EA W (.List es pos) (mLstO ml) := by
  obtain ⟨t, p, s⟩ := ha.ex
  refine ⟨tLst t, pe_lst p, fun ι w σ H ρ Q R E h => ?_⟩
  refine s ι w σ H ρ _ R E ((Hyp.bind h).imp fun xs ι1 w1 H1 s1 h1 Vs rs => ?_)
  cases e : fzs xs w1 with
  | none => simp only [e] at h1; exact h1.elim
  | some q =>
    obtain ⟨ds, w2⟩ := q
    obtain ⟨s2, q2⟩ := fzs_ok s1.rel rs e
    simp only [e] at h1
    by_cases c : fitsN ds.length = true
    · rw [if_pos c] at h1
      refine ⟨by rw [q2.length]; exact of_decide_eq_true c, fun z hz => ?_⟩
      exact h1 _ _ (s2.trans (Stp.newLst s2.rel hz q2)) _ (VRel.last s2.rel.len)
    · rw [if_neg c] at h1; exact h1.elim
end
end EG


set_option Elab.async false
set_option linter.all false
set_option maxRecDepth 100000
set_option maxHeartbeats 4000000
namespace EG
open PySem PySem.Spec PyProof.Rows L2

/-! ### repr of data at any depth -/
section
variable {X : Cx} {pins : List (Addr × Obj)} {σ : L2.St} {H : Hp} {s : Shared} {M : List Addr}
/-- a dict's object: its entries -/
theorem dic_obj {a : Addr} {kvs : List (Key × V)} (I : Inv X pins σ H s) (h : H a = some (.dK kvs)) : ∃ o es ep vs, s.heap.get? a = some o ∧ o.cls = .type "dict" ∧ o.data = .dict es ep ∧ (a == sysModules) = false ∧ KV kvs vs ∧ Pairs (mixKind X.prog X.w) es.toList vs := by
  obtain ⟨_, hs, vs, rel, o, es, ep, h1, h2, h3, _, h5, _⟩ := I.hok a _ h
  exact ⟨o, es, ep, vs, h1, h2.1, h3, hs, rel, h5⟩
theorem key_rel {k : Key} {u : Value} (h : keyIs k u = true) : RelV (kV k) u := by
  rcases keyIs_shape h with ⟨i, t, rfl, rfl⟩ | ⟨x, t, rfl, rfl⟩
  · exact ⟨t, rfl⟩
  · exact ⟨t, rfl⟩
theorem dt_key {K : PySem.W.Frag} (k : Key) : Dt K M H (kV k) (kD k) := by
  cases k with
  | inl i => exact Dt.int i
  | inr x => exact Dt.str x
/-- the two rows of a dict's entries -/
theorem rows_of : ∀ {kvs : List (Key × V)} {ds : List (PyData × PyData)} {vs : List (Key × Value)} {es : List DictEntry}, DtK X.K M H kvs ds → KV kvs vs → Pairs (mixKind X.prog X.w) es vs →
    DtA X.K M H (kvs.map fun p => kV p.1) (ds.map (·.1)) ∧ Vals (kvs.map fun p => kV p.1) (es.map (·.key)) ∧ DtA X.K M H (kvs.map (·.2)) (ds.map (·.2)) ∧ Vals (kvs.map (·.2)) (es.map (·.val))
  | [], [], _, _, _, q, p => by
    cases q
    cases p
    exact ⟨.nil, .nil, .nil, .nil⟩
  | (k, v) :: r, (_, d) :: ds, _, _, h, q, p => by
    cases h with
    | cons h1 h2 =>
      cases q with
      | cons q1 q2 =>
        cases p with
        | cons p1 p2 p3 =>
          obtain ⟨a1, a2, a3, a4⟩ := rows_of h2 q2 p3
          obtain ⟨e1, e2⟩ := q1
          have z1 : keyIs k _ = true := e1 ▸ p1
          have z2 := e2
          rw [← p2] at z2
          exact ⟨.cons (dt_key k) a1, .cons (key_rel z1) a2, .cons h1 a3, .cons z2 a4⟩
/-- what the library's rules of repr ask of a value -/
def RKd (X : Cx) (s : Shared) (u : Value) (d : PyData) : Prop := ∃ as bs, Reads s.heap u d as ∧ ReadAtMost s.heap d.depth bs ∧ ReprK X.prog X.w bs s.heap d.depth u d.shown
def RKs (X : Cx) (s : Shared) (us : List Value) (ds : List PyData) : Prop :=
  ∃ as bs, ReadsAll s.heap us ds as ∧ ReadAtMost s.heap (PyData.depthAll ds) bs ∧ ReprAllK X.prog X.w bs s.heap (PyData.depthAll ds) us (PyData.shownAll ds)
/-- .. of a list, a tuple, a dict whose parts have it -/
theorem rk_list {a : Addr} {o : Obj} {its : List Value} {n : Nat} {ds : List PyData} (ho : s.heap.get? a = some o) (hc : o.cls = .type "list") (hd : o.data = .seq its.toArray n) (R : RKs X s its ds) :
    ∃ as bs, Reads s.heap (.ref a) (.list ds) as ∧ ReadAtMost s.heap (PyData.depthAll ds) bs ∧ a ∉ bs ∧ ReprAllK X.prog X.w bs s.heap (PyData.depthAll ds) its (PyData.shownAll ds) := by
  obtain ⟨as, bs, r1, r2, r3⟩ := R
  have rd : Reads s.heap (.ref a) (.list ds) (a :: as) := Reads.list ho hc hd (by simpa using r1)
  exact ⟨_, bs, rd, r2, not_mem_of_deeper rd (by simp only [PyData.depth]; omega) r2, r3⟩
theorem rk_tuple {a : Addr} {o : Obj} {its : List Value} {n : Nat} {ds : List PyData} (ho : s.heap.get? a = some o) (hc : o.cls = .type "tuple") (hd : o.data = .seq its.toArray n) (R : RKs X s its ds) :
    ∃ as bs, Reads s.heap (.ref a) (.tuple ds) as ∧ ReadAtMost s.heap (PyData.depthAll ds) bs ∧ a ∉ bs ∧ ReprAllK X.prog X.w bs s.heap (PyData.depthAll ds) its (PyData.shownAll ds) := by
  obtain ⟨as, bs, r1, r2, r3⟩ := R
  have rd : Reads s.heap (.ref a) (.tuple ds) as := Reads.tuple ho hc hd (by simpa using r1)
  exact ⟨_, bs, rd, r2, not_mem_of_deeper rd (by simp only [PyData.depth]; omega) r2, r3⟩
theorem rk_dict {a : Addr} {o : Obj} {es : Array DictEntry} {n : Nat} {kvs : List (PyData × PyData)} (ho : s.heap.get? a = some o) (hc : o.cls = .type "dict") (hd : o.data = .dict es n) (R1 : RKs X s (es.toList.map (·.key)) (kvs.map (·.1))) (R2 : RKs X s (es.toList.map (·.val)) (kvs.map (·.2))) :
    ∃ as bs ps, Reads s.heap (.ref a) (.dict kvs) as ∧ ReadAtMost s.heap (PyData.depthKv kvs) bs ∧ a ∉ bs ∧ ReprEntriesK X.prog X.w bs s.heap (PyData.depthKv kvs) es.toList ps ∧ (PyData.dict kvs).shown = dictText ps := by
  obtain ⟨as, b1, r1, r2, r3⟩ := R1
  obtain ⟨as', b2, q1, q2, q3⟩ := R2
  have rd := Reads.dict ho hc hd r1 q1
  have le1 := PyData.depthAll_keys_le kvs
  have le2 := PyData.depthAll_vals_le kvs
  have both : ReadAtMost s.heap (PyData.depthKv kvs) (b1 ++ b2) := (r2.mono le1).append (q2.mono le2)
  refine ⟨_, b1 ++ b2, _, rd, both, not_mem_of_deeper rd (by simp only [PyData.depth]; omega) both, ReprEntriesK.of_two es.toList _ _ (r3.more_le (fun b hb => List.mem_append_left _ hb) le1) (q3.more_le (fun b hb => List.mem_append_right _ hb) le2), ?_⟩
  simp only [PyData.shown, PyData.shownKv_eq]
theorem all_len {ds : List PyData} {n : Nat} (h : ∀ t ∈ PyData.shownAll ds, t.length ≤ n) {d : PyData} {r : List PyData} (e : ds = d :: r) : d.shown.length ≤ n ∧ ∀ t ∈ PyData.shownAll r, t.length ≤ n := by
  subst e
  simp only [PyData.shownAll] at h
  exact ⟨h _ List.mem_cons_self, fun t ht => h t (List.mem_cons_of_mem _ ht)⟩
mutual
theorem rk (I : Inv X pins σ H s) : ∀ (d : PyData) (v : V) (u : Value), Dt X.K M H v d → RelV v u → d.showable = true → d.shown.length ≤ sizeLine → RKd X s u d
  | .none, _, _, h, r, _, _ => by
    cases h
    cases r
    exact ⟨_, [], Reads.none, (fun _ z => nomatch z), by simp only [PyData.shown]; exact ReprK.of_is ReprIs.none _ _ _⟩
  | .bool b, _, _, h, r, _, _ => by
    cases h
    cases r
    exact ⟨_, [], Reads.bool b, (fun _ z => nomatch z), by simp only [PyData.shown]; exact ReprK.of_is (ReprIs.bool b) _ _ _⟩
  | .int i, _, _, h, r, hs, _ => by
    cases h
    obtain ⟨t, rfl⟩ := r
    exact ⟨_, [], Reads.int i t, (fun _ z => nomatch z), by simp only [PyData.shown]; exact ReprK.of_is (ReprIs.int t (by simpa [PyData.showable] using hs)) _ _ _⟩
  | .str x, _, _, h, r, _, hz => by
    cases h
    obtain ⟨t, rfl⟩ := r
    exact ⟨_, [], Reads.str x t, (fun _ z => nomatch z), by simp only [PyData.shown]; exact ReprK.of_is (ReprIs.str x t (by simpa only [PyData.shown] using hz)) _ _ _⟩
  | .list ds, _, _, h, r, hs, hz => by
    cases h with
    | lst h _ q =>
      cases r
      obtain ⟨its, rv, ⟨o, n, ho, hc, _, hd⟩, _⟩ := I.list (SqL.of h)
      have hz' : (listText (PyData.shownAll ds)).length ≤ sizeLine := by simpa only [PyData.shown] using hz
      obtain ⟨as, bs, r1, r2, r3, r4⟩ := rk_list ho hc hd (rks I ds _ its q rv (by simpa [PyData.showable] using hs) fun t ht => Nat.le_trans (listText_mem_le ht) hz')
      refine ⟨as, _ :: bs, r1, ReadAtMost.cons r1 (by simp only [PyData.depth]; omega) r2, ?_⟩
      simp only [PyData.depth, PyData.shown]
      cases its with
      | nil =>
        cases ds with
        | nil =>
          simp only [PyData.shownAll, listText_nil]
          exact ReprK.listEmpty ho hc hd
        | cons _ _ => simp only [PyData.shownAll] at r4; cases r4
      | cons y ys => exact ReprK.list ho hc hd r3 (by simpa using r4.length_eq) fun i z e => r4.item i z (by simpa using e)
  | .tuple ds, _, _, h, r, hs, hz => by
    cases h with
    | tup h q =>
      cases r
      obtain ⟨its, rv, ⟨o, ho, hc, n, hd⟩, _⟩ := I.tuple h.sq
      have hz' : (tupleText (PyData.shownAll ds)).length ≤ sizeLine := by simpa only [PyData.shown] using hz
      obtain ⟨as, bs, r1, r2, r3, r4⟩ := rk_tuple ho hc hd (rks I ds _ its q rv (by simpa [PyData.showable] using hs) fun t ht => Nat.le_trans (tupleText_mem_le ht) hz')
      refine ⟨as, _ :: bs, r1, ReadAtMost.cons r1 (by simp only [PyData.depth]; omega) r2, ?_⟩
      simp only [PyData.depth, PyData.shown]
      exact ReprK.tuple ho hc hd r3 (by simpa using r4)
  | .dict kvs, _, _, h, r, hs, hz => by
    cases h with
    | dic h _ q =>
      cases r
      obtain ⟨o, es, ep, vs, ho, hc, hd, hsm, rel, pr⟩ := dic_obj I h
      obtain ⟨a1, a2, a3, a4⟩ := rows_of q rel pr
      obtain ⟨hs1, hs2⟩ := PyData.showableKv_split kvs (by simpa [PyData.showable] using hs)
      have hz' : (dictText (PyData.shownKv kvs)).length ≤ sizeLine := by simpa only [PyData.shown] using hz
      have both := rkv I kvs _ _ _ _ a1 a2 a3 a4 hs1 hs2
        (fun t ht => let ⟨p, hp, hl⟩ := PyData.shownKv_key_le kvs t ht; Nat.le_trans hl (Nat.le_trans (dictText_mem_le hp) hz'))
        (fun t ht => let ⟨p, hp, hl⟩ := PyData.shownKv_val_le kvs t ht; Nat.le_trans hl (Nat.le_trans (dictText_mem_le hp) hz'))
      obtain ⟨as, bs, ps, r1, r2, r3, r4, r5⟩ := rk_dict ho hc hd both.1 both.2
      refine ⟨as, _ :: bs, r1, ReadAtMost.cons r1 (by simp only [PyData.depth]; omega) r2, ?_⟩
      rw [r5]
      simp only [PyData.depth]
      exact ReprK.dict ho hc hd hsm r3 r4
theorem rks (I : Inv X pins σ H s) : ∀ (ds : List PyData) (vs : List V) (us : List Value), DtA X.K M H vs ds → Vals vs us → PyData.showableAll ds = true → (∀ t ∈ PyData.shownAll ds, t.length ≤ sizeLine) → RKs X s us ds
  | [], _, _, h, r, _, _ => by
    cases h
    cases r
    exact ⟨_, [], ReadsAll.nil, (fun _ z => nomatch z), by simp only [PyData.shownAll]; exact .nil⟩
  | d :: ds, _, _, h, r, hs, hz => by
    have hs' : d.showable = true ∧ PyData.showableAll ds = true := by simpa [PyData.showableAll] using hs
    obtain ⟨z1, z2⟩ := all_len hz rfl
    cases h with
    | cons h1 h2 =>
      cases r with
      | cons r1 r2 =>
        obtain ⟨as, b1, p1, p2, p3⟩ := rk I d _ _ h1 r1 hs'.1 z1
        obtain ⟨as', b2, q1, q2, q3⟩ := rks I ds _ _ h2 r2 hs'.2 z2
        refine ⟨_, b1 ++ b2, ReadsAll.cons p1 q1, ?_, ?_⟩
        · simp only [PyData.depthAll]
          exact (p2.mono (Nat.le_max_left _ _)).append (q2.mono (Nat.le_max_right _ _))
        · simp only [PyData.depthAll, PyData.shownAll]
          exact .cons ((p3.more fun b hb => List.mem_append_left _ hb).level_le (Nat.le_max_left _ _)) (q3.more_le (fun b hb => List.mem_append_right _ hb) (Nat.le_max_right _ _))
theorem rkv (I : Inv X pins σ H s) : ∀ (kvs : List (PyData × PyData)) (ks vs : List V) (us ws : List Value), DtA X.K M H ks (kvs.map (·.1)) → Vals ks us → DtA X.K M H vs (kvs.map (·.2)) → Vals vs ws →
    PyData.showableAll (kvs.map (·.1)) = true → PyData.showableAll (kvs.map (·.2)) = true → (∀ t ∈ PyData.shownAll (kvs.map (·.1)), t.length ≤ sizeLine) → (∀ t ∈ PyData.shownAll (kvs.map (·.2)), t.length ≤ sizeLine) → RKs X s us (kvs.map (·.1)) ∧ RKs X s ws (kvs.map (·.2))
  | [], _, _, _, _, h, r, h', r', _, _, _, _ => by
    cases h
    cases r
    cases h'
    cases r'
    exact ⟨⟨_, [], ReadsAll.nil, (fun _ z => nomatch z), by simp only [PyData.shownAll, List.map_nil]; exact .nil⟩, ⟨_, [], ReadsAll.nil, (fun _ z => nomatch z), by simp only [PyData.shownAll, List.map_nil]; exact .nil⟩⟩
  | (k, d) :: kvs, _, _, _, _, h, r, h', r', hs, hs', hz, hz' => by
    simp only [List.map_cons] at *
    have s1 : k.showable = true ∧ PyData.showableAll (kvs.map (·.1)) = true := by simpa [PyData.showableAll] using hs
    have s2 : d.showable = true ∧ PyData.showableAll (kvs.map (·.2)) = true := by simpa [PyData.showableAll] using hs'
    obtain ⟨z1, z2⟩ := all_len hz rfl
    obtain ⟨z3, z4⟩ := all_len hz' rfl
    cases h with
    | cons h1 h2 =>
      cases r with
      | cons r1 r2 =>
        cases h' with
        | cons g1 g2 =>
          cases r' with
          | cons t1 t2 =>
            obtain ⟨⟨as', b2, q1, q2, q3⟩, ⟨cs', c2, u1, u2, u3⟩⟩ := rkv I kvs _ _ _ _ h2 r2 g2 t2 s1.2 s2.2 z2 z4
            obtain ⟨as, b1, p1, p2, p3⟩ := rk I k _ _ h1 r1 s1.1 z1
            obtain ⟨cs, c1, o1, o2, o3⟩ := rk I d _ _ g1 t1 s2.1 z3
            refine ⟨⟨_, b1 ++ b2, ReadsAll.cons p1 q1, ?_, ?_⟩, ⟨_, c1 ++ c2, ReadsAll.cons o1 u1, ?_, ?_⟩⟩
            · simp only [PyData.depthAll]
              exact (p2.mono (Nat.le_max_left _ _)).append (q2.mono (Nat.le_max_right _ _))
            · simp only [PyData.depthAll, PyData.shownAll]
              exact .cons ((p3.more fun b hb => List.mem_append_left _ hb).level_le (Nat.le_max_left _ _)) (q3.more_le (fun b hb => List.mem_append_right _ hb) (Nat.le_max_right _ _))
            · simp only [PyData.depthAll]
              exact (o2.mono (Nat.le_max_left _ _)).append (u2.mono (Nat.le_max_right _ _))
            · simp only [PyData.depthAll, PyData.shownAll]
              exact .cons ((o3.more fun b hb => List.mem_append_left _ hb).level_le (Nat.le_max_left _ _)) (u3.more_le (fun b hb => List.mem_append_right _ hb) (Nat.le_max_right _ _))
end
/-- repr(x): its data can be shown, and it is no too long text -/
def rRepr (K : PySem.W.Frag) : List V → Hp → VK → Prop := fun xs H Q => ∃ v d M, xs = [v] ∧ DtP K M H v d ∧ d.showable = true ∧ d.depth ≤ 60 ∧ d.shown.length ≤ sizeLine ∧ Q (.str d.shown) H
theorem call_reprD (hg : X.A.guards = some []) (hu : X.A.units + 64 < cLine) : CallR X (.builtin "repr") (rRepr X.K) := by
  intro pins s σ H xs us Q I r h
  obtain ⟨v, d, M, rfl, hp, hs, hdp, hz, q⟩ := h
  obtain ⟨u, rfl, rx⟩ := vals1 r
  have fin : ∀ (h' : Heap) (t tk : Nat), (∀ b o, s.heap.get? b = some o → h'.get? b = some o) → EP X pins σ Q (.str d.shown t) { s with heap := h', toks := tk } := fun h' t tk k => ⟨.str d.shown, H, I.kept k, ⟨t, rfl⟩, q⟩
  cases d with
  | none =>
    have e : v = .non := hp
    subst e
    cases rx
    refine PySem.P.repr_of_none ?_
    have f := fin s.heap s.toks (s.toks + 1) fun _ _ e => e
    simp only [PyData.shown] at f
    exact f
  | bool b =>
    have e : v = .bl b := hp
    subst e
    cases rx
    refine PySem.P.repr_of_bool ?_
    have f := fin s.heap s.toks (s.toks + 1) fun _ _ e => e
    simp only [PyData.shown] at f
    exact f
  | int i =>
    have e : v = .int i := hp
    subst e
    obtain ⟨t, rfl⟩ := rx
    refine PySem.P.repr_of_int (by simpa [PyData.showable] using hs) ?_
    have f := fin s.heap s.toks (s.toks + 1) fun _ _ e => e
    simp only [PyData.shown] at f
    exact f
  | str x =>
    have e : v = .str x := hp
    subst e
    obtain ⟨t, rfl⟩ := rx
    refine PySem.P.repr_of_str ?_ (by simpa only [PyData.shown] using hz)
    have f := fin s.heap s.toks (s.toks + 1) fun _ _ e => e
    simp only [PyData.shown] at f
    exact f
  | list ds =>
    obtain ⟨a, vs, rfl, h1, h2⟩ := hp
    cases rx
    obtain ⟨its, rv, ⟨o, n, ho, hc, _, hd⟩, _⟩ := I.list h1
    have hz' : (listText (PyData.shownAll ds)).length ≤ sizeLine := by simpa only [PyData.shown] using hz
    obtain ⟨as, bs, r1, r2, r3, r4⟩ := rk_list ho hc hd (rks I ds _ its h2 rv (by simpa [PyData.showable] using hs) fun t ht => Nat.le_trans (listText_mem_le ht) hz')
    simp only [PyData.shown] at fin
    have hdp' : PyData.depthAll ds + 1 ≤ 60 := by simpa only [PyData.depth] using hdp
    refine call_repr_slot (T := "list") (by omega) ⟨o, ho, hc⟩ F.slot_list_repr.toG ?_
    cases its with
    | nil =>
      cases ds with
      | nil =>
        simp only [PyData.shownAll, listText_nil] at fin
        exact call_list_repr_empty ⟨o, ho, hc⟩ ho hd ⟨_, _, rfl, fin s.heap _ _ fun _ _ e => e⟩
      | cons _ _ => simp only [PyData.shownAll] at r4; cases r4
    | cons y ys =>
      exact call_list_reprK ho hc hd r3 (by simpa using r4.length_eq) (fun i z e => r4.item i z (by simpa using e)) hg (fun b _ => Clear.nil b) (by show X.A.units + 1 + (PyData.depthAll ds + 1) < cLine; omega) (fun _ _ e => e) (fun h' t tk k => ⟨_, _, rfl, fin h' t tk k⟩) hz'
  | tuple ds =>
    obtain ⟨a, vs, rfl, h1, h2⟩ := hp
    cases rx
    obtain ⟨its, rv, ⟨o, ho, hc, n, hd⟩, _⟩ := I.tuple h1
    have hz' : (tupleText (PyData.shownAll ds)).length ≤ sizeLine := by simpa only [PyData.shown] using hz
    obtain ⟨as, bs, r1, r2, r3, r4⟩ := rk_tuple ho hc hd (rks I ds _ its h2 rv (by simpa [PyData.showable] using hs) fun t ht => Nat.le_trans (tupleText_mem_le ht) hz')
    simp only [PyData.shown] at fin
    have hdp' : PyData.depthAll ds + 1 ≤ 60 := by simpa only [PyData.depth] using hdp
    refine call_repr_slot (T := "tuple") (by omega) ⟨o, ho, hc⟩ F.slot_tuple_repr ?_
    exact call_tuple_reprK ho hc hd r3 (by simpa using r4) hg (fun b _ => Clear.nil b) (by show X.A.units + 1 + (PyData.depthAll ds + 1) < cLine; omega) (fun _ _ e => e) (fun h' t tk k => ⟨_, _, rfl, fin h' t tk k⟩) hz'
  | dict kvs =>
    obtain ⟨a, vs, rfl, h1, h2⟩ := hp
    cases rx
    obtain ⟨o, es, ep, ws, ho, hc, hd, hsm, rel, pr⟩ := dic_obj I h1
    obtain ⟨a1, a2, a3, a4⟩ := rows_of h2 rel pr
    obtain ⟨hs1, hs2⟩ := PyData.showableKv_split kvs (by simpa [PyData.showable] using hs)
    have hz' : (dictText (PyData.shownKv kvs)).length ≤ sizeLine := by simpa only [PyData.shown] using hz
    have both := rkv I kvs _ _ _ _ a1 a2 a3 a4 hs1 hs2
      (fun t ht => let ⟨p, hp, hl⟩ := PyData.shownKv_key_le kvs t ht; Nat.le_trans hl (Nat.le_trans (dictText_mem_le hp) hz'))
      (fun t ht => let ⟨p, hp, hl⟩ := PyData.shownKv_val_le kvs t ht; Nat.le_trans hl (Nat.le_trans (dictText_mem_le hp) hz'))
    obtain ⟨as, bs, ps, r1, r2, r3, r4, r5⟩ := rk_dict ho hc hd both.1 both.2
    rw [r5] at fin
    have hdp' : PyData.depthKv kvs + 1 ≤ 60 := by simpa only [PyData.depth] using hdp
    refine call_repr_slot (T := "dict") (by omega) ⟨o, ho, hc⟩ F.slot_dict_repr ?_
    exact call_dict_reprK ho hc hd hsm r3 r4 hg (fun b _ => Clear.nil b) (by show X.A.units + 1 + (PyData.depthKv kvs + 1) < cLine; omega) (fun _ _ e => e) (fun h' t tk k => ⟨_, _, rfl, fin h' t tk k⟩) (by rw [← r5]; exact hz)
end
end EG


set_option Elab.async false
set_option linter.all false
set_option maxRecDepth 100000
set_option maxHeartbeats 4000000
namespace EG
open PySem PySem.Spec PyProof.Rows L2

/-! ### calls of built-ins -/
abbrev Op1 := SV → Sto → Option SV
def Un1 (K : PySem.W.Frag) (r : List V → Hp → VK → Prop) (g : Op1) : Prop := ∀ ι w H vx x v Q, SRel K ι w H → VRel K ι (mz ι w) H vx x → g x w = some v → (∀ H', Stp K ι w H ι w H' → ∀ V, VRel K ι (mz ι w) H' V v → Q V H') → r [vx] H Q
theorem Un1.run {K : PySem.W.Frag} {EA : EAt} {r : List V → Hp → VK → Prop} {g : Op1} (s : Un1 K r g) {ι : List (List Addr)} {w : Sto} {H : Hp} {vx : V} {x : SV} {Q : VK} {W : Value → Option Addr → Hp → Prop} (R : SRel K ι w H) (hx : VRel K ι (mz ι w) H vx x)
    (h : Hyp K EA ι w H ((g x w).map fun v => (Res.ok v, w)) (fun v ι' w' H' => ∀ V, VRel K ι' (mz ι' w') H' V v → Q V H') W) : r [vx] H Q := by
  cases e : g x w with
  | none => rw [e] at h; exact h.elim
  | some v =>
    rw [e] at h
    exact s ι w H vx x v Q R hx e fun H' st V rv => h ι H' st V rv

/-! what they do -/
def lenD : PyData → Option Nat
  | .str x => if x.length ≤ sizeLine then some x.length else none
  | .list xs => some xs.length
  | .tuple xs => some xs.length
  | _ => none
def gLen : Op1 := fun x w => ((toD w x).bind lenD).map fun n => .dat (.int (n : Int))
def gList : Op1 := fun x w => ((toD w x).bind itemsD).map fun xs => .dat (.list xs)
def gTuple : Op1 := fun x w => match x with
  | .dat (.tuple xs) => some (.dat (.tuple xs))
  | _ => match toD w x with
    | some (.list xs) => some (.dat (.tuple xs))
    | _ => none
def gInt : Op1 := fun x _ => match x with
  | .dat (.int i) => some (.dat (.int i))
  | .dat (.bool b) => some (.dat (.int (if b then 1 else 0)))
  | _ => none
def tyD : PyData → String
  | .none => "NoneType"
  | .bool _ => "bool"
  | .int _ => "int"
  | .str _ => "str"
  | .list _ => "list"
  | .tuple _ => "tuple"
  | .dict _ => "dict"
/-- isinstance(x, T) for a built-in T of these -/
def isT (t T : String) : Bool := t == T || (t == "bool" && T == "int")
def gIsi (T : String) : Op1 := fun x w => (toD w x).map fun d => .dat (.bool (isT (tyD d) T))
def gRepr : Op1 := fun x w => match toD w x with
  | some d => if d.showable && decide (d.depth ≤ 60) && decide (d.shown.length ≤ sizeLine) then some (.dat (.str d.shown)) else none
  | none => none
def allB : List PyData → Option (List Bool)
  | [] => some []
  | .bool b :: r => (allB r).map (b :: ·)
  | _ :: _ => none
def gAll : Op1 := fun x w => match toD w x with
  | some (.list xs) => (allB xs).map fun bs => .dat (.bool (bs.all id))
  | _ => none
def gAny : Op1 := fun x w => match toD w x with
  | some (.list xs) => (allB xs).map fun bs => .dat (.bool (bs.any id))
  | _ => none

section
variable {X : Cx} {EA : EAt} {W : WX} {a b c : Expr} {ma mb mc : Env → Mo SV} {pos p : Pos} {x : Str}
/-- f(a), f a built-in function; T(a), T a built-in class -/
theorem de_b1 {id : String} {r : List V → Hp → VK → Prop} {g : Op1} (hc : CallR X (.builtin id) r) (hs : Un1 X.K r g) (hm : X.mg x = none) (hv : bootBuiltins x = some (.builtin id)) (ha : DE X EA W a ma) (hg : Gl X x := by rfl) (hn : x ≠ "__name__" := by decide) (hdb : (x == ("__debug__" : Str)) = false := by decide)
    (he : starEach (a :: []) X.env = (false, eval a X.env) :: starEach [] X.env := by rfl) (hpl : (backTo pos (starEach [] X.env)).any (·.1) = false := by rfl) : DE X EA W (.Call (.Name x p) [a] [] pos) (mUn ma g) := by
  obtain ⟨t, q, s⟩ := ha.ex
  refine ⟨_, pe_callB hc hg hm hv (pa_cons q pa_nil he) hn hdb he hpl, fun ι w σ H ρ Q R E h => ?_⟩
  exact s ι w σ H ρ _ R E ((Hyp.bind h).imp fun y ι1 w1 H1 s1 h1 V rv => hs.run s1.rel rv h1)
theorem de_t1 {T : String} {r : List V → Hp → VK → Prop} {g : Op1} (hc : CallR X (.type T) r) (hs : Un1 X.K r g) (hm : X.mg x = none) (hv : bootBuiltins x = some (.type T)) (ha : DE X EA W a ma) (hg : Gl X x := by rfl) (hn : x ≠ "__name__" := by decide) (hdb : (x == ("__debug__" : Str)) = false := by decide)
    (he : starEach (a :: []) X.env = (false, eval a X.env) :: starEach [] X.env := by rfl) (hpl : (backTo pos (starEach [] X.env)).any (·.1) = false := by rfl) : DE X EA W (.Call (.Name x p) [a] [] pos) (mUn ma g) := by
  obtain ⟨t, q, s⟩ := ha.ex
  refine ⟨_, pe_callTy hc hg hm hv (pa_cons q pa_nil he) hn hdb he hpl, fun ι w σ H ρ Q R E h => ?_⟩
  exact s ι w σ H ρ _ R E ((Hyp.bind h).imp fun y ι1 w1 H1 s1 h1 V rv => hs.run s1.rel rv h1)

variable {K : PySem.W.Frag}
theorem un_len : Un1 K (fun xs H Q => ∃ x n, xs = [x] ∧ LenV K x H n ∧ Q (.int n) H) gLen := by
  intro ι w H vx x v Q R rx e k
  unfold gLen at e
  cases q : toD w x with
  | none => rw [q] at e; cases e
  | some d =>
    rw [q] at e
    have pp := rx.p R q
    cases d with
    | str y =>
      have h : vx = .str y := pp
      subst h
      by_cases c : y.length ≤ sizeLine
      · simp only [Option.bind_some, lenD, if_pos c, Option.map_some] at e
        cases e
        exact ⟨_, _, rfl, ⟨c, rfl⟩, k H (Stp.refl R) _ (Dt.int _)⟩
      · simp [lenD, if_neg c] at e
    | list ys =>
      obtain ⟨a, vs, rfl, h1, h2⟩ := pp
      cases e
      exact ⟨_, vs.length, rfl, .inl ⟨vs, h1, rfl⟩, by rw [h2.length]; exact k H (Stp.refl R) _ (Dt.int _)⟩
    | tuple ys =>
      obtain ⟨a, vs, rfl, h1, h2⟩ := pp
      cases e
      exact ⟨_, vs.length, rfl, .inr ⟨vs, h1, rfl⟩, by rw [h2.length]; exact k H (Stp.refl R) _ (Dt.int _)⟩
    | _ => cases e
theorem un_list : Un1 K (fun xs H Q => ∃ p ys, xs = [.ref p] ∧ (SqL K H p ys ∨ SqT K H p ys) ∧ ∀ l, H l = none → Q (.ref l) (upd H l (.lst ys))) gList := by
  intro ι w H vx x v Q R rx e k
  unfold gList at e
  cases q : (toD w x).bind itemsD with
  | none => rw [q] at e; cases e
  | some ds =>
    rw [q] at e
    cases e
    obtain ⟨a, vs, rfl, h1, h2⟩ := rx.items R q
    refine ⟨a, vs, rfl, h1, fun l hl => ?_⟩
    have s := Stp.new (o := .lst vs) R hl
    exact k _ s _ (Dt.lst upd_same (fun m => R.ne m hl rfl) (h2.go s.go))
theorem un_tuple : Un1 K (fun xs H Q => ∃ p ys, xs = [.ref p] ∧ ((SqL K H p ys ∧ ∀ l, H l = none → Q (.ref l) (upd H l (.tup ys))) ∨ (SqT K H p ys ∧ Q (.ref p) H))) gTuple := by
  intro ι w H vx x v Q R rx e k
  have gen : (match toD w x with | some (.list xs) => some (SV.dat (.tuple xs)) | _ => none) = some v → ∃ p ys, [vx] = [V.ref p] ∧ ((SqL K H p ys ∧ ∀ l, H l = none → Q (.ref l) (upd H l (.tup ys))) ∨ (SqT K H p ys ∧ Q (.ref p) H)) := fun e => by
    cases q : toD w x with
    | none => rw [q] at e; cases e
    | some d =>
      rw [q] at e
      have pp := rx.p R q
      cases d with
      | list ys =>
        obtain ⟨a, vs, rfl, h1, h2⟩ := pp
        cases e
        refine ⟨a, vs, rfl, .inl ⟨h1, fun l hl => ?_⟩⟩
        have s := Stp.new (o := .tup vs) R hl
        exact k _ s _ (Dt.tup (.inl ⟨.inl upd_same, fun m => R.ne m hl rfl⟩) (h2.go s.go))
      | _ => cases e
  unfold gTuple at e
  cases x with
  | dat d =>
    cases d with
    | tuple ys =>
      cases e
      obtain ⟨a, vs, rfl, h1, h2⟩ := ST.tup rx
      exact ⟨a, vs, rfl, .inr ⟨h1.sq, k H (Stp.refl R) _ (Dt.tup h1 h2)⟩⟩
    | _ => exact gen e
  | _ => exact gen e
theorem un_int : Un1 K (fun xs H Q => (∃ i, xs = [.int i] ∧ Q (.int i) H) ∨ ∃ k, xs = [.bl k] ∧ Q (.int (if k then 1 else 0)) H) gInt := by
  intro ι w H vx x v Q R rx e k
  cases x with
  | dat d =>
    cases d with
    | int i => cases rx; cases e; exact .inl ⟨i, rfl, k H (Stp.refl R) _ (Dt.int _)⟩
    | bool b => cases rx; cases e; exact .inr ⟨b, rfl, k H (Stp.refl R) _ (Dt.int _)⟩
    | _ => cases e
  | _ => cases e
theorem un_repr : Un1 K (rRepr K) gRepr := by
  intro ι w H vx x v Q R rx e k
  unfold gRepr at e
  cases q : toD w x with
  | none => rw [q] at e; cases e
  | some d =>
    rw [q] at e
    simp only at e
    by_cases c : (d.showable && decide (d.depth ≤ 60) && decide (d.shown.length ≤ sizeLine)) = true
    · rw [if_pos c] at e
      cases e
      simp only [Bool.and_eq_true, decide_eq_true_eq] at c
      exact ⟨vx, d, _, rfl, rx.p R q, c.1.1, c.1.2, c.2, k H (Stp.refl R) _ (Dt.str _)⟩
    · rw [if_neg c] at e; cases e
theorem allB_v {M : List Addr} {H : Hp} : ∀ {vs : List V} {ds : List PyData} {bs : List Bool}, DtA K M H vs ds → allB ds = some bs → vs = bs.map V.bl
  | _, _, _, .nil, e => by cases e; rfl
  | _, d :: ds, _, .cons h q, e => by
    cases d with
    | bool b =>
      cases h
      have e' : (allB ds).map (b :: ·) = some _ := e
      cases c : allB ds with
      | none => rw [c] at e'; cases e'
      | some bs =>
        rw [c] at e'
        cases e'
        rw [allB_v q c]
        rfl
    | _ => cases e
theorem un_all : Un1 K (rAll K) gAll := by
  intro ι w H vx x v Q R rx e k
  unfold gAll at e
  cases q : toD w x with
  | none => rw [q] at e; cases e
  | some d =>
    rw [q] at e
    have pp := rx.p R q
    cases d with
    | list ys =>
      obtain ⟨a, vs, rfl, h1, h2⟩ := pp
      simp only at e
      cases c : allB ys with
      | none => rw [c] at e; cases e
      | some bs =>
        rw [c] at e
        cases e
        rw [allB_v h2 c] at h1
        exact ⟨a, bs, rfl, h1, k H (Stp.refl R) _ (Dt.bl _)⟩
    | _ => cases e
theorem un_any : Un1 K (rAny K) gAny := by
  intro ι w H vx x v Q R rx e k
  unfold gAny at e
  cases q : toD w x with
  | none => rw [q] at e; cases e
  | some d =>
    rw [q] at e
    have pp := rx.p R q
    cases d with
    | list ys =>
      obtain ⟨a, vs, rfl, h1, h2⟩ := pp
      simp only at e
      cases c : allB ys with
      | none => rw [c] at e; cases e
      | some bs =>
        rw [c] at e
        cases e
        rw [allB_v h2 c] at h1
        exact ⟨a, bs, rfl, h1, k H (Stp.refl R) _ (Dt.bl _)⟩
    | _ => cases e
/-! isinstance -/
theorem isT_kit : ∀ t ∈ ["NoneType", "bool", "int", "str", "list", "tuple", "dict"], ∀ T ∈ ["tuple", "int", "bool", "str"], kitB t T = some (isT t T) := by decide +kernel
theorem tyD_mem (d : PyData) : tyD d ∈ ["NoneType", "bool", "int", "str", "list", "tuple", "dict"] := by cases d <;> simp [tyD]
theorem ty_x {M : List Addr} {H : Hp} {v : V} : ∀ {d : PyData}, DtP K M H v d → TyX K H v (.type (tyD d))
  | .none, h => by have h' : v = .non := h; rw [h']; exact .base .non
  | .bool b, h => by have h' : v = .bl b := h; rw [h']; exact .base (.bl b)
  | .int b, h => by have h' : v = .int b := h; rw [h']; exact .base (.int b)
  | .str b, h => by have h' : v = .str b := h; rw [h']; exact .base (.str b)
  | .list ds, h => by
    obtain ⟨a, vs, rfl, h1, _⟩ := h
    rcases h1 with (h1 | ⟨o, h1⟩) | ⟨o, its, n, h1, h2, _⟩
    · exact .base (.lst h1)
    · exact .base (.frz h1)
    · exact .kList h1 h2
  | .tuple ds, h => by
    obtain ⟨a, vs, rfl, h1, _⟩ := h
    rcases h1 with (h1 | ⟨o, h1⟩) | ⟨o, its, n, h1, h2, _⟩
    · exact .base (.tup h1)
    · exact .fTuple h1
    · exact .kTuple h1 h2
  | .dict ds, h => by
    obtain ⟨a, vs, rfl, h1, _⟩ := h
    exact .base (.dK h1)
theorem de_isi {T : Str} {Tn : String} {q0 : Pos} (hT : Tn ∈ ["tuple", "int", "bool", "str"]) (hm : X.mg "isinstance" = none) (hmT : X.mg T = none) (hvT : bootBuiltins T = some (.type Tn)) (ha : DE X EA W a ma) (hg : Gl X "isinstance" := by rfl) (hgT : Gl X T := by rfl)
    (hnT : T ≠ "__name__" := by decide) (hdT : (T == ("__debug__" : Str)) = false := by decide)
    (he : starEach (a :: [.Name T q0]) X.env = (false, eval a X.env) :: starEach [.Name T q0] X.env := by rfl) (he2 : starEach (.Name T q0 :: []) X.env = (false, eval (.Name T q0) X.env) :: starEach [] X.env := by rfl) (hpl : (backTo pos (starEach [.Name T q0] X.env)).any (·.1) = false := by rfl) :
    DE X EA W (.Call (.Name "isinstance" p) [a, .Name T q0] [] pos) (mUn ma (gIsi Tn)) := by
  obtain ⟨t, q, s⟩ := ha.ex
  refine ⟨_, pe_callB call_isi hg hm (by decide +kernel) (pa_cons q (pa_cons (pe_bltn (v := .ty Tn) hgT hmT hvT rfl hnT hdT) pa_nil he2) he) (by decide) (by decide) he hpl, fun ι w σ H ρ Q R E h => ?_⟩
  refine s ι w σ H ρ _ R E ((Hyp.bind h).imp fun y ι1 w1 H1 s1 h1 V rv => ?_)
  unfold gIsi at h1
  cases e : toD w1 y with
  | none => rw [e] at h1; exact h1.elim
  | some d =>
    rw [e] at h1
    exact ⟨V, .ty Tn, _, _, _, rfl, .ty Tn, ty_x (rv.p s1.rel e), kit_ty (isT_kit _ (tyD_mem d) _ hT), Hyp.here h1 s1.rel _ (Dt.bl _)⟩

/-! ### items, slices -/
theorem ix_both : IxR X (fun x y H Q => rIxL X.K x y H Q ∨ rIxT X.K x y H Q) := IxR.or ix_list ix_tup
theorem de_ix (ha : DE X EA W a ma) (hb : DE X EA W b mb) (hs : PlainIx b := by exact fun _ _ => rfl) : DE X EA W (.Subscript a b pos) (mBin ma mb gIx) := by
  obtain ⟨ta, pa, sa⟩ := ha.ex
  obtain ⟨tb, pb, sb⟩ := hb.ex
  refine ⟨_, pe_ix ix_both pa pb hs, fun ι w σ H ρ Q R E h => ?_⟩
  exact two (R := fun x y H2 => (rIxL X.K x y H2 Q ∨ rIxT X.K x y H2 Q)) sa sb R E h fun ι2 w2 H2 vx vy x y s rx ry h2 => (os_ixL (r := fun x y H Q => rIxL X.K x y H Q ∨ rIxT X.K x y H Q) fun _ _ _ _ z => z).run s.rel rx ry h2
/-- a part of a slice: an int, or none -/
structure DO (X : Cx) (EA : EAt) (W : WX) (e : Option Expr) (m : Env → Mo (Option Int)) : Prop where
  ex : ∃ t : TO, PO X e t ∧ ∀ ι w σ H ρ Q, SRel X.K ι w H → EnvR X.K ι (mz ι w) H σ ρ → Hyp X.K EA ι w H (m ρ w) (fun o _ _ H' => Q o H') (fun cls d H' => W cls d σ H') → t σ H Q
def mNoP : Env → Mo (Option Int) := fun _ => mPure none
def mPart (m : Env → Mo SV) : Env → Mo (Option Int) := fun ρ => mBind (m ρ) fun x w => match x with
  | .dat (.int i) => some (.ok (some i), w)
  | _ => none
theorem do_none : DO X EA W none mNoP := ⟨_, po_none, fun ι w σ H ρ Q R E h => Hyp.here h R⟩
theorem do_some (ha : DE X EA W a ma) : DO X EA W (some a) (mPart ma) := by
  obtain ⟨t, q, s⟩ := ha.ex
  refine ⟨_, po_some q, fun ι w σ H ρ Q R E h => ?_⟩
  refine s ι w σ H ρ _ R E ((Hyp.bind h).imp fun y ι1 w1 H1 s1 h1 V rv => ?_)
  cases y with
  | dat d =>
    cases d with
    | int i =>
      cases rv
      exact ⟨i, rfl, Hyp.here h1 s1.rel⟩
    | _ => exact h1.elim
  | _ => exact h1.elim
def cutD {α : Type} (xs : List α) (lo hi : Option Int) : List α := (xs.drop (HT.sIx xs.length 0 lo)).take (HT.sIx xs.length xs.length hi - HT.sIx xs.length 0 lo)
/-- xs[lo:hi], t[lo:hi] -/
def gCut (lo hi : Option Int) : Op1 := fun x w => match x with
  | .dat (.tuple xs) => some (.dat (.tuple (cutD xs lo hi)))
  | _ => match toD w x with
    | some (.list xs) => some (.dat (.list (cutD xs lo hi)))
    | _ => none
def mCut (m : Env → Mo SV) (lo hi : Env → Mo (Option Int)) : Env → Mo SV := fun ρ => mBind (m ρ) fun x => mBind (lo ρ) fun l => mBind (hi ρ) fun h w => (gCut l h x w).map fun v => (.ok v, w)
theorem DtA.cut {M : List Addr} {H : Hp} {vs : List V} {ds : List PyData} (h : DtA K M H vs ds) (lo hi : Option Int) : DtA K M H (cutV vs lo hi) (cutD ds lo hi) := by
  unfold cutV cutD
  rw [h.length]
  exact (h.drop _).take _
theorem sl_both : SlR X (fun x lo hi H Q => rSlL X.K x lo hi H Q ∨ rSlA X.K x lo hi H Q) := SlR.or sl_list sl_tupA
theorem cut_ok {ι : List (List Addr)} {w : Sto} {H : Hp} {vx : V} {x v : SV} {Q : VK} {lo hi : Option Int} (R : SRel K ι w H) (rx : VRel K ι (mz ι w) H vx x) (e : gCut lo hi x w = some v) (k : ∀ H', Stp K ι w H ι w H' → ∀ V, VRel K ι (mz ι w) H' V v → Q V H') : rSlL K vx lo hi H Q ∨ rSlA K vx lo hi H Q := by
  have gen : (match toD w x with | some (.list xs) => some (SV.dat (.list (cutD xs lo hi))) | _ => none) = some v → rSlL K vx lo hi H Q ∨ rSlA K vx lo hi H Q := fun e => by
    cases q : toD w x with
    | none => rw [q] at e; cases e
    | some d =>
      rw [q] at e
      have pp := rx.p R q
      cases d with
      | list ys =>
        obtain ⟨a, vs, rfl, h1, h2⟩ := pp
        cases e
        refine .inl ⟨a, vs, rfl, h1, fun l hl => ?_⟩
        have s := Stp.new (o := .lst (cutV vs lo hi)) R hl
        exact k _ s _ (Dt.lst upd_same (fun m => R.ne m hl rfl) ((h2.cut lo hi).go s.go))
      | _ => cases e
  unfold gCut at e
  cases x with
  | dat d =>
    cases d with
    | tuple ys =>
      cases e
      obtain ⟨a, vs, rfl, h1, h2⟩ := ST.tup rx
      refine .inr ⟨a, vs, rfl, h1.sq, fun hw => ?_, fun hw l hl => ?_⟩
      · have e1 : cutD ys lo hi = ys := by
          unfold cutD
          rw [← h2.length, hw.1, hw.2, List.drop_zero, Nat.sub_zero, h2.length, List.take_length]
        rw [e1] at k
        exact k H (Stp.refl R) _ (Dt.tup h1 h2)
      · have s := Stp.new (o := .tup (cutV vs lo hi)) R hl
        exact k _ s _ (Dt.tup (.inl ⟨.inl upd_same, fun m => R.ne m hl rfl⟩) ((h2.cut lo hi).go s.go))
    | _ => exact gen e
  | _ => exact gen e
theorem de_cut {lo hi : Option Expr} {p2 : Pos} {ml mh : Env → Mo (Option Int)} (ha : DE X EA W a ma) (hl : DO X EA W lo ml) (hh : DO X EA W hi mh) : DE X EA W (.Subscript a (.Slice lo hi none p2) pos) (mCut ma ml mh) := by
  obtain ⟨t, q, s⟩ := ha.ex
  obtain ⟨u, q', s'⟩ := hl.ex
  obtain ⟨z, q2, s2⟩ := hh.ex
  refine ⟨_, pe_slice sl_both q q' q2, fun ι w σ H ρ Q R E h => ?_⟩
  refine s ι w σ H ρ _ R E ((Hyp.bind h).imp fun y ι1 w1 H1 t1 h1 V rv => ?_)
  refine s' _ _ σ H1 ρ _ t1.rel (E.stp t1) ((Hyp.bind h1).imp fun l ι2 w2 H2 t2 h2 => ?_)
  refine s2 _ _ σ H2 ρ _ t2.rel ((E.stp t1).stp t2) ((Hyp.bind h2).imp fun hi' ι3 w3 H3 t3 h3 => ?_)
  cases e : gCut l hi' y w3 with
  | none => rw [e] at h3; exact h3.elim
  | some v =>
    rw [e] at h3
    exact cut_ok t3.rel ((rv.stp t2).stp t3) e fun H' st V r => h3 _ _ st V r
end
end EG


set_option Elab.async false
set_option linter.all false
set_option maxRecDepth 100000
set_option maxHeartbeats 4000000
namespace EG
open PySem PySem.Spec PyProof.Rows L2

/-! ### targets -/
structure DG (X : Cx) (EA : EAt) (W : WX) (tg : Expr) (js : List Nat) (m : PyData → Env → Mo Env) : Prop where
  ex : ∃ t : TG, PG X tg t ∧ ∀ ι w σ H ρ V d (Q : L2.St → Hp → Prop), SRel X.K ι w H → EnvR X.K ι (mz ι w) H σ ρ → Dt X.K (mz ι w) H V d →
    Hyp X.K EA ι w H (m d ρ w) (fun ρ' ι' w' H' => ∀ σ', EnvR X.K ι' (mz ι' w') H' σ' ρ' → (∀ vs, (∀ j ∈ js, j ∈ vs) → wipe σ' vs = wipe σ vs) → Q σ' H') (fun _ _ _ => False) → t V σ H Q
structure DGs (X : Cx) (EA : EAt) (W : WX) (tg : List Expr) (js : List Nat) (m : List PyData → Env → Mo Env) : Prop where
  ex : ∃ t : TGs, PGs X tg t ∧ ∀ ι w σ H ρ Vs ds (Q : L2.St → Hp → Prop), SRel X.K ι w H → EnvR X.K ι (mz ι w) H σ ρ → DtA X.K (mz ι w) H Vs ds →
    Hyp X.K EA ι w H (m ds ρ w) (fun ρ' ι' w' H' => ∀ σ', EnvR X.K ι' (mz ι' w') H' σ' ρ' → (∀ vs, (∀ j ∈ js, j ∈ vs) → wipe σ' vs = wipe σ vs) → Q σ' H') (fun _ _ _ => False) → t Vs σ H Q
theorem wipe_set {j : Nat} {x : Option V} : ∀ {σ : L2.St} {vs : List Nat}, j ∈ vs → wipe (σ.set j x) vs = wipe σ vs
  | σ, [], h => nomatch h
  | σ, v :: vs, h => by
    unfold wipe
    by_cases e : j ∈ vs
    · rw [wipe_set e]
    · have ej : j = v := by
        rcases List.mem_cons.mp h with z | z
        · exact z
        · exact absurd z e
      subst ej
      have go : ∀ (us : List Nat) (τ : L2.St), (wipe (τ.set j x) us).set j none = (wipe τ us).set j none := by
        intro us
        induction us with
        | nil =>
          intro τ
          show (τ.set j x).set j none = τ.set j none
          rw [List.set_set]
        | cons u us ih =>
          intro τ
          show ((wipe (τ.set j x) us).set u none).set j none = ((wipe τ us).set u none).set j none
          by_cases eu : u = j
          · subst eu
            rw [List.set_set, List.set_set, ih τ]
          · rw [List.set_comm _ _ eu, ih τ, List.set_comm _ _ (Ne.symm eu)]
      exact go vs σ
theorem wipe_wipe (σ : L2.St) (vs : List Nat) : wipe (wipe σ vs) vs = wipe σ vs := by
  have go : ∀ (us ws : List Nat), (∀ u ∈ us, u ∈ ws) → ∀ τ : L2.St, wipe (wipe τ us) ws = wipe τ ws := by
    intro us
    induction us with
    | nil => intro _ _ τ; rfl
    | cons u us ih =>
      intro ws h τ
      show wipe ((wipe τ us).set u none) ws = wipe τ ws
      rw [wipe_set (h u List.mem_cons_self)]
      exact ih ws (fun z hz => h z (List.mem_cons_of_mem _ hz)) τ
  exact go vs vs (fun _ h => h) σ
def mSet (i : Nat) : PyData → Env → Mo Env := fun d ρ => mPure (ρ.set i (some (.dat d)))
def mSets : List (PyData → Env → Mo Env) → List PyData → Env → Mo Env
  | [], [], ρ => mPure ρ
  | f :: fs, d :: ds, ρ => mBind (f d ρ) fun ρ' => mSets fs ds ρ'
  | _, _, _ => mFail
def mSetT (fs : List (PyData → Env → Mo Env)) : PyData → Env → Mo Env := fun d ρ => match d with
  | .tuple ds => if ds.length = fs.length then mSets fs ds ρ else mFail
  | _ => mFail
section
variable {X : Cx} {EA : EAt} {W : WX} {pos : Pos}
theorem dg_name {i : Nat} {x : Str} (hN : X.N.Nodup) (hi : X.N[i]? = some x := by rfl) (hx : Loc X.env.scope x := by first | exact Or.inl rfl | exact Or.inr rfl) (hf : X.fn x = true ∨ X.env.scope.names.lookup x = some .local := by first | exact .inl rfl | exact .inr rfl | assumption) : DG X EA W (.Name x pos) [i] (mSet i) := by
  refine ⟨gName i, pg_name hN hi hx hf, fun ι w σ H ρ V d Q R E hv h => ?_⟩
  exact Hyp.pure h R _ (E.set hv) fun vs hj => wipe_set (hj i (by simp))
theorem dgs_nil : DGs X EA W [] [] (mSets []) := by
  refine ⟨gNil, pgs_nil, fun ι w σ H ρ Vs ds Q R E hv h => ?_⟩
  cases hv with
  | nil => exact ⟨rfl, Hyp.pure h R _ E fun _ _ => rfl⟩
  | cons _ _ => exact h.elim
theorem dgs_cons {e : Expr} {es : List Expr} {js ks : List Nat} {f : PyData → Env → Mo Env} {fs : List (PyData → Env → Mo Env)} (h1 : DG X EA W e js f) (h2 : DGs X EA W es ks (mSets fs))
    (hs : (assignEach (e :: es) X.env).map (·.2) = assign e X.env :: (assignEach es X.env).map (·.2) := by rfl) : DGs X EA W (e :: es) (js ++ ks) (mSets (f :: fs)) := by
  obtain ⟨t, p, s⟩ := h1.ex
  obtain ⟨u, q, z⟩ := h2.ex
  refine ⟨gCons t u, pgs_cons p q hs, fun ι w σ H ρ Vs ds Q R E hv h => ?_⟩
  cases hv with
  | nil => exact h.elim
  | cons h1 h2 =>
    refine ⟨_, _, rfl, s ι w σ H ρ _ _ _ R E h1 ((Hyp.bind h).imp fun ρ1 ι1 w1 H1 s1 g1 σ1 E1 k1 => ?_)⟩
    refine z ι1 w1 σ1 H1 ρ1 _ _ _ s1.rel E1 (h2.go s1.go) (g1.imp fun ρ2 ι2 w2 H2 s2 g2 σ2 E2 k2 => g2 σ2 E2 fun vs hj => ?_)
    rw [k2 vs fun j hj' => hj j (List.mem_append_right _ hj'), k1 vs fun j hj' => hj j (List.mem_append_left _ hj')]
theorem dg_tup {es : List Expr} {k : Nat} {js : List Nat} {fs : List (PyData → Env → Mo Env)} (hc : X.calm = true) (h : DGs X EA W es js (mSets fs)) (hl : fs.length = es.length := by rfl)
    (hn : (assignEach es X.env).length = fs.length := by rfl) (hst : (assignEach es X.env).findIdx? (·.1) = none := by rfl) : DG X EA W (.Tuple es k pos) js (mSetT fs) := by
  obtain ⟨t, p, s⟩ := h.ex
  refine ⟨_, pg_tup (n := fs.length) hc p hn hst, fun ι w σ H ρ V d Q R E hv h => ?_⟩
  cases d with
  | tuple ds =>
    obtain ⟨a, vs, rfl, h1, h2⟩ := ST.tup hv
    by_cases e : ds.length = fs.length
    · have h' : Hyp X.K EA ι w H ((if ds.length = fs.length then mSets fs ds ρ else mFail) w) _ _ := h
      rw [if_pos e] at h'
      exact ⟨a, vs, rfl, h1.sq, by rw [h2.length]; exact e, s ι w σ H ρ vs ds Q R E h2 h'⟩
    · have h' : Hyp X.K EA ι w H ((if ds.length = fs.length then mSets fs ds ρ else mFail) w) _ _ := h
      rw [if_neg e] at h'
      exact h'.elim
  | _ => exact h.elim

/-! ### small statements -/
def mAsg (i : Nat) (m : Env → Mo SV) : Env → Mo Out := fun ρ => mBind (m ρ) fun v => mPure (.nx (ρ.set i (some v)))
def mDrop (m : Env → Mo SV) : Env → Mo Out := fun ρ => mBind (m ρ) fun _ => mPure (.nx ρ)
def mSkip : Env → Mo Out := fun ρ => mPure (.nx ρ)
def mSeq (a b : Env → Mo Out) : Env → Mo Out := fun ρ => mBind (a ρ) fun o => match o with
  | .nx ρ' => b ρ'
  | o => mPure o
def mIfS (c : Env → Mo Bool) (a b : Env → Mo Out) : Env → Mo Out := fun ρ => mBind (c ρ) fun k => if k then a ρ else b ρ
/-- what is handed back: the store's own lists and dicts as plain data -/
def fzR : SV → Sto → Option (SV × Sto)
  | .obj n, w => match w[n]? with
    | some (.draw _ _ _) => some (.obj n, w)
    | _ => (fz1 (.obj n) w).map fun p => (.dat p.1, p.2)
  | x, w => some (x, w)
def mRet (m : Env → Mo SV) : Env → Mo Out := fun ρ => mBind (m ρ) fun x w => (fzR x w).map fun p => (.ok (.rt p.1), p.2)
def mRetN : Env → Mo Out := fun _ => mPure (.rt (.dat .none))
def mBrk : Env → Mo Out := fun ρ => mPure (.bk ρ)
def mCnt : Env → Mo Out := fun ρ => mPure (.ct ρ)
def mNever : Env → Mo Out := fun _ => mFail
theorem fzR_ok {K : PySem.W.Frag} {ι : List (List Addr)} {w w' : Sto} {H : Hp} {v : V} {x y : SV} (r : SRel K ι w H) (h : VRel K ι (mz ι w) H v x) (e : fzR x w = some (y, w')) : Stp K ι w H ι w' H ∧ VRel K ι (mz ι w') H v y := by
  have gen : ∀ n, (fz1 (.obj n) w).map (fun p => (SV.dat p.1, p.2)) = some (y, w') → VRel K ι (mz ι w) H v (.obj n) → Stp K ι w H ι w' H ∧ VRel K ι (mz ι w') H v y := fun n e h => by
    cases q : fz1 (.obj n) w with
    | none => rw [q] at e; cases e
    | some p =>
      obtain ⟨d, w1⟩ := p
      rw [q] at e
      cases e
      exact fz1_ok r h q
  cases x with
  | dat d => cases e; exact ⟨Stp.refl r, h⟩
  | scr d => cases e; exact ⟨Stp.refl r, h⟩
  | exc d => cases e; exact ⟨Stp.refl r, h⟩
  | excs d => cases e; exact ⟨Stp.refl r, h⟩
  | drg d => cases e; exact ⟨Stp.refl r, h⟩
  | obj n =>
    unfold fzR at e
    cases q : w[n]? with
    | none => simp only [q] at e; exact gen n e h
    | some o =>
      cases o with
      | draw a b c =>
        simp only [q] at e
        cases e
        exact ⟨Stp.refl r, h⟩
      | _ => simp only [q] at e; exact gen n e h
variable {e : Expr} {m : Env → Mo SV} {c : Expr} {mc : Env → Mo Bool} {a b : List Stmt} {ma mb : Env → Mo Out} {st : Stmt} {rest : List Stmt}
theorem ds_asg {i : Nat} {x : Str} {pos' : Pos} (hN : X.N.Nodup) (he : DE X EA W e m) (hi : X.N[i]? = some x := by rfl) (hx : Loc X.env.scope x := by first | exact Or.inl rfl | exact Or.inr rfl) (hs : swapsWith e (some (.Name x pos')) pos.line X.env = pure false := by rfl)
    (hf : X.fn x = true ∨ X.env.scope.names.lookup x = some .local := by first | exact .inl rfl | exact .inr rfl | assumption) : DS X EA W (.Assign [.Name x pos'] e pos) (mAsg i m) := by
  obtain ⟨t, p, s⟩ := he.ex
  refine ⟨_, ps_set hN hi hx p hs hf, fun ι w σ H ρ D R E h => ?_⟩
  exact s ι w σ H ρ _ R E ((Hyp.bind (h.wE σ)).imp fun v ι1 w1 H1 s1 h1 V rv => Hyp.pure h1 s1.rel _ ((E.stp s1).set rv))
/-- no error comes -/
def noErrR {α : Type} : Option (Res α × Sto) → Prop
  | some (.err _ _, _) => False
  | _ => True
/-- a value to a target of any form -/
def mAsgG (m : Env → Mo SV) (set : PyData → Env → Mo Env) : Env → Mo Out := fun ρ => mBind (m ρ) fun v => match v with
  | .dat d => mBind (set d ρ) fun ρ' => mPure (.nx ρ')
  | _ => mFail
theorem ds_asgG {tg : Expr} {js : List Nat} {set : PyData → Env → Mo Env} (he : DE X EA W e m) (hg : DG X EA W tg js set) (hs : swapsWithSole [tg] e pos.line X.env = pure false := by rfl) (hw : swappedStores [tg] e X.env = pure none := by rfl)
    (h1 : (assignEach [tg] X.env).map (·.2) = [assign tg X.env] := by rfl) (ne : ∀ d ρ w, noErrR (set d ρ w)) : DS X EA W (.Assign [tg] e pos) (mAsgG m set) := by
  obtain ⟨t, p, s⟩ := he.ex
  obtain ⟨u, q, z⟩ := hg.ex
  refine ⟨_, ps_asg p q hs hw h1, fun ι w σ H ρ D R E h => ?_⟩
  refine s ι w σ H ρ _ R E ((Hyp.bind (h.wE σ)).imp fun v ι1 w1 H1 s1 g1 V rv => ?_)
  cases v with
  | dat d =>
    have g2 := Hyp.bind g1
    have nd := ne d ρ w1
    refine z ι1 w1 σ H1 ρ V d _ s1.rel (E.stp s1) rv ?_
    revert g2 nd
    cases set d ρ w1 with
    | none => intro g2 _; exact g2.elim
    | some r =>
      obtain ⟨r1, r2⟩ := r
      cases r1 with
      | err _ _ => intro _ nd; exact nd.elim
      | ok ρ' => intro g2 _; exact fun ι' H' s' σ' E' _ => Hyp.pure (g2 ι' H' s') s'.rel σ' E'
  | _ => exact g1.elim
theorem ds_drop (he : DE X EA W e m) (hs : swapsWith e none pos.line X.env = pure false := by rfl) : DS X EA W (.Expr e pos) (mDrop m) := by
  obtain ⟨t, p, s⟩ := he.ex
  refine ⟨_, ps_expr p hs, fun ι w σ H ρ D R E h => ?_⟩
  exact s ι w σ H ρ _ R E ((Hyp.bind (h.wE σ)).imp fun v ι1 w1 H1 s1 h1 V rv => Hyp.pure h1 s1.rel _ (E.stp s1))
theorem ds_ret (he : DE X EA W e m) : DS X EA W (.Return (some e) pos) (mRet m) := by
  obtain ⟨t, p, s⟩ := he.ex
  refine ⟨_, ps_ret p, fun ι w σ H ρ D R E h => ?_⟩
  refine s ι w σ H ρ _ R E ((Hyp.bind (h.wE σ)).imp fun v ι1 w1 H1 s1 h1 V rv => ?_)
  cases q : fzR v w1 with
  | none => simp only [q] at h1; exact h1.elim
  | some p =>
    obtain ⟨y, w2⟩ := p
    simp only [q] at h1
    obtain ⟨s2, r2⟩ := fzR_ok s1.rel rv q
    exact h1 _ _ s2 V r2
theorem ds_retN : DS X EA W (.Return none pos) mRetN := ⟨_, ps_retN, fun ι w σ H ρ D R E h => Hyp.pure h R _ Dt.non⟩
theorem ds_pass : DS X EA W (.Pass pos) mSkip := ⟨_, ps_pass, fun ι w σ H ρ D R E h => Hyp.pure h R σ E⟩
theorem ds_brk : DS X EA W (.Break pos) mBrk := ⟨_, ps_break, fun ι w σ H ρ D R E h => Hyp.pure h R σ E⟩
theorem ds_cnt : DS X EA W (.Continue pos) mCnt := ⟨_, ps_continue, fun ι w σ H ρ D R E h => Hyp.pure h R σ E⟩
theorem ds_never : DS X EA W st mNever := ⟨_, ps_never, fun ι w σ H ρ D R E h => h.elim⟩
theorem dss_nil : DSs X EA W [] mSkip := ⟨_, pss_nil, fun ι w σ H ρ D R E h => Hyp.pure h R σ E⟩
theorem dss_one (h : DS X EA W st ma) : DSs X EA W [st] ma := by
  obtain ⟨t, p, s⟩ := h.ex
  exact ⟨t, pss_one p, s⟩
theorem dss_cons (h1 : DS X EA W st ma) (h2 : DSs X EA W rest mb) : DSs X EA W (st :: rest) (mSeq ma mb) := by
  obtain ⟨t, p, s⟩ := h1.ex
  obtain ⟨u, q, z⟩ := h2.ex
  refine ⟨_, pss_cons p q, fun ι w σ H ρ D R E h => ?_⟩
  refine s ι w σ H ρ _ R E ((Hyp.bind h).imp fun o ι1 w1 H1 s1 h1 => ?_)
  cases o with
  | nx ρ' => exact fun σ' E' => z ι1 w1 σ' H1 ρ' D s1.rel E' h1
  | rt v =>
    have g : Hyp X.K EA ι1 w1 H1 (mPure (.rt v) w1) (OutP X D) (WE' W) := h1
    exact (Hyp.pure g s1.rel : OutP X D (.rt v) ι1 w1 H1)
  | bk v =>
    have g : Hyp X.K EA ι1 w1 H1 (mPure (.bk v) w1) (OutP X D) (WE' W) := h1
    exact (Hyp.pure g s1.rel : OutP X D (.bk v) ι1 w1 H1)
  | ct v =>
    have g : Hyp X.K EA ι1 w1 H1 (mPure (.ct v) w1) (OutP X D) (WE' W) := h1
    exact (Hyp.pure g s1.rel : OutP X D (.ct v) ι1 w1 H1)
theorem ds_if (hc : DT X EA W c mc) (ha : DSs X EA W a ma) (hb : DSs X EA W b mb) : DS X EA W (.If c a b pos) (mIfS mc ma mb) := by
  obtain ⟨t, p, s⟩ := hc.ex
  obtain ⟨u, q, z⟩ := ha.ex
  obtain ⟨u', q', z'⟩ := hb.ex
  refine ⟨_, ps_if p q q', fun ι w σ H ρ D R E h => ?_⟩
  -- the test's own wish looks at no slots
  have h0 := Hyp.bind h
  refine s ι w σ H ρ _ R E ((h0.wE σ).imp fun k ι1 w1 H1 s1 h1 => ?_)
  cases k with
  | true => exact iteT (z _ _ σ H1 ρ D s1.rel (E.stp s1) h1)
  | false => exact iteF (z' _ _ σ H1 ρ D s1.rel (E.stp s1) h1)
end
end EG


set_option Elab.async false
set_option linter.all false
set_option maxRecDepth 100000
set_option maxHeartbeats 4000000
namespace EG
open PySem PySem.Spec PyProof.Rows L2

/-! ### what is walked -/
/-- the heap has one object more, at most -/
def Grow (H H' : Hp) : Prop := H' = H ∨ ∃ p o, H p = none ∧ H' = upd H p o
theorem Grow.stp {K : PySem.W.Frag} {ι : List (List Addr)} {w : Sto} {H H' : Hp} (r : SRel K ι w H) (g : Grow H H') : Stp K ι w H ι w H' := by
  rcases g with rfl | ⟨p, o, hp, rfl⟩
  · exact Stp.refl r
  · exact Stp.new r hp
/-- J yields these data, in every later state -/
structure Walks (K : PySem.W.Frag) (J : It) (ds : List PyData) (M : List Addr) (H : Hp) : Prop where
  go : ∀ M' H', Go M H M' H' → ∀ (i : Nat) d, ds[i]? = some d → J.go i H'
  yld : ∀ M' H', Go M H M' H' → (∀ b, b ∈ M' → ∃ u, H' b = some u) → ∀ (i : Nat) d, ds[i]? = some d → ∀ x H'', J.yld i H' x H'' → Grow H' H'' ∧ Dt K M' H'' x d
  stop : ∀ M' H', Go M H M' H' → J.stop ds.length H'
structure DI (X : Cx) (EA : EAt) (W : WX) (tg iter : Expr) (m : Env → Mo (List PyData)) : Prop where
  ex : ∃ wi : TI, PI X tg iter wi ∧ ∀ ι w σ H ρ R, SRel X.K ι w H → EnvR X.K ι (mz ι w) H σ ρ → Hyp X.K EA ι w H (m ρ w) (fun ds ι' w' H' => ∀ J, Walks X.K J ds (mz ι' w') H' → R J H') (fun cls d H' => W cls d σ H') → wi σ H R

/-- the items of plain data that stand still -/
def mItems (m : Env → Mo SV) : Env → Mo (List PyData) := fun ρ => mBind (m ρ) fun x w => match x with
  | .dat (.list ds) => some (.ok ds, w)
  | .dat (.tuple ds) => some (.ok ds, w)
  | .scr ns => some (.ok (ns.map .int), w)
  | _ => none
section
variable {K : PySem.W.Frag} {M : List Addr} {H : Hp}
theorem walk_l {a : Addr} {vs : List V} {ds : List PyData} (h : ∀ M' H', Go M H M' H' → SqL K H' a vs) (q : DtA K M H vs ds) : Walks K (Itl K a) ds M H where
  go := fun M' H' g i d e => by
    obtain ⟨v, h1, h2⟩ := q.getD e
    exact ⟨vs, v, h M' H' g, h1⟩
  yld := fun M' H' g th i d e x H'' y => by
    obtain ⟨rfl, y⟩ := y
    obtain ⟨v, h1, h2⟩ := q.getD e
    have e2 := y vs (h M' _ g)
    rw [h1] at e2
    cases e2
    exact ⟨.inl rfl, h2.go g⟩
  stop := fun M' H' g => ⟨vs, h M' H' g, by rw [q.length]; exact Nat.le_refl _⟩
theorem walk_t {a : Addr} {vs : List V} {ds : List PyData} (h : ∀ M' H', Go M H M' H' → SqT K H' a vs) (q : DtA K M H vs ds) : Walks K (Itt K a) ds M H where
  go := fun M' H' g i d e => by
    obtain ⟨v, h1, h2⟩ := q.getD e
    exact ⟨vs, v, h M' H' g, h1⟩
  yld := fun M' H' g th i d e x H'' y => by
    obtain ⟨rfl, y⟩ := y
    obtain ⟨v, h1, h2⟩ := q.getD e
    have e2 := y vs (h M' _ g)
    rw [h1] at e2
    cases e2
    exact ⟨.inl rfl, h2.go g⟩
  stop := fun M' H' g => ⟨vs, h M' H' g, by rw [q.length]; exact Nat.le_refl _⟩
def intsFrom (lo : Int) (n : Nat) : List PyData := (List.range n).map fun i => .int (lo + (i : Nat))
theorem walk_r {lo : Int} {n : Nat} : Walks K (Itr lo n) (intsFrom lo n) M H where
  go := fun M' H' g i d e => by
    have : i < (intsFrom lo n).length := (List.getElem?_eq_some_iff.mp e).1
    show i < n
    simpa [intsFrom] using this
  yld := fun M' H' g th i d e x H'' y => by
    obtain ⟨rfl, rfl⟩ := y
    have hi : i < n := by
      have : i < (intsFrom lo n).length := (List.getElem?_eq_some_iff.mp e).1
      simpa [intsFrom] using this
    have e' : d = .int (lo + (i : Nat)) := by
      unfold intsFrom at e
      rw [List.getElem?_map, List.getElem?_range hi] at e
      exact (Option.some.inj e).symm
    subst e'
    exact ⟨.inl rfl, Dt.int _⟩
  stop := fun M' H' g => by
    show n ≤ (intsFrom lo n).length
    simp [intsFrom]
end
section
variable {X : Cx} {EA : EAt} {W : WX} {a b tg : Expr} {ma mb : Env → Mo SV} {pos p : Pos}
/-- lists: the iterator of a list; tuples: that of a tuple. The rule is chosen by what the value is -/
def mItemsL (m : Env → Mo SV) : Env → Mo (List PyData) := fun ρ => mBind (m ρ) fun x w => match x with
  | .dat (.list ds) => some (.ok ds, w)
  | .scr ns => some (.ok (ns.map .int), w)
  | _ => none
def mItemsT (m : Env → Mo SV) : Env → Mo (List PyData) := fun ρ => mBind (m ρ) fun x w => match x with
  | .dat (.tuple ds) => some (.ok ds, w)
  | _ => none
theorem di_list (ha : DE X EA W a ma) : DI X EA W tg a (mItemsL ma) := by
  obtain ⟨t, q, s⟩ := ha.ex
  refine ⟨_, pi_list q, fun ι w σ H ρ R S E h => ?_⟩
  refine s ι w σ H ρ _ S E ((Hyp.bind h).imp fun x ι1 w1 H1 s1 h1 V rv => ?_)
  cases x with
  | dat d =>
    cases d with
    | list ds =>
      cases rv with
      | lst h n q =>
        refine ⟨_, rfl, ⟨_, SqL.of h⟩, Hyp.here h1 s1.rel _ (walk_l (fun M' H' g => SqL.of (g _ _ n h).1) q)⟩
    | _ => exact h1.elim
  | scr ns =>
    obtain ⟨a, rfl, q⟩ := rv
    exact ⟨_, rfl, ⟨_, q.sq⟩, Hyp.here h1 s1.rel _ (walk_l (fun M' H' g => (q.go g).sq) (DtA.ints ns))⟩
  | _ => exact h1.elim
theorem di_tup (ha : DE X EA W a ma) : DI X EA W tg a (mItemsT ma) := by
  obtain ⟨t, q, s⟩ := ha.ex
  refine ⟨_, pi_tup q, fun ι w σ H ρ R S E h => ?_⟩
  refine s ι w σ H ρ _ S E ((Hyp.bind h).imp fun x ι1 w1 H1 s1 h1 V rv => ?_)
  cases x with
  | dat d =>
    cases d with
    | tuple ds =>
      obtain ⟨a, vs, rfl, h2, h3⟩ := ST.tup rv
      exact ⟨_, rfl, ⟨_, h2.sq⟩, Hyp.here h1 s1.rel _ (walk_t (fun M' H' g => (h2.go g).sq) h3)⟩
    | _ => exact h1.elim
  | _ => exact h1.elim
def in62 (i : Int) : Bool := decide (-(2 ^ 62) ≤ i ∧ i < 2 ^ 62)
def mRange1 (m : Env → Mo SV) : Env → Mo (List PyData) := fun ρ => mBind (m ρ) fun x w => match x with
  | .dat (.int n) => if in62 n then some (.ok (intsFrom 0 n.toNat), w) else none
  | _ => none
def mRange2 (m m2 : Env → Mo SV) : Env → Mo (List PyData) := fun ρ => mBind (m ρ) fun x => mBind (m2 ρ) fun y w => match x, y with
  | .dat (.int l), .dat (.int n) => if in62 l && in62 n then some (.ok (intsFrom l (n - l).toNat), w) else none
  | _, _ => none
theorem di_range1 (hm : X.mg "range" = none) (ha : DE X EA W a ma) (hg : Gl X "range" := by rfl) (hs : starEach [a] X.env = [(false, eval a X.env)] := by rfl) (hs' : starEach (a :: []) X.env = (false, eval a X.env) :: starEach [] X.env := by rfl) : DI X EA W tg (.Call (.Name "range" p) [a] [] pos) (mRange1 ma) := by
  obtain ⟨t, q, s⟩ := ha.ex
  refine ⟨_, pi_range1 hg hm (pa_cons q pa_nil hs') hs, fun ι w σ H ρ R S E h => ?_⟩
  refine s ι w σ H ρ _ S E ((Hyp.bind h).imp fun x ι1 w1 H1 s1 h1 V rv => ?_)
  cases x with
  | dat d =>
    cases d with
    | int n =>
      cases rv
      by_cases c : in62 n = true
      · have h2 : Hyp X.K EA ι1 w1 H1 (if in62 n then some (.ok (intsFrom 0 n.toNat), w1) else none) _ _ := h1
        rw [if_pos c] at h2
        have c' := of_decide_eq_true c
        exact ⟨n, rfl, c'.1, c'.2, Hyp.here h2 s1.rel _ walk_r⟩
      · have h2 : Hyp X.K EA ι1 w1 H1 (if in62 n then some (.ok (intsFrom 0 n.toNat), w1) else none) _ _ := h1
        rw [if_neg c] at h2
        exact h2.elim
    | _ => exact h1.elim
  | _ => exact h1.elim
theorem di_range2 (hm : X.mg "range" = none) (ha : DE X EA W a ma) (hb : DE X EA W b mb) (hg : Gl X "range" := by rfl) (hs : starEach [a, b] X.env = [(false, eval a X.env), (false, eval b X.env)] := by rfl) (hs2 : starEach [b] X.env = [(false, eval b X.env)] := by rfl)
    (hs' : starEach (a :: [b]) X.env = (false, eval a X.env) :: starEach [b] X.env := by rfl) (hs3 : starEach (b :: []) X.env = (false, eval b X.env) :: starEach [] X.env := by rfl) : DI X EA W tg (.Call (.Name "range" p) [a, b] [] pos) (mRange2 ma mb) := by
  obtain ⟨ta, pa, sa⟩ := ha.ex
  obtain ⟨tb, pb, sb⟩ := hb.ex
  refine ⟨_, pi_range2 hg hm (pa_cons pa (pa_cons pb pa_nil hs3) hs') hs hs2, fun ι w σ H ρ R S E h => ?_⟩
  refine two (R := fun x y H2 => ∃ i j : Int, [x, y] = [V.int i, V.int j] ∧ (-(2 ^ 62) ≤ i ∧ i < 2 ^ 62 ∧ -(2 ^ 62) ≤ j ∧ j < 2 ^ 62) ∧ R (Itr i (j - i).toNat) H2) sa sb S E h fun ι2 w2 H2 vx vy x y s rx ry h2 => ?_
  cases x with
  | dat d =>
    cases d with
    | int l =>
      cases y with
      | dat d =>
        cases d with
        | int n =>
          cases rx
          cases ry
          by_cases c : (in62 l && in62 n) = true
          · have h3 : Hyp X.K EA ι2 w2 H2 (if in62 l && in62 n then some (.ok (intsFrom l (n - l).toNat), w2) else none) _ _ := h2
            rw [if_pos c] at h3
            simp only [Bool.and_eq_true] at c
            have c1 := of_decide_eq_true c.1
            have c2 := of_decide_eq_true c.2
            exact ⟨l, n, rfl, ⟨c1.1, c1.2, c2.1, c2.2⟩, Hyp.here h3 s.rel _ walk_r⟩
          · have h3 : Hyp X.K EA ι2 w2 H2 (if in62 l && in62 n then some (.ok (intsFrom l (n - l).toNat), w2) else none) _ _ := h2
            rw [if_neg c] at h3
            exact h3.elim
        | _ => exact h2.elim
      | _ => exact h2.elim
    | _ => exact h2.elim
  | _ => exact h2.elim

/-! ### for, while -/
def forL (set : PyData → Env → Mo Env) (body : Env → Mo Out) : List PyData → Env → Mo Out
  | [], ρ => mPure (.nx ρ)
  | d :: r, ρ => mBind (set d ρ) fun ρ1 => mBind (body ρ1) fun o => match o with
    | .nx ρ2 => forL set body r ρ2
    | .ct ρ2 => forL set body r ρ2
    | .bk ρ2 => mPure (.nx ρ2)
    | .rt v => mPure (.rt v)
def mFor (it : Env → Mo (List PyData)) (set : PyData → Env → Mo Env) (body : Env → Mo Out) : Env → Mo Out := fun ρ => mBind (it ρ) fun ds => forL set body ds ρ
/-- no target raises -/
def NoErr (set : PyData → Env → Mo Env) : Prop := ∀ d ρ w, noErrR (set d ρ w)
theorem NoErr.name (i : Nat) : NoErr (mSet i) := fun _ _ _ => True.intro
theorem noErr_sets : ∀ {fs : List (PyData → Env → Mo Env)}, (∀ f ∈ fs, NoErr f) → ∀ ds ρ w, noErrR (mSets fs ds ρ w)
  | [], _, [], _, _ => True.intro
  | [], _, _ :: _, _, _ => True.intro
  | _ :: _, _, [], _, _ => True.intro
  | f :: fs, h, d :: ds, ρ, w => by
    have h1 := h f List.mem_cons_self d ρ w
    show noErrR (mBind (f d ρ) (fun ρ' => mSets fs ds ρ') w)
    unfold mBind
    cases q : f d ρ w with
    | none => trivial
    | some r =>
      obtain ⟨r1, r2⟩ := r
      cases r1 with
      | err _ _ => rw [q] at h1; exact h1.elim
      | ok ρ1 => exact noErr_sets (fun g hg => h g (List.mem_cons_of_mem _ hg)) ds ρ1 r2
theorem NoErr.tup {fs : List (PyData → Env → Mo Env)} (h : ∀ f ∈ fs, NoErr f) : NoErr (mSetT fs) := fun d ρ w => by
  cases d with
  | tuple ds =>
    show noErrR ((if ds.length = fs.length then mSets fs ds ρ else mFail) w)
    by_cases e : ds.length = fs.length
    · rw [if_pos e]; exact noErr_sets h ds ρ w
    · rw [if_neg e]; trivial
  | _ => trivial
theorem Hyp.noErr {α : Type} {K : PySem.W.Frag} {ι : List (List Addr)} {w : Sto} {H : Hp} {r : Option (Res α × Sto)} {P : α → List (List Addr) → Sto → Hp → Prop} {W W' : Value → Option Addr → Hp → Prop} (h : Hyp K EA ι w H r P W) (n : noErrR r) : Hyp K EA ι w H r P W' := by
  cases r with
  | none => exact h.elim
  | some q =>
    obtain ⟨q1, q2⟩ := q
    cases q1 with
    | ok a => exact h
    | err c fs => exact n.elim
theorem drop_get {ds : List PyData} {i : Nat} (h : i < ds.length) : ds.drop i = ds[i] :: ds.drop (i + 1) := List.drop_eq_getElem_cons h
variable {set : PyData → Env → Mo Env} {js : List Nat} {it : Env → Mo (List PyData)} {body : List Stmt} {mbody : Env → Mo Out} {iter : Expr}
theorem ds_for (hp : PassesOwn (model X.prog X.w) X.A X.env X.xe) (hc : X.calm = true) (hi : DI X EA W tg iter it) (hg : DG X EA W tg js set) (hb : DSs X EA W body mbody) (ne : NoErr set)
    (hs : ∀ x, foldedSetIterable iter X.env x = pure x := by intro _; rfl) : DS X EA W (.For tg iter body [] pos) (mFor it set mbody) := by
  obtain ⟨wi, pi, si⟩ := hi.ex
  obtain ⟨g, pg, sg⟩ := hg.ex
  obtain ⟨tb, pb, sb⟩ := hb.ex
  refine ⟨_, ps_for hp hc pi pg pb hs, fun ι w σ H ρ D R E h => ?_⟩
  refine si ι w σ H ρ _ R E (((Hyp.bind h).wE σ).imp fun ds ι1 w1 H1 s1 h1 J wk => ?_)
  refine ⟨fun i m σ H => ∃ ι w ρ, m = ds.length - i ∧ i ≤ ds.length ∧ Stp X.K ι1 w1 H1 ι w H ∧ EnvR X.K ι (mz ι w) H σ ρ ∧ Hyp X.K EA ι w H (forL set mbody (ds.drop i) ρ w) (OutP X D) (WE' W),
    ⟨ds.length, ι1, w1, ρ, rfl, Nat.zero_le _, Stp.refl s1.rel, E.stp s1, h1⟩, ?_⟩
  rintro i m σ2 H2 ⟨ι2, w2, ρ2, rfl, hi, s2, E2, h2⟩
  by_cases hlt : i < ds.length
  · refine .inr ⟨wk.go _ _ s2.go i _ (List.getElem?_eq_getElem hlt), fun σ H => ∃ m', m' < ds.length - i ∧ ∃ ι w ρ, m' = ds.length - (i + 1) ∧ i + 1 ≤ ds.length ∧ Stp X.K ι1 w1 H1 ι w H ∧ EnvR X.K ι (mz ι w) H σ ρ ∧ Hyp X.K EA ι w H (forL set mbody (ds.drop (i + 1)) ρ w) (OutP X D) (WE' W),
      fun σ' H' q => q, fun x H3 y => ?_⟩
    obtain ⟨gr, hx⟩ := wk.yld _ _ s2.go (fun b hb => s2.rel.there hb) i _ (List.getElem?_eq_getElem hlt) x H3 y
    have s3 := gr.stp s2.rel
    rw [drop_get hlt] at h2
    have h3 := Hyp.bind (h2.on s3)
    refine sg ι2 w2 σ2 H3 ρ2 x _ _ s3.rel (E2.stp s3) hx ((h3.imp fun ρ4 ι4 w4 H4 s4 h4 σ4 E4 _ => ?_).noErr (ne _ _ _))
    refine sb ι4 w4 σ4 H4 ρ4 _ s4.rel E4 ((Hyp.bind h4).imp fun o ι5 w5 H5 s5 h5 => ?_)
    have s15 := ((s2.trans s3).trans s4).trans s5
    cases o with
    | nx ρ5 => exact fun σ5 E5 => ⟨ds.length - (i + 1), by omega, ι5, w5, ρ5, rfl, hlt, s15, E5, h5⟩
    | ct ρ5 => exact fun σ5 E5 => ⟨ds.length - (i + 1), by omega, ι5, w5, ρ5, rfl, hlt, s15, E5, h5⟩
    | bk ρ5 =>
      have g : Hyp X.K EA ι5 w5 H5 (mPure (.nx ρ5) w5) (OutP X D) (WE' W) := h5
      exact fun σ5 E5 => (Hyp.pure g s5.rel : OutP X D (.nx ρ5) ι5 w5 H5) σ5 E5
    | rt v =>
      have g : Hyp X.K EA ι5 w5 H5 (mPure (.rt v) w5) (OutP X D) (WE' W) := h5
      exact (Hyp.pure g s5.rel : OutP X D (.rt v) ι5 w5 H5)
  · have e : i = ds.length := by omega
    subst e
    rw [List.drop_length] at h2
    have g : Hyp X.K EA ι2 w2 H2 (mPure (.nx ρ2) w2) (OutP X D) (WE' W) := h2
    exact .inl ⟨wk.stop _ _ s2.go, (Hyp.pure g s2.rel : OutP X D (.nx ρ2) ι2 w2 H2) σ2 E2⟩
/-- while: some number of turns is enough -/
def whileL (c : Env → Mo Bool) (body : Env → Mo Out) : Nat → Env → Mo Out
  | 0, _ => mFail
  | n + 1, ρ => mBind (c ρ) fun k => if k then mBind (body ρ) (fun o => match o with
    | .nx ρ2 => whileL c body n ρ2
    | .ct ρ2 => whileL c body n ρ2
    | .bk ρ2 => mPure (.nx ρ2)
    | .rt v => mPure (.rt v)) else mPure (.nx ρ)
def mWhile (n : Nat) (c : Env → Mo Bool) (body : Env → Mo Out) : Env → Mo Out := whileL c body n
variable {c : Expr} {mc : Env → Mo Bool}
theorem ds_while (n : Nat) (hp : PassesOwn (model X.prog X.w) X.A X.env X.xe) (hc : DT X EA W c mc) (hb : DSs X EA W body mbody) : DS X EA W (.While c body [] pos) (mWhile n mc mbody) := by
  obtain ⟨t, p, s⟩ := hc.ex
  obtain ⟨tb, pb, sb⟩ := hb.ex
  refine ⟨_, ps_while hp p pb, fun ι w σ H ρ D R E h => ?_⟩
  refine ⟨fun m σ H => ∃ ι w ρ, SRel X.K ι w H ∧ EnvR X.K ι (mz ι w) H σ ρ ∧ Hyp X.K EA ι w H (whileL mc mbody m ρ w) (OutP X D) (WE' W), ⟨n, ι, w, ρ, R, E, h⟩, ?_⟩
  rintro m σ2 H2 ⟨ι2, w2, ρ2, R2, E2, h2⟩
  cases m with
  | zero => exact h2.elim
  | succ m =>
    have h3 := Hyp.bind h2
    refine s ι2 w2 σ2 H2 ρ2 _ R2 E2 ((h3.wE σ2).imp fun k ι3 w3 H3 s3 h4 => ?_)
    cases k with
    | false =>
      have g : Hyp X.K EA ι3 w3 H3 (mPure (.nx ρ2) w3) (OutP X D) (WE' W) := h4
      exact iteF ((Hyp.pure g s3.rel : OutP X D (.nx ρ2) ι3 w3 H3) σ2 (E2.stp s3))
    | true =>
      refine iteT ⟨fun σ H => ∃ m', m' < m + 1 ∧ ∃ ι w ρ, SRel X.K ι w H ∧ EnvR X.K ι (mz ι w) H σ ρ ∧ Hyp X.K EA ι w H (whileL mc mbody m' ρ w) (OutP X D) (WE' W), fun _ _ q => q, ?_⟩
      have h5 := Hyp.bind h4
      refine sb ι3 w3 σ2 H3 ρ2 _ s3.rel (E2.stp s3) (h5.imp fun o ι5 w5 H5 s5 h6 => ?_)
      cases o with
      | nx ρ5 => exact fun σ5 E5 => ⟨m, Nat.lt_succ_self m, ι5, w5, ρ5, s5.rel, E5, h6⟩
      | ct ρ5 => exact fun σ5 E5 => ⟨m, Nat.lt_succ_self m, ι5, w5, ρ5, s5.rel, E5, h6⟩
      | bk ρ5 =>
        have g : Hyp X.K EA ι5 w5 H5 (mPure (.nx ρ5) w5) (OutP X D) (WE' W) := h6
        exact fun σ5 E5 => (Hyp.pure g s5.rel : OutP X D (.nx ρ5) ι5 w5 H5) σ5 E5
      | rt v =>
        have g : Hyp X.K EA ι5 w5 H5 (mPure (.rt v) w5) (OutP X D) (WE' W) := h6
        exact (Hyp.pure g s5.rel : OutP X D (.rt v) ι5 w5 H5)
end
end EG


set_option Elab.async false
set_option linter.all false
set_option maxRecDepth 100000
set_option maxHeartbeats 4000000
namespace EG
open PySem PySem.Spec PyProof.Rows L2

/-! ### the store cut back -/
section
variable {K : PySem.W.Frag} {ι ι' κ : List (List Addr)} {w w' : Sto} {H H' : Hp}
theorem SRel.cut (r : SRel K ι w H) (h : κ <+: ι) : SRel K κ (w.take κ.length) H ∧ (mz κ (w.take κ.length)).Sublist (mz ι w) := by
  obtain ⟨t, rfl⟩ := h
  have hl : κ.length ≤ w.length := by
    have := r.len
    rw [List.length_append] at this
    omega
  have e1 : κ.length = (w.take κ.length).length := by
    rw [List.length_take]
    omega
  have e2 : mz (κ ++ t) w = mz κ (w.take κ.length) ++ mz t (w.drop κ.length) := by
    have := mz_app (κ := t) (u := w.drop κ.length) e1
    rw [List.take_append_drop] at this
    exact this
  have sub : (mz κ (w.take κ.length)).Sublist (mz (κ ++ t) w) := by
    rw [e2]
    exact List.sublist_append_left _ _
  refine ⟨⟨e1, fun n l o h1 h2 => ?_, r.nd.sublist sub⟩, sub⟩
  have hn : n < κ.length := (List.getElem?_eq_some_iff.mp h1).1
  rw [List.getElem?_take_of_lt hn] at h2
  exact (r.ok n l o (by rw [List.getElem?_append_left hn]; exact h1) h2).go (Go.less fun b hb => sub.subset hb) fun _ _ => rfl
theorem Stp.cut (s : Stp K ι w H ι' w' H') : Stp K ι w H ι (w'.take ι.length) H' := by
  obtain ⟨r, sub⟩ := s.rel.cut s.pre
  exact ⟨List.prefix_rfl, s.go.trans (Go.less fun b hb => sub.subset hb), r⟩
theorem Dt.cut {v : V} {d : PyData} (r : SRel K ι w H) (h : κ <+: ι) (q : Dt K (mz ι w) H v d) : Dt K (mz κ (w.take κ.length)) H v d := Dt.go (Go.less fun b hb => (r.cut h).2.subset hb) q
end

/-! ### the judgements with one reading for all -/
def cE (K : PySem.W.Frag) (EA : EAt) (W : WX) (m : Env → Mo SV) : TE := fun σ H Q => ∃ ι w ρ, SRel K ι w H ∧ EnvR K ι (mz ι w) H σ ρ ∧ Hyp K EA ι w H (m ρ w) (fun v ι' w' H' => ∀ V, VRel K ι' (mz ι' w') H' V v → Q V H') (fun cls d H' => W cls d σ H')
def cT (K : PySem.W.Frag) (EA : EAt) (W : WX) (m : Env → Mo Bool) : TT := fun σ H Q => ∃ ι w ρ, SRel K ι w H ∧ EnvR K ι (mz ι w) H σ ρ ∧ Hyp K EA ι w H (m ρ w) (fun b _ _ H' => Q b H') (fun cls d H' => W cls d σ H')
def cG (K : PySem.W.Frag) (EA : EAt) (js : List Nat) (m : PyData → Env → Mo Env) : TG := fun V σ H Q => ∃ ι w ρ d, SRel K ι w H ∧ EnvR K ι (mz ι w) H σ ρ ∧ Dt K (mz ι w) H V d ∧
  Hyp K EA ι w H (m d ρ w) (fun ρ' ι' w' H' => ∀ σ', EnvR K ι' (mz ι' w') H' σ' ρ' → (∀ vs, (∀ j ∈ js, j ∈ vs) → wipe σ' vs = wipe σ vs) → Q σ' H') (fun _ _ _ => False)
section
variable {X : Cx} {EA : EAt} {W : WX} {e : Expr}
theorem DE.can {m : Env → Mo SV} (h : DE X EA W e m) : PE X e (cE X.K EA W m) := by
  obtain ⟨t, p, s⟩ := h.ex
  exact ⟨fun pins z σ H Q I ⟨ι, w, ρ, R, E, q⟩ => p.run pins z σ H Q I (s ι w σ H ρ Q R E q)⟩
theorem DT.can {m : Env → Mo Bool} (h : DT X EA W e m) : PT X e (cT X.K EA W m) := by
  obtain ⟨t, p, s⟩ := h.ex
  exact ⟨fun pins z σ H Q I ⟨ι, w, ρ, R, E, q⟩ => p.run pins z σ H Q I (s ι w σ H ρ Q R E q)⟩
theorem DG.can {js : List Nat} {m : PyData → Env → Mo Env} (h : DG X EA W e js m) : PG X e (cG X.K EA js m) := by
  obtain ⟨t, p, s⟩ := h.ex
  exact ⟨fun pins z σ H v u Q I r ⟨ι, w, ρ, d, R, E, hv, q⟩ => p.run pins z σ H v u Q I r (s ι w σ H ρ v d Q R E hv q)⟩
end
def Wn : WX := fun _ _ _ _ => False
/-- a clause's tests: none, one -/
structure DTs (X : Cx) (EA : EAt) (ifs : List Expr) (m : Env → Mo Bool) : Prop where
  ex : PTs X ifs (cT X.K EA Wn m)
def mYes : Env → Mo Bool := fun _ => mPure true
section
variable {X : Cx} {EA : EAt}
theorem dts_nil : DTs X EA [] mYes := ⟨⟨fun pins z σ H Q I ⟨ι, w, ρ, R, E, q⟩ => pts_nil.run pins z σ H Q I (show tYes σ H Q from Hyp.pure q R)⟩⟩
theorem dts_one {c : Expr} {m : Env → Mo Bool} (h : DT X EA Wn c m) : DTs X EA [c] m := ⟨pts_one h.can⟩
end

/-! ### comprehensions -/
def wipeE (ρ : Env) : List Nat → Env
  | [] => ρ
  | v :: vs => (wipeE ρ vs).set v none
theorem EnvR.wipe {K : PySem.W.Frag} {ι : List (List Addr)} {M : List Addr} {H : Hp} {σ : L2.St} {ρ : Env} (e : EnvR K ι M H σ ρ) : ∀ vs : List Nat, EnvR K ι M H (L2.wipe σ vs) (wipeE ρ vs)
  | [] => e
  | v :: vs => by
    have ih := e.wipe vs
    refine ⟨by show ((L2.wipe σ vs).set v none).length = ((wipeE ρ vs).set v none).length; rw [List.length_set, List.length_set]; exact ih.1, fun i x hi => ?_⟩
    have hi : ((wipeE ρ vs).set v none)[i]? = some (some x) := hi
    show ∃ V, ((L2.wipe σ vs).set v none)[i]? = some (some V) ∧ _
    by_cases h : v = i
    · subst h
      by_cases hl : v < (wipeE ρ vs).length
      · rw [List.getElem?_set_self hl] at hi; cases hi
      · rw [List.getElem?_eq_none (by simpa using hl)] at hi; cases hi
    · rw [List.getElem?_set_ne h] at hi ⊢
      exact ih.2 i x hi
def lcL (n : Nat) (set : PyData → Env → Mo Env) (cond : Env → Mo Bool) (elt : Env → Mo SV) : List PyData → Env → Mo Unit
  | [], _ => mPure ()
  | d :: r, ρ => mBind (set d ρ) fun ρ1 => mBind (cond ρ1) fun b => if b then mBind (elt ρ1) (fun x w => match fz1 x w with
    | some (e, w1) => match w1[n]? with
      | some (.lst acc) => if acc.length < sizeLine then lcL n set cond elt r ρ (w1.set n (.lst (acc ++ [e]))) else none
      | _ => none
    | none => none) else lcL n set cond elt r ρ
def mLc (it : Env → Mo (List PyData)) (vs : List Nat) (set : PyData → Env → Mo Env) (cond : Env → Mo Bool) (elt : Env → Mo SV) : Env → Mo SV := fun ρ => mBind (it ρ) fun ds w =>
  match lcL w.length set cond elt ds (wipeE ρ vs) (w ++ [.lst []]) with
  | some (.ok (), w') => match w'[w.length]? with
    | some (.lst acc) => some (.ok (.dat (.list acc)), w'.take w.length)
    | _ => none
  | _ => none
/-- an Mo that ends well -/
theorem ok_bind {α β : Type} {m : Mo α} {f : α → Mo β} {w : Sto} {b : β} {w' : Sto} (h : mBind m f w = some (.ok b, w')) : ∃ a w1, m w = some (.ok a, w1) ∧ f a w1 = some (.ok b, w') := by
  unfold mBind at h
  cases e : m w with
  | none => rw [e] at h; cases h
  | some q =>
    obtain ⟨r, w1⟩ := q
    rw [e] at h
    cases r with
    | err c fs => cases h
    | ok a => exact ⟨a, w1, rfl, h⟩
theorem Hyp.ofOk {α : Type} {K : PySem.W.Frag} {EA : EAt} {ι : List (List Addr)} {w w' : Sto} {H : Hp} {r : Option (Res α × Sto)} {a : α} {P : α → List (List Addr) → Sto → Hp → Prop} {W : Value → Option Addr → Hp → Prop} (e : r = some (.ok a, w')) (h : ∀ ι' H', Stp K ι w H ι' w' H' → P a ι' w' H') : Hyp K EA ι w H r P W := by
  rw [e]
  exact h
section
variable {X : Cx} {EA : EAt} {W : WX} {elt tg iter : Expr} {ifs : List Expr} {scope : Scope} {own : List (Str × Nat)} {pos : Pos} {it : Env → Mo (List PyData)} {set : PyData → Env → Mo Env} {js : List Nat} {mc : Env → Mo Bool} {me : Env → Mo SV}
/-- the turns of a comprehension -/
theorem lc_run {wi : TI} {vs : List Nat} {ι : List (List Addr)} {w : Sto} {σ : L2.St} {H : Hp} {ρ : Env} {Q : VK} {Ws : Value → Option Addr → Hp → Prop}
    (si : ∀ ι w σ H ρ R, SRel X.K ι w H → EnvR X.K ι (mz ι w) H σ ρ → Hyp X.K EA ι w H (it ρ w) (fun ds ι' w' H' => ∀ J, Walks X.K J ds (mz ι' w') H' → R J H') (fun cls d H' => W cls d σ H') → wi σ H R) (hj : ∀ j ∈ js, j ∈ vs)
    (R : SRel X.K ι w H) (E : EnvR X.K ι (mz ι w) H σ ρ)
    (h : Hyp X.K EA ι w H (it ρ w) (fun ds ι1 w1 H1 => ∃ u wf, lcL w1.length set mc me ds (wipeE ρ vs) (w1 ++ [.lst []]) = some (.ok u, wf) ∧ ∀ D ι2 H2, H1 D = none → SRel X.K ι1 w1 H1 → Stp X.K (ι1 ++ [[D]]) (w1 ++ [.lst []]) (upd H1 D (.lst [])) ι2 wf H2 → Q (.ref D) H2) (fun cls d H' => W cls d σ H')) :
    tLc wi (cG X.K EA js set) (cT X.K EA Wn mc) (cE X.K EA Wn me) vs σ H Q := by
  refine si ι w σ H ρ _ R E (h.imp fun ds ι1 w1 H1 s1 h1 J wk D hD => ?_)
  have E1 := (E.stp s1).wipe vs
  obtain ⟨u, wf, hl, h1⟩ := h1
  have sN := Stp.newLst (vs := []) (ds := []) s1.rel hD .nil
  refine ⟨fun i m H => ∃ ι w, m = ds.length - i ∧ i ≤ ds.length ∧ Stp X.K (ι1 ++ [[D]]) (w1 ++ [.lst []]) (upd H1 D (.lst [])) ι w H ∧ lcL w1.length set mc me (ds.drop i) (wipeE ρ vs) w = some (.ok u, wf),
    ⟨ds.length, _, _, rfl, Nat.zero_le _, Stp.refl sN.rel, hl⟩, ?_⟩
  rintro i m H2 ⟨ι2, w2, rfl, hi, s2, h2⟩
  have E2 : EnvR X.K ι2 (mz ι2 w2) H2 (wipe σ vs) (wipeE ρ vs) := (E1.stp sN).stp s2
  -- the list at D in any later store
  have hDx : ∀ {κ : List (List Addr)}, (ι1 ++ [[D]]) <+: κ → κ[w1.length]? = some [D] := fun {κ} p => by
    obtain ⟨t, rfl⟩ := p
    rw [List.append_assoc, List.getElem?_append_right (by rw [s1.rel.len]; exact Nat.le_refl _), s1.rel.len, Nat.sub_self]
    rfl
  by_cases hlt : i < ds.length
  · refine .inr ⟨wk.go _ _ (sN.trans s2).go i _ (List.getElem?_eq_getElem hlt), fun H => ∃ m', m' < ds.length - i ∧ ∃ ι w, m' = ds.length - (i + 1) ∧ i + 1 ≤ ds.length ∧ Stp X.K (ι1 ++ [[D]]) (w1 ++ [.lst []]) (upd H1 D (.lst [])) ι w H ∧
        lcL w1.length set mc me (ds.drop (i + 1)) (wipeE ρ vs) w = some (.ok u, wf), fun H' q => q, fun x H3 y => ?_⟩
    obtain ⟨gr, hx⟩ := wk.yld _ _ (sN.trans s2).go (fun b hb => s2.rel.there hb) i _ (List.getElem?_eq_getElem hlt) x H3 y
    have s3 := gr.stp s2.rel
    rw [drop_get hlt] at h2
    obtain ⟨ρ4, w4, e4, h4⟩ := ok_bind h2
    refine ⟨ι2, w2, _, _, s3.rel, E2.stp s3, hx, Hyp.ofOk e4 fun ι4 H4 s4 σ4 E4 k4 => ?_⟩
    obtain ⟨b, w5, e5, h5⟩ := ok_bind h4
    refine ⟨by rw [k4 _ hj, wipe_wipe], ι4, w4, ρ4, s4.rel, E4, Hyp.ofOk e5 fun ι5 H5 s5 => ?_⟩
    have s25 := ((s2.trans s3).trans s4).trans s5
    cases b with
    | false => exact iteF ⟨ds.length - (i + 1), by omega, ι5, w5, rfl, hlt, s25, h5⟩
    | true =>
      refine iteT ?_
      have h5' := h5
      simp only [if_true] at h5'
      obtain ⟨z, w6, e6, h6⟩ := ok_bind h5'
      refine ⟨ι5, w5, ρ4, s5.rel, E4.stp s5, Hyp.ofOk e6 fun ι6 H6 s6 V6 r6 => ?_⟩
      cases f : fz1 z w6 with
      | none => simp only [f] at h6; cases h6
      | some p =>
        obtain ⟨de, w7⟩ := p
        simp only [f] at h6
        obtain ⟨s7, r7⟩ := fz1_ok s6.rel r6 f
        have s27 := (s25.trans s6).trans s7
        have hD7 := hDx s27.pre
        cases g : w7[w1.length]? with
        | none => simp only [g] at h6; cases h6
        | some o =>
          cases o with
          | lst acc =>
            simp only [g] at h6
            obtain ⟨a, vs, ea, eb, ec⟩ := s7.rel.ok _ _ _ hD7 g
            injection ea with ea _
            subst ea
            by_cases hz : acc.length < sizeLine
            · rw [if_pos hz] at h6
              refine ⟨vs, eb, by rw [ec.length]; exact hz, ds.length - (i + 1), by omega, ι6, _, rfl, hlt, s27.trans ?_, h6⟩
              have fo : footOf [D] (.lst acc) = footOf [D] (.lst (acc ++ [de])) := rfl
              refine Stp.write s7.rel hD7 g fo (fun b x nb e => by
                rw [upd_ne (fun z => nb (by rw [z]; simp [footOf]))]; exact e) (fun _ _ _ => .inr True.intro) ?_
              have gw : Go (mz ι6 w7) H6 (mz ι6 w7) (upd H6 D (.lst (vs ++ [V6]))) := Go.write (mem_mz hD7 g (by simp [footOf]))
              exact ⟨D, _, rfl, upd_same, (ec.go gw).app (.cons (r7.go gw) .nil)⟩
            · rw [if_neg hz] at h6; cases h6
          | _ => simp only [g] at h6; cases h6
  · have e : i = ds.length := by omega
    subst e
    rw [List.drop_length] at h2
    cases h2
    exact .inl ⟨wk.stop _ _ (sN.trans s2).go, h1 D ι2 H2 hD s1.rel s2⟩
/-- .. its list as plain data -/
theorem lc_dat {ι1 ι2 : List (List Addr)} {w1 wf : Sto} {H1 H2 : Hp} {D : Addr} {acc : List PyData} {K : PySem.W.Frag} (r1 : SRel K ι1 w1 H1) (hD : H1 D = none) (s2 : Stp K (ι1 ++ [[D]]) (w1 ++ [.lst []]) (upd H1 D (.lst [])) ι2 wf H2) (g : wf[w1.length]? = some (.lst acc)) :
    Stp K ι1 w1 H1 ι1 (wf.take w1.length) H2 ∧ Dt K (mz ι1 (wf.take w1.length)) H2 (.ref D) (.list acc) := by
  have sN := Stp.newLst (vs := []) (ds := []) r1 hD .nil
  have hD2 : ι2[w1.length]? = some [D] := by
    obtain ⟨t, rfl⟩ := s2.pre
    rw [List.append_assoc, List.getElem?_append_right (by rw [r1.len]; exact Nat.le_refl _), r1.len, Nat.sub_self]
    rfl
  obtain ⟨a, vs, ea, eb, ec⟩ := s2.rel.ok _ _ _ hD2 g
  injection ea with ea _
  subst ea
  have s := (sN.trans s2).cut
  rw [r1.len] at s
  refine ⟨s, ?_⟩
  have p : ι1 <+: ι2 := (List.prefix_append _ _).trans s2.pre
  have nD : D ∉ mz ι1 (wf.take w1.length) := fun z => by
    obtain ⟨n, l, o, g1, g2, g3⟩ := of_mz z
    have hn : n < ι1.length := (List.getElem?_eq_some_iff.mp g1).1
    have hn' : n < w1.length := by rw [← r1.len]; exact hn
    rw [List.getElem?_take_of_lt hn'] at g2
    obtain ⟨t, rfl⟩ := p
    have g1' : (ι1 ++ t)[n]? = some l := by rw [List.getElem?_append_left hn]; exact g1
    have := mz_apart s2.rel.nd g1' g2 g3 hD2 g (by simp [footOf])
    omega
  refine Dt.lst eb nD ?_
  have sub := (s2.rel.cut p).2
  rw [r1.len] at sub
  exact ec.go (Go.less fun b hb => sub.subset hb)
/-- .. as a list that may change -/
theorem lc_own {ι1 ι2 : List (List Addr)} {w1 wf : Sto} {H1 H2 : Hp} {D : Addr} {K : PySem.W.Frag} (r1 : SRel K ι1 w1 H1) (hD : H1 D = none) (s2 : Stp K (ι1 ++ [[D]]) (w1 ++ [.lst []]) (upd H1 D (.lst [])) ι2 wf H2) :
    Stp K ι1 w1 H1 (ι1 ++ [[D]]) (wf.take (w1.length + 1)) H2 := by
  have sN := Stp.newLst (vs := []) (ds := []) r1 hD .nil
  have s := s2.cut
  rw [List.length_append, List.length_singleton, r1.len] at s
  exact sN.trans s
theorem lc_fin {ι : List (List Addr)} {w : Sto} {H : Hp} {vs : List Nat} {ρ : Env} {Q : SV → List (List Addr) → Sto → Hp → Prop} {V : VK} {ds : List PyData} {Ws : Value → Option Addr → Hp → Prop}
    (h : Hyp X.K EA ι w H ((fun w => match lcL w.length set mc me ds (wipeE ρ vs) (w ++ [.lst []]) with
      | some (.ok (), w') => match w'[w.length]? with
        | some (.lst acc) => some (Res.ok (SV.dat (.list acc)), w'.take w.length)
        | _ => none
      | _ => none) w) Q Ws) : ∃ u wf acc, lcL w.length set mc me ds (wipeE ρ vs) (w ++ [.lst []]) = some (.ok u, wf) ∧ wf[w.length]? = some (.lst acc) ∧ ∀ ι' H', Stp X.K ι w H ι' (wf.take w.length) H' → Q (.dat (.list acc)) ι' (wf.take w.length) H' := by
  cases hl : lcL w.length set mc me ds (wipeE ρ vs) (w ++ [.lst []]) with
  | none => simp only [hl] at h; exact h.elim
  | some q =>
    obtain ⟨q1, wf⟩ := q
    cases q1 with
    | err _ _ => simp only [hl] at h; exact h.elim
    | ok u =>
      simp only [hl] at h
      cases g : wf[w.length]? with
      | none => simp only [g] at h; exact h.elim
      | some o =>
        cases o with
        | lst acc =>
          simp only [g] at h
          exact ⟨u, wf, acc, rfl, g, h⟩
        | _ => simp only [g] at h; exact h.elim
def mLcO (it : Env → Mo (List PyData)) (vs : List Nat) (set : PyData → Env → Mo Env) (cond : Env → Mo Bool) (elt : Env → Mo SV) : Env → Mo SV := fun ρ => mBind (it ρ) fun ds w =>
  match lcL w.length set cond elt ds (wipeE ρ vs) (w ++ [.lst []]) with
  | some (.ok (), w') => some (.ok (.obj w.length), w'.take (w.length + 1))
  | _ => none
theorem lc_finO {ι : List (List Addr)} {w : Sto} {H : Hp} {vs : List Nat} {ρ : Env} {Q : SV → List (List Addr) → Sto → Hp → Prop} {ds : List PyData} {Ws : Value → Option Addr → Hp → Prop}
    (h : Hyp X.K EA ι w H ((fun w => match lcL w.length set mc me ds (wipeE ρ vs) (w ++ [.lst []]) with
      | some (.ok (), w') => some (Res.ok (SV.obj w.length), w'.take (w.length + 1))
      | _ => none) w) Q Ws) : ∃ u wf, lcL w.length set mc me ds (wipeE ρ vs) (w ++ [.lst []]) = some (.ok u, wf) ∧ ∀ ι' H', Stp X.K ι w H ι' (wf.take (w.length + 1)) H' → Q (.obj w.length) ι' (wf.take (w.length + 1)) H' := by
  cases hl : lcL w.length set mc me ds (wipeE ρ vs) (w ++ [.lst []]) with
  | none => simp only [hl] at h; exact h.elim
  | some q =>
    obtain ⟨q1, wf⟩ := q
    cases q1 with
    | err _ _ => simp only [hl] at h; exact h.elim
    | ok u =>
      simp only [hl] at h
      exact ⟨u, wf, rfl, h⟩
abbrev BlkG (X : Cx) (scope : Scope) (p : Cx → Prop) : Prop := ∀ (s : Shared) (H : Hp) (C : Addr) (cl : List (Str × Addr)) (fp : List Addr), p (X.blk s H scope (compEnvC scope cl C X.env) fp)
theorem de_lc (hc : X.calm = true) (hN : X.N.Nodup) (hi : DI X EA W tg iter it) (ok : BlkOk X.N X.env.scope scope own)
    (hg : BlkG X scope fun Y => DG Y EA Wn tg js set) (ht : BlkG X scope fun Y => DTs Y EA ifs mc)
    (he : BlkG X scope fun Y => DE Y EA Wn elt me) (hj : ∀ j ∈ js, j ∈ own.map (·.2)) (hs : ∀ x, foldedSetIterable iter X.env x = pure x := by intro _; rfl) :
    DE X EA W (.ListComp elt [⟨tg, iter, ifs, 0⟩] scope pos) (mLc it (own.map (·.2)) set mc me) := by
  obtain ⟨wi, pi, si⟩ := hi.ex
  refine ⟨_, pe_lc (g := cG X.K EA js set) (tt := cT X.K EA Wn mc) (te := cE X.K EA Wn me) hc hN pi ok (fun s H C cl fp => (hg s H C cl fp).can) (fun s H C cl fp => (ht s H C cl fp).ex) (fun s H C cl fp => (he s H C cl fp).can) hs, fun ι w σ H ρ Q R E h => ?_⟩
  refine lc_run (Ws := fun cls d H' => W cls d σ H') si hj R E ((Hyp.bind h).imp fun ds ι1 w1 H1 s1 h1 => ?_)
  obtain ⟨u, wf, acc, e1, e2, q⟩ := lc_fin (V := Q) h1
  refine ⟨u, wf, e1, fun D ι2 H2 hD r1 s2 => ?_⟩
  obtain ⟨s, d⟩ := lc_dat r1 hD s2 e2
  exact q _ _ s _ d
theorem de_lcO (hc : X.calm = true) (hN : X.N.Nodup) (hi : DI X EA W tg iter it) (ok : BlkOk X.N X.env.scope scope own)
    (hg : BlkG X scope fun Y => DG Y EA Wn tg js set) (ht : BlkG X scope fun Y => DTs Y EA ifs mc)
    (he : BlkG X scope fun Y => DE Y EA Wn elt me) (hj : ∀ j ∈ js, j ∈ own.map (·.2)) (hs : ∀ x, foldedSetIterable iter X.env x = pure x := by intro _; rfl) :
    DE X EA W (.ListComp elt [⟨tg, iter, ifs, 0⟩] scope pos) (mLcO it (own.map (·.2)) set mc me) := by
  obtain ⟨wi, pi, si⟩ := hi.ex
  refine ⟨_, pe_lc (g := cG X.K EA js set) (tt := cT X.K EA Wn mc) (te := cE X.K EA Wn me) hc hN pi ok (fun s H C cl fp => (hg s H C cl fp).can) (fun s H C cl fp => (ht s H C cl fp).ex) (fun s H C cl fp => (he s H C cl fp).can) hs, fun ι w σ H ρ Q R E h => ?_⟩
  refine lc_run (Ws := fun cls d H' => W cls d σ H') si hj R E ((Hyp.bind h).imp fun ds ι1 w1 H1 s1 h1 => ?_)
  obtain ⟨u, wf, e1, q⟩ := lc_finO h1
  exact ⟨u, wf, e1, fun D ι2 H2 hD r1 s2 => q _ _ (lc_own r1 hD s2) _ (VRel.last r1.len)⟩
/-- y = [..] -/
theorem ds_setLc {i : Nat} {y : Str} {py spos : Pos} (hc : X.calm = true) (hN : X.N.Nodup) (hi : DI X EA W tg iter it) (ok : BlkOk X.N X.env.scope scope own)
    (hg : BlkG X scope fun Y => DG Y EA Wn tg js set) (ht : BlkG X scope fun Y => DTs Y EA ifs mc)
    (he : BlkG X scope fun Y => DE Y EA Wn elt me) (hj : ∀ j ∈ js, j ∈ own.map (·.2)) (hy : X.N[i]? = some y := by rfl) (hyl : X.env.scope.names.lookup y = some .local := by rfl) (hk : X.env.scope.kind = .function := by rfl)
    (hl : (py.line == pos.line) = true := by rfl) (ha : (scope.names.any fun (n, k) => n == y && (k == .local || k == .cell)) = false := by rfl) (hs : ∀ x, foldedSetIterable iter X.env x = pure x := by intro _; rfl) :
    DS X EA W (.Assign [.Name y py] (.ListComp elt [⟨tg, iter, ifs, 0⟩] scope pos) spos) (mAsg i (mLc it (own.map (·.2)) set mc me)) := by
  obtain ⟨wi, pi, si⟩ := hi.ex
  refine ⟨_, ps_setLc (g := cG X.K EA js set) (tt := cT X.K EA Wn mc) (te := cE X.K EA Wn me) hc hN hy hyl (sw_true hk hyl hl ha) pi ok (fun s H C cl fp => (hg s H C cl fp).can) (fun s H C cl fp => (ht s H C cl fp).ex) (fun s H C cl fp => (he s H C cl fp).can) hs, fun ι w σ H ρ D R E h => ?_⟩
  refine lc_run (Ws := fun cls d H' => W cls d σ H') si hj R E ((Hyp.bind (Hyp.bind (h.wE σ))).imp fun ds ι1 w1 H1 s1 h1 => ?_)
  obtain ⟨u, wf, acc, e1, e2, q⟩ := lc_fin (V := fun _ _ => True) h1
  refine ⟨u, wf, e1, fun P ι2 H2 hP r1 s2 => ?_⟩
  obtain ⟨s, d⟩ := lc_dat r1 hP s2 e2
  have g := q _ _ s
  exact Hyp.pure g s.rel _ (((E.stp s1).stp s).set d)
theorem ds_setLcO {i : Nat} {y : Str} {py spos : Pos} (hc : X.calm = true) (hN : X.N.Nodup) (hi : DI X EA W tg iter it) (ok : BlkOk X.N X.env.scope scope own)
    (hg : BlkG X scope fun Y => DG Y EA Wn tg js set) (ht : BlkG X scope fun Y => DTs Y EA ifs mc)
    (he : BlkG X scope fun Y => DE Y EA Wn elt me) (hj : ∀ j ∈ js, j ∈ own.map (·.2)) (hy : X.N[i]? = some y := by rfl) (hyl : X.env.scope.names.lookup y = some .local := by rfl) (hk : X.env.scope.kind = .function := by rfl)
    (hl : (py.line == pos.line) = true := by rfl) (ha : (scope.names.any fun (n, k) => n == y && (k == .local || k == .cell)) = false := by rfl) (hs : ∀ x, foldedSetIterable iter X.env x = pure x := by intro _; rfl) :
    DS X EA W (.Assign [.Name y py] (.ListComp elt [⟨tg, iter, ifs, 0⟩] scope pos) spos) (mAsg i (mLcO it (own.map (·.2)) set mc me)) := by
  obtain ⟨wi, pi, si⟩ := hi.ex
  refine ⟨_, ps_setLc (g := cG X.K EA js set) (tt := cT X.K EA Wn mc) (te := cE X.K EA Wn me) hc hN hy hyl (sw_true hk hyl hl ha) pi ok (fun s H C cl fp => (hg s H C cl fp).can) (fun s H C cl fp => (ht s H C cl fp).ex) (fun s H C cl fp => (he s H C cl fp).can) hs, fun ι w σ H ρ D R E h => ?_⟩
  refine lc_run (Ws := fun cls d H' => W cls d σ H') si hj R E ((Hyp.bind (Hyp.bind (h.wE σ))).imp fun ds ι1 w1 H1 s1 h1 => ?_)
  obtain ⟨u, wf, e1, q⟩ := lc_finO h1
  refine ⟨u, wf, e1, fun P ι2 H2 hP r1 s2 => ?_⟩
  have s := lc_own r1 hP s2
  have g := q _ _ s
  exact Hyp.pure g s.rel _ (((E.stp s1).stp s).set (VRel.last r1.len))
end
end EG


set_option Elab.async false
set_option linter.all false
set_option maxRecDepth 100000
set_option maxHeartbeats 4000000
namespace EG
open PySem PySem.Spec PyProof.Rows L2

/-! ### defs, where no repr runs around them -/
structure FnG (P : Program) (w : World) (K : PySem.W.Frag) (mg : Str → Option Value) (base : Heap) (k : Nat) (f : Addr) (fd : FuncData) (ps : List Str) (sp : Sp) : Prop where
  len : ∀ vs H Q E, sp vs H Q E → vs.length = ps.length
  run : ∀ (A : Around) (outer : List PySem.Env) (s : Shared) (H : Hp) (args : Args) (us : List Value) (vs : List V) (Q : VK) (E : XK), A.guards = some [] → Room k A → Env0 P w K mg base A outer s H → BindsTo s fd args (ps.zip us) → Vals vs us → sp vs H Q E →
    codeAny (model P w) A (.call (.ref f) args) (CR (L2.CX P w) outer P w H s Q E) s
section
variable {P : Program} {w : World} {K : PySem.W.Frag} {mg : Str → Option Value} {base : Heap}
theorem FnG.mono {j k : Nat} {f : Addr} {fd : FuncData} {ps : List Str} {sp : Sp} (F : FnG P w K mg base j f fd ps sp) (h : j ≤ k) : FnG P w K mg base k f fd ps sp :=
  ⟨F.len, fun A outer s H args us vs Q E hg hr => F.run A outer s H args us vs Q E hg (hr.mono h)⟩
theorem FnG.imp {k : Nat} {f : Addr} {fd : FuncData} {ps : List Str} {sp sp' : Sp} (F : FnG P w K mg base k f fd ps sp) (h : ∀ vs H Q E, sp' vs H Q E → sp vs H Q E) : FnG P w K mg base k f fd ps sp' :=
  ⟨fun vs H Q E q => F.len vs H Q E (h _ _ _ _ q), fun A outer s H args us vs Q E hg hr he hb hv hs => F.run A outer s H args us vs Q E hg hr he hb hv (h _ _ _ _ hs)⟩
/-- a def that needs no such word -/
theorem FnG.of {k : Nat} {f : Addr} {fd : FuncData} {ps : List Str} {sp : Sp} (F : FnOk P w K mg base (L2.CX P w) k f fd ps sp) : FnG P w K mg base k f fd ps sp :=
  ⟨F.len, fun A outer s H args us vs Q E _ hr => F.run A outer s H args us vs Q E hr⟩
/-- none of its calls is asked -/
theorem FnG.none {k : Nat} {f : Addr} {fd : FuncData} {ps : List Str} {sp : Sp} (h : ∀ vs H Q E, ¬ sp vs H Q E) : FnG P w K mg base k f fd ps sp :=
  ⟨fun vs H Q E q => absurd q (h vs H Q E), fun A outer s H args us vs Q E _ _ _ _ _ q => absurd q (h vs H Q E)⟩
theorem deeper_guards {A : Around} {env : PySem.Env} (h : A.guards = some []) : (A.deeper env).guards = some [] := h
/-- a def by its body -/
theorem fnG_of {k : Nat} {f : Addr} {x qual : Str} {st : Stmt} {fd : FuncData} {N ps : List Str} {sp : Sp} (F : Fun K x qual st f fd) (S : FnScope N ps (defScope st)) (len : ∀ vs H Q E, sp vs H Q E → vs.length = ps.length)
    (hbody : ∀ (cdv : Value) (A : Around) (outer : List PySem.Env) (s : Shared) (H : Hp) (vs : List V) (Q : VK) (E : XK), A.guards = some [] → Room k (A.deeper (envOfC qual (defScope st) s.heap.objs.size f cdv)) → sp vs H Q E →
      ∃ t, PSs (cxOf (L2.CX P w) P w K mg base N qual (defScope st) f cdv A outer s H E) (defBody st) t ∧ t { nx := fun _ H' => Q .non H', rt := Q } (start N vs) H) : FnG P w K mg base (k + 1) f fd ps sp := by
  obtain ⟨oc, od, kV, doc, pm, an, cdv, ct, osl, rfl, lk, hcd⟩ := F.ex
  constructor
  · exact len
  intro A outer s H args us vs Q E hg hr e0 hb r hsp
  have KX : K.In s.heap := e0.mod.kin.keeps fun b o e => (e0.bs b o e).1
  have lim : s.heap.NoLimit := e0.mod.nolimit.keeps fun b o e => (e0.bs b o e).1
  refine codeAny_call_function hr.depth (KX _ _ lk) rfl S.co S.gen rfl (PySem.W.codeRec_of KX hcd) (hb _ _ _ _ ?_)
  refine wpAny_newFunctionEnv_cells S.kind (fun y hy => ?kind) fun env he s1 x => ?body
  case kind =>
    obtain ⟨n, v⟩ := y
    rcases S.par n (List.of_mem_zip hy).1 with q | q
    · exact .inl q
    · exact .inr ⟨q, PySem.W.cellsFrom_some _ _ _ (.inl q)⟩
  case body =>
    subst he
    refine ⟨lim.keeps x.toInCall.keep, codeAny_func ?_⟩
    obtain ⟨t, ht, hq⟩ := hbody cdv A outer s H vs Q E hg (hr.deeper _) hsp
    have I := inv_start (CX := L2.CX P w) (E := E) S hr.hd e0 (len _ _ _ _ hsp) r x
    refine wpAny_mono (ht.run [] s1 (start N vs) H _ I hq) (fun fl s' hs => ?_) fun _ _ hs => hs
    cases fl with
    | ret u =>
      obtain ⟨v, σ', H', J, rv, q⟩ := hs
      exact ⟨v, H', J.os, J.bare, J.base, J.hok, rv, q⟩
    | next =>
      obtain ⟨σ', H', J, q⟩ := hs
      exact ⟨.non, H', J.os, J.bare, J.base, J.hok, rfl, q⟩
    | brk => exact hs.elim fun _ z => z.elim fun _ z => False.elim z.2
    | cont => exact hs.elim fun _ z => z.elim fun _ z => False.elim z.2
end

/-! ### what a def promises, told by Mo -/
abbrev Fn := List SV → Mo SV
def spD (n : Nat) (K : PySem.W.Frag) (EA : EAt) (g : Fn) : Sp := fun vs H Q E => ∃ ι w xs, SRel K ι w H ∧ VsR K ι (mz ι w) H vs xs ∧ xs.length = n ∧ Hyp K EA ι w H (g xs w) (fun v ι' w' H' => ∀ V, VRel K ι' (mz ι' w') H' V v → Q V H') E
theorem spD_len {n : Nat} {K : PySem.W.Frag} {EA : EAt} {g : Fn} {ps : List Str} (h : ps.length = n) (vs : List V) (H : Hp) (Q : VK) (E : XK) (q : spD n K EA g vs H Q E) : vs.length = ps.length := by
  obtain ⟨ι, w, xs, _, r, e, _⟩ := q
  rw [r.length, e, h]
def startE (N : List Str) (xs : List SV) : Env := xs.map some ++ List.replicate (N.length - xs.length) none
theorem VsR.getx {K : PySem.W.Frag} {ι : List (List Addr)} {M : List Addr} {H : Hp} : ∀ {vs : List V} {xs : List SV} {i : Nat} {x : SV}, VsR K ι M H vs xs → xs[i]? = some x → ∃ v, vs[i]? = some v ∧ VRel K ι M H v x
  | _, _, _, _, .nil, e => by simp at e
  | _, _, 0, _, .cons h _, e => by
    cases (Option.some.inj e)
    exact ⟨_, rfl, h⟩
  | _, _, i + 1, x, .cons _ q, e => by
    obtain ⟨v, h1, h2⟩ := VsR.getx (i := i) q (by simpa using e)
    exact ⟨v, by simpa using h1, h2⟩
theorem start_rel {K : PySem.W.Frag} {ι : List (List Addr)} {M : List Addr} {H : Hp} {N : List Str} {vs : List V} {xs : List SV} (r : VsR K ι M H vs xs) : EnvR K ι M H (start N vs) (startE N xs) := by
  have hl := r.length
  refine ⟨by simp [L2.start, startE, hl], fun i v h => ?_⟩
  unfold startE at h
  by_cases hi : i < xs.length
  · rw [List.getElem?_append_left (by simpa using hi), List.getElem?_map] at h
    cases e : xs[i]? with
    | none => rw [e] at h; cases h
    | some y =>
      rw [e] at h
      cases h
      obtain ⟨V, h1, h2⟩ := r.getx e
      refine ⟨V, ?_, h2⟩
      unfold L2.start
      rw [List.getElem?_append_left (by rw [List.length_map, hl]; exact hi), List.getElem?_map, h1]
      rfl
  · rw [List.getElem?_append_right (by simpa using hi), List.getElem?_replicate] at h
    split at h <;> cases h
/-- a body's outcome as the def's: what is plain data leaves nothing in the store -/
def endO (n : Nat) : Option (Res Out × Sto) → Option (Res SV × Sto)
  | some (.ok (.rt (.dat d)), w') => some (.ok (.dat d), w'.take n)
  | some (.ok (.rt v), w') => some (.ok v, w')
  | some (.ok (.nx _), w') => some (.ok (.dat .none), w'.take n)
  | some (.err c fs, w') => some (.err c fs, w'.take n)
  | _ => none
def mDef (N : List Str) (m : Env → Mo Out) : Fn := fun xs w => endO w.length (m (startE N xs) w)
/-- errors stay told in later states -/
def EGo (EA : EAt) : Prop := ∀ M H M' H' c fs cls d, Go M H M' H' → EA M H c fs cls d → EA M' H' c fs cls d
section
variable {P : Program} {w : World} {K : PySem.W.Frag} {mg : Str → Option Value} {base : Heap} {EA : EAt}
theorem fnD {k : Nat} {f : Addr} {x qual : Str} {st : Stmt} {fd : FuncData} {N ps : List Str} {m : Env → Mo Out} (hEA : EGo EA) (F : Fun K x qual st f fd) (S : FnScope N ps (defScope st))
    (hbody : ∀ (cdv : Value) (A : Around) (outer : List PySem.Env) (s : Shared) (H : Hp) (E : XK), A.guards = some [] → Room k (A.deeper (envOfC qual (defScope st) s.heap.objs.size f cdv)) →
      DSs (cxOf (L2.CX P w) P w K mg base N qual (defScope st) f cdv A outer s H E) EA (fun cls d _ H => E cls d H) (defBody st) m) : FnG P w K mg base (k + 1) f fd ps (spD ps.length K EA (mDef N m)) := by
  refine fnG_of F S (spD_len rfl) fun cdv A outer s H vs Q E hg hr hsp => ?_
  obtain ⟨t, p, z⟩ := (hbody cdv A outer s H E hg hr).ex
  obtain ⟨ι, w0, xs, R, r, e, h⟩ := hsp
  refine ⟨t, p, z ι w0 _ H (startE N xs) _ R (start_rel r) ?_⟩
  have h' : Hyp K EA ι w0 H (endO w0.length (m (startE N xs) w0)) (fun v ι' w' H' => ∀ V, VRel K ι' (mz ι' w') H' V v → Q V H') E := h
  cases q : m (startE N xs) w0 with
  | none => rw [q] at h'; exact h'.elim
  | some o =>
    obtain ⟨o1, w1⟩ := o
    rw [q] at h'
    have cutS : ∀ {ι' H'}, Stp K ι w0 H ι' w1 H' → Stp K ι w0 H ι (w1.take w0.length) H' := fun {ι' H'} s => by
      have := s.cut
      rw [R.len] at this
      exact this
    have cutD : ∀ {ι' H' V d}, Stp K ι w0 H ι' w1 H' → Dt K (mz ι' w1) H' V d → Dt K (mz ι (w1.take w0.length)) H' V d := fun {ι' H' V d} s q => by
      have := Dt.cut s.rel s.pre q
      rw [R.len] at this
      exact this
    cases o1 with
    | err c fs =>
      refine fun ι' H' cls d s ea _ => h' ι H' cls d (cutS s) (hEA _ _ _ _ _ _ _ _ (Go.less fun b hb => ?_) ea)
      have sub := (s.rel.cut s.pre).2
      rw [R.len] at sub
      exact sub.subset hb
    | ok o =>
      cases o with
      | rt v =>
        cases v with
        | dat d => exact fun ι' H' s V rv => h' ι H' (cutS s) V (cutD s rv)
        | obj n => exact fun ι' H' s V rv => h' ι' H' s V rv
        | scr n => exact fun ι' H' s V rv => h' ι' H' s V rv
        | exc n => exact fun ι' H' s V rv => h' ι' H' s V rv
        | excs n => exact fun ι' H' s V rv => h' ι' H' s V rv
        | drg n => exact fun ι' H' s V rv => h' ι' H' s V rv
      | nx ρ => exact fun ι' H' s σ' E' => h' ι H' (cutS s) _ Dt.non
      | bk ρ => exact h'.elim
      | ct ρ => exact h'.elim
end
/-! ### calls of such defs -/
def mCall (g : Fn) (m : Env → Mo (List SV)) : Env → Mo SV := fun ρ => mBind (m ρ) fun xs => g xs
section
variable {X : Cx} {EA : EAt} {W : WX} {k : Nat} {f : Addr} {fd : FuncData} {ps : List Str} {sp : Sp} {x : Str} {p pos : Pos} {e : Expr} {es : List Expr}
theorem run_G {pins : List (Addr × Obj)} {σ : L2.St} {H : Hp} {s : Shared} {Q : VK} {us : List Value} {vs : List V} {E : XK} (F : FnG X.prog X.w X.K X.mg X.base k f fd ps sp) (hg : X.A.guards = some []) (hr : Room k X.A) (hb : Binds X.K fd ps []) (hx : PassesAt (L2.CX X.prog X.w) X σ E)
    (I : Inv X pins σ H s) (r : Vals vs us) (h : sp vs H Q E) : wpAny (model X.prog X.w) X.A (call (.ref f) us) (EP X pins σ Q) X.xe s := by
  have hl : us.length = ps.length := by rw [← r.length]; exact F.len _ _ _ _ h
  have b := hb s us I.kIn (by rw [List.append_nil]; exact hl)
  rw [List.append_nil] at b
  refine wpAny_call (codeAny_mono (F.run X.A X.stack s H ⟨us, []⟩ us vs Q E hg hr I.env0 b r h) fun res s' q => ?_)
  match res, q with
  | .error e, q => exact hx pins H s e s' I q
  | .ok (.ret u), q => exact I.after q
def tCallG (sp : Sp) (W : WX) (t : TA) : TE := fun σ H Q => t σ H fun vs H1 => sp vs H1 Q fun cls d H' => W cls d σ H'
theorem pe_callG (F : FnG X.prog X.w X.K X.mg X.base k f fd ps sp) (hg : X.A.guards = some []) (hr : Room k X.A) (hm : X.mg x = some (.ref f)) (hk : PySem.W.keepIn X.K (.ref f) = true) (hb : Binds X.K fd ps []) (tk : Takes X W) {t : TA} (ha : PA X (e :: es) t)
    (hgl : Gl X x := by rfl) (hdb : (x == ("__debug__" : Str)) = false := by decide) (he : starEach (e :: es) X.env = (false, eval e X.env) :: starEach es X.env := by rfl) (hpl : (backTo pos (starEach es X.env)).any (·.1) = false := by rfl) :
    PE X (.Call (.Name x p) (e :: es) [] pos) (tCallG sp W t) := by
  refine ⟨fun pins s σ H Q I h => ?_⟩
  refine wpAny_Call_Name_kw (ld_glob I hgl hm ?_ hdb)
  refine PySem.W.callWith_K (h₀ := X.base) I.ok.mod.kin hk (thn (ha.run pos pins s σ H _ I h) fun us s1 ⟨vs, H1, I1, r, q⟩ => ⟨I1.kIn, ?_⟩) he hpl
  exact run_G F hg hr hb (passAt tk σ) I1 r q
theorem pe_callG0 (F : FnG X.prog X.w X.K X.mg X.base k f fd ps sp) (hg : X.A.guards = some []) (hr : Room k X.A) (hm : X.mg x = some (.ref f)) (hk : PySem.W.keepIn X.K (.ref f) = true) (hb : Binds X.K fd ps []) (tk : Takes X W)
    (hgl : Gl X x := by rfl) (hdb : (x == ("__debug__" : Str)) = false := by decide) : PE X (.Call (.Name x p) [] [] pos) (tCallG sp W tNil) := by
  refine ⟨fun pins s σ H Q I h => ?_⟩
  refine wpAny_Call_Name_kw (ld_glob I hgl hm ?_ hdb)
  exact PySem.W.callWith_K0 I.kIn hk (run_G (us := []) (vs := []) F hg hr hb (passAt tk σ) I .nil h)
variable {n : Nat} {g : Fn} {ml : Env → Mo (List SV)}
/-- the number of what an argument list gives -/
def LenM (n : Nat) (m : Env → Mo (List SV)) : Prop := ∀ ρ w xs w', m ρ w = some (.ok xs, w') → xs.length = n
theorem LenM.nil : LenM 0 mNil := fun ρ w xs w' h => by cases h; rfl
theorem LenM.cons {a : Env → Mo SV} {m : Env → Mo (List SV)} {n : Nat} (h : LenM n m) : LenM (n + 1) (mCons a m) := fun ρ w xs w' e => by
  obtain ⟨y, w1, _, e1⟩ := ok_bind e
  obtain ⟨ys, w2, e2, e3⟩ := ok_bind e1
  cases e3
  rw [List.length_cons, h ρ w1 ys _ e2]
theorem Hyp.withEq {α : Type} {K : PySem.W.Frag} {EA : EAt} {ι : List (List Addr)} {w : Sto} {H : Hp} {r : Option (Res α × Sto)} {P : α → List (List Addr) → Sto → Hp → Prop} {W : Value → Option Addr → Hp → Prop} (h : Hyp K EA ι w H r P W) : Hyp K EA ι w H r (fun a ι' w' H' => r = some (.ok a, w') ∧ P a ι' w' H') W := by
  match r, h with
  | some (.ok a, w'), h => exact fun ι' H' s => ⟨rfl, h ι' H' s⟩
  | some (.err c fs, w'), h => exact h
theorem de_call (F : FnG X.prog X.w X.K X.mg X.base k f fd ps (spD n X.K EA g)) (hg : X.A.guards = some []) (hr : Room k X.A) (hm : X.mg x = some (.ref f)) (hk : PySem.W.keepIn X.K (.ref f) = true) (hb : Binds X.K fd ps []) (tk : Takes X W) (ha : DA X EA W (e :: es) ml) (hn : LenM n ml)
    (hgl : Gl X x := by rfl) (hdb : (x == ("__debug__" : Str)) = false := by decide) (he : starEach (e :: es) X.env = (false, eval e X.env) :: starEach es X.env := by rfl) (hpl : (backTo pos (starEach es X.env)).any (·.1) = false := by rfl) :
    DE X EA W (.Call (.Name x p) (e :: es) [] pos) (mCall g ml) := by
  obtain ⟨t, q, s⟩ := ha.ex
  refine ⟨_, pe_callG (W := W) F hg hr hm hk hb tk q hgl hdb he hpl, fun ι w σ H ρ Q R E h => ?_⟩
  exact s ι w σ H ρ _ R E ((Hyp.bind h).withEq.imp fun xs ι1 w1 H1 s1 h1 Vs rs => ⟨ι1, w1, xs, s1.rel, rs, hn _ _ _ _ h1.1, h1.2⟩)
theorem de_call0 (F : FnG X.prog X.w X.K X.mg X.base k f fd ps (spD 0 X.K EA g)) (hg : X.A.guards = some []) (hr : Room k X.A) (hm : X.mg x = some (.ref f)) (hk : PySem.W.keepIn X.K (.ref f) = true) (hb : Binds X.K fd ps []) (tk : Takes X W) (hgl : Gl X x := by rfl) (hdb : (x == ("__debug__" : Str)) = false := by decide) :
    DE X EA W (.Call (.Name x p) [] [] pos) (mCall g mNil) := by
  refine ⟨_, pe_callG0 (W := W) F hg hr hm hk hb tk hgl hdb, fun ι w σ H ρ Q R E h => ?_⟩
  exact ⟨ι, w, [], R, .nil, rfl, h⟩
end
end EG


set_option Elab.async false
set_option linter.all false
set_option maxRecDepth 100000
set_option maxHeartbeats 4000000
namespace EG
open PySem PySem.Spec PyProof.Rows L2
section
variable {X : Cx} {K : PySem.W.Frag} {EA : EAt} {W : WX} {a b c e : Expr} {es : List Expr} {ma mb mc m : Env → Mo SV} {ml : Env → Mo (List SV)} {pos p : Pos} {x : Str}
/-- an object of the store that changes no longer -/
def mFrz (m : Env → Mo SV) : Env → Mo SV := fun ρ => mBind (m ρ) fun x w => (fz1 x w).map fun p => (.ok (.dat p.1), p.2)
theorem de_frz (ha : DE X EA W a ma) : DE X EA W a (mFrz ma) := by
  obtain ⟨t, p, s⟩ := ha.ex
  refine ⟨t, p, fun ι w σ H ρ Q R E h => ?_⟩
  refine s ι w σ H ρ _ R E ((Hyp.bind h).imp fun v ι1 w1 H1 s1 h1 V rv => ?_)
  cases q : fz1 v w1 with
  | none => simp only [q] at h1; exact h1.elim
  | some p =>
    obtain ⟨d, w2⟩ := p
    simp only [q] at h1
    obtain ⟨s2, r2⟩ := fz1_ok s1.rel rv q
    exact h1 _ _ s2 V r2
/-! ### operators that make a new object of the store -/
abbrev Op2S := SV → SV → Sto → Option (SV × Sto)
def mBinS (ma mb : Env → Mo SV) (g : Op2S) : Env → Mo SV := fun ρ => mBind (ma ρ) fun x => mBind (mb ρ) fun y w => (g x y w).map fun p => (.ok p.1, p.2)
def OpSS (K : PySem.W.Frag) (r : R2) (g : Op2S) : Prop := ∀ ι w H vx vy x y v w' Q, SRel K ι w H → VRel K ι (mz ι w) H vx x → VRel K ι (mz ι w) H vy y → g x y w = some (v, w') → (∀ ι' H', Stp K ι w H ι' w' H' → ∀ V, VRel K ι' (mz ι' w') H' V v → Q V H') → r vx vy H Q
theorem OpSS.run {r : R2} {g : Op2S} (s : OpSS K r g) {ι : List (List Addr)} {w : Sto} {H : Hp} {vx vy : V} {x y : SV} {Q : VK} {W : Value → Option Addr → Hp → Prop} (R : SRel K ι w H) (hx : VRel K ι (mz ι w) H vx x) (hy : VRel K ι (mz ι w) H vy y)
    (h : Hyp K EA ι w H ((g x y w).map fun p => (Res.ok p.1, p.2)) (fun v ι' w' H' => ∀ V, VRel K ι' (mz ι' w') H' V v → Q V H') W) : r vx vy H Q := by
  cases e : g x y w with
  | none => rw [e] at h; exact h.elim
  | some p =>
    obtain ⟨v, w'⟩ := p
    rw [e] at h
    exact s ι w H vx vy x y v w' Q R hx hy e fun ι' H' st V rv => h ι' H' st V rv
theorem de_opS {op : Operator} {r : R2} {g : Op2S} (ho : OpR X (binaryOp op) r) (hs : OpSS X.K r g) (ha : DE X EA W a ma) (hb : DE X EA W b mb) : DE X EA W (.BinOp a op b pos) (mBinS ma mb g) := by
  obtain ⟨ta, pa, sa⟩ := ha.ex
  obtain ⟨tb, pb, sb⟩ := hb.ex
  refine ⟨_, pe_op ho pa pb, fun ι w σ H ρ Q R E h => ?_⟩
  exact two (R := fun x y H => r x y H Q) sa sb R E h fun ι2 w2 H2 vx vy x y s2 rx ry h2 => hs.run s2.rel rx ry h2
/-- xs + ys as a list that may change -/
def gCatO : Op2S := fun x y w => match toL w x, toL w y with
  | some xs, some ys => if fitsN (xs.length + ys.length) then some (.obj w.length, w ++ [.lst (xs ++ ys)]) else none
  | _, _ => none
theorem os_catO : OpSS K rCat gCatO := by
  intro ι w H vx vy x y v w' Q R rx ry e k
  unfold gCatO at e
  cases ex : toL w x with
  | none => simp only [ex] at e; cases e
  | some xs =>
    cases ey : toL w y with
    | none => simp only [ex, ey] at e; cases e
    | some ys =>
      simp only [ex, ey] at e
      obtain ⟨p1, vs, rfl, g1, q1⟩ := rx.l R ex
      obtain ⟨p2, us, rfl, g2, q2⟩ := ry.l R ey
      by_cases c : fitsN (xs.length + ys.length) = true
      · rw [if_pos c] at e
        cases e
        refine ⟨_, _, _, _, rfl, rfl, g1, g2, by rw [q1.length, q2.length]; exact of_decide_eq_true c, fun z hz => ?_⟩
        exact k _ _ (Stp.newLst R hz (q1.app q2)) _ (VRel.last R.len)
      · rw [if_neg c] at e; cases e
/-- xs * k -/
def gRep : Op2 := fun x y w => match toL w x, y with
  | some xs, .dat (.int k) => if decide (-(2 ^ 63) ≤ k ∧ k < 2 ^ 63) && fitsN (xs.length * k.toNat) then some (.dat (.list (List.replicate k.toNat xs).flatten)) else none
  | _, _ => none
theorem DtA.rep {M : List Addr} {H : Hp} {vs : List V} {ds : List PyData} (h : DtA K M H vs ds) : ∀ n, DtA K M H (List.replicate n vs).flatten (List.replicate n ds).flatten
  | 0 => .nil
  | n + 1 => by
    rw [List.replicate_succ, List.replicate_succ, List.flatten_cons, List.flatten_cons]
    exact h.app (DtA.rep h n)
theorem os_rep : OpS K rRep gRep := by
  intro ι w H vx vy x y v Q R rx ry e k
  unfold gRep at e
  cases ex : toL w x with
  | none => simp only [ex] at e; cases e
  | some xs =>
    simp only [ex] at e
    cases y with
    | dat d =>
      cases d with
      | int j =>
        simp only at e
        obtain ⟨p1, vs, rfl, g1, q1⟩ := rx.l R ex
        cases ry
        by_cases c : (decide (-(2 ^ 63) ≤ j ∧ j < 2 ^ 63) && fitsN (xs.length * j.toNat)) = true
        · rw [if_pos c] at e
          cases e
          rw [Bool.and_eq_true] at c
          have c1 := of_decide_eq_true c.1
          refine ⟨_, _, _, rfl, rfl, g1, c1.1, c1.2, by rw [q1.length]; exact of_decide_eq_true c.2, fun z hz => ?_⟩
          have s3 := Stp.new (o := .lst (List.replicate j.toNat vs).flatten) R hz
          exact k _ s3 _ (Dt.lst upd_same (fun m => R.ne m hz rfl) ((DtA.rep q1 j.toNat).go s3.go))
        · rw [if_neg c] at e; cases e
      | _ => cases e
    | _ => cases e
/-! ### xs.append(e), xs[i] = e -/
def appO (n : Nat) (y : SV) : Mo SV := fun w => match fz1 y w with
  | some (d, w') => match w'[n]? with
    | some (.lst ds) => if ds.length < sizeLine then some (.ok (.dat .none), w'.set n (.lst (ds ++ [d]))) else none
    | _ => none
  | none => none
def isLst : Option SO → Bool
  | some (.lst _) => true
  | _ => false
def mApp (mo me : Env → Mo SV) : Env → Mo SV := fun ρ => mBind (mo ρ) fun x => match x with
  | .obj n => fun w => if isLst w[n]? then mBind (me ρ) (appO n) w else none
  | _ => mFail
theorem Stp.wLst {ι : List (List Addr)} {w : Sto} {H : Hp} {n : Nat} {q : Addr} {ds es : List PyData} {us : List V} (R : SRel K ι w H) (h1 : ι[n]? = some [q]) (h2 : w[n]? = some (.lst ds)) (h : ∀ M H', Go (mz ι w) H M H' → DtA K M H' us es) :
    Stp K ι w H ι (w.set n (.lst es)) (upd H q (.lst us)) := by
  refine Stp.write R h1 h2 rfl (fun b x nb e => by rw [upd_ne (fun z => nb (by rw [z]; simp [footOf]))]; exact e) (fun _ _ _ => .inr True.intro) ?_
  exact ⟨q, us, rfl, upd_same, h _ _ (Go.write (mem_mz h1 h2 (by simp [footOf])))⟩
theorem lst_at {ι : List (List Addr)} {w : Sto} {H : Hp} {n : Nat} {q : Addr} {l : List Addr} {ds : List PyData} (R : SRel K ι w H) (h1 : ι[n]? = some (q :: l)) (h2 : w[n]? = some (.lst ds)) : l = [] ∧ ∃ vs, H q = some (.lst vs) ∧ DtA K (mz ι w) H vs ds := by
  obtain ⟨b, vs, e1, e2, e3⟩ := R.ok n _ _ h1 h2
  injection e1 with e1 e4
  subst e1
  exact ⟨e4, vs, e2, e3⟩
theorem de_app {apos cpos : Pos} (ho : DE X EA W a ma) (he : DE X EA W b mb)
    (hbase : attributeBase a "append" X.env (eval a X.env) = eval a X.env := by rfl)
    (hfew : ((backTo cpos (starEach (b :: []) X.env)).all (fun x => !x.1) && (backToKw cpos (keywordEach [] X.env)).all (fun x => x.1.isSome)
      && decide ((b :: ([] : List Expr)).length + ([] : List Keyword).length + (if ([] : List Keyword).isEmpty then 0 else 1) < 30)) = true := by rfl)
    (hline : (apos.endLine == cpos.line) = true := by rfl) (hs : starEach (b :: []) X.env = (false, eval b X.env) :: starEach [] X.env := by rfl) (hplain : (backTo cpos (starEach [] X.env)).any (·.1) = false := by rfl) :
    DE X EA W (.Call (.Attribute a "append" apos) [b] [] cpos) (mApp ma mb) := by
  obtain ⟨ta, pa, sa⟩ := ho.ex
  obtain ⟨tb, pb, sb⟩ := he.ex
  refine ⟨_, pe_bm PySem.F.plainAttrs_list PySem.F.slot_list_append PySem.F.type_list_append mt_append pa (pa_cons pb pa_nil hs) hbase hfew hline hs hplain, fun ι w σ H ρ Q R E h => ?_⟩
  refine sa ι w σ H ρ _ R E ((Hyp.bind h).imp fun x ι1 w1 H1 s1 h1 V1 r1 => ?_)
  cases x with
  | obj n =>
    obtain ⟨q, l, hn, rfl⟩ := r1
    by_cases c : isLst w1[n]? = true
    · simp only [if_pos c] at h1
      cases hw : w1[n]? with
      | none => rw [hw] at c; cases c
      | some o =>
        cases o with
        | lst ds =>
          obtain ⟨rfl, vs, g1, q1⟩ := lst_at s1.rel hn hw
          refine ⟨.inl ⟨rfl, _, SqL.of g1⟩, ?_⟩
          refine sb ι1 w1 σ H1 ρ _ s1.rel (E.stp s1) ((Hyp.bind h1).imp fun y ι2 w2 H2 s2 h2 V2 r2 => ?_)
          unfold appO at h2
          cases f : fz1 y w2 with
          | none => simp only [f] at h2; exact h2.elim
          | some p =>
            obtain ⟨d, w3⟩ := p
            simp only [f] at h2
            obtain ⟨s3, r3⟩ := fz1_ok s2.rel r2 f
            have hn3 : ι2[n]? = some [q] := by
              obtain ⟨t, rfl⟩ := s2.pre
              rw [List.getElem?_append_left (List.getElem?_eq_some_iff.mp hn).1]
              exact hn
            cases hw3 : w3[n]? with
            | none => simp only [hw3] at h2; exact h2.elim
            | some o =>
              cases o with
              | lst es =>
                simp only [hw3] at h2
                by_cases c2 : es.length < sizeLine
                · rw [if_pos c2] at h2
                  obtain ⟨_, us, g3, q3⟩ := lst_at s3.rel hn3 hw3
                  refine ⟨_, _, _, rfl, rfl, g3, by rw [q3.length]; exact c2, ?_⟩
                  exact h2 _ _ (s3.trans (Stp.wLst s3.rel hn3 hw3 fun M H' g => (q3.go g).app (.cons (r3.go g) .nil))) _ Dt.non
                · rw [if_neg c2] at h2; exact h2.elim
              | _ => simp only [hw3] at h2; exact h2.elim
        | _ => rw [hw] at c; cases c
    · simp only [if_neg c] at h1; exact h1.elim
  | _ => exact h1.elim
/-- xs[i] = e -/
def stiO (n : Nat) (k : Int) (y : SV) (ρ : Env) : Mo Out := fun w => match fz1 y w with
  | some (d, w') => match w'[n]? with
    | some (.lst ds) => match ixN ds.length k with
      | some j => some (.ok (.nx ρ), w'.set n (.lst (ds.set j d)))
      | none => none
    | _ => none
  | none => none
def mSti (me mo mi : Env → Mo SV) : Env → Mo Out := fun ρ => mBind (me ρ) fun y => mBind (mo ρ) fun x => mBind (mi ρ) fun i => match x, i with
  | .obj n, .dat (.int k) => stiO n k y ρ
  | _, _ => mFail
theorem ds_sti {sp : Pos} (he : DE X EA W e m) (ho : DE X EA W a ma) (hi : DE X EA W b mb)
    (hb : ∀ v, assign (.Subscript a b sp) X.env v = (do
      let ov ← holding [v] (eval a X.env)
      let iv ← holding [v, ov] (eval b X.env)
      standAt sp
      holding [v, ov, iv] (setItem ov iv v)
      release [v, ov, iv] []) := by intro _; rfl)
    (hs : swapsWithSole [.Subscript a b sp] e pos.line X.env = pure false := by rfl) (hw : swappedStores [.Subscript a b sp] e X.env = pure none := by rfl)
    (h1 : (assignEach [.Subscript a b sp] X.env).map (·.2) = [assign (.Subscript a b sp) X.env] := by rfl) : DS X EA W (.Assign [.Subscript a b sp] e pos) (mSti m ma mb) := by
  obtain ⟨te, pe, se⟩ := he.ex
  obtain ⟨ta, pa, sa⟩ := ho.ex
  obtain ⟨tb, pb, sb⟩ := hi.ex
  refine ⟨_, ps_asg pe (pg_sub pa pb set_list hb) hs hw h1, fun ι w σ H ρ D R E h => ?_⟩
  refine se ι w σ H ρ _ R E ((Hyp.bind (h.wE σ)).imp fun y ι1 w1 H1 s1 h1 V1 r1 => ?_)
  refine sa ι1 w1 σ H1 ρ _ s1.rel (E.stp s1) ((Hyp.bind h1).imp fun x ι2 w2 H2 s2 h2 V2 r2 => ?_)
  refine sb ι2 w2 σ H2 ρ _ s2.rel ((E.stp s1).stp s2) ((Hyp.bind h2).imp fun i ι3 w3 H3 s3 h3 V3 r3 => ?_)
  have r1' := (r1.stp s2).stp s3
  have r2' := r2.stp s3
  cases x with
  | obj n =>
    cases i with
    | dat d =>
      cases d with
      | int k =>
        cases r3
        obtain ⟨q, l, hn, rfl⟩ := r2'
        simp only [stiO] at h3
        cases f : fz1 y w3 with
        | none => simp only [f] at h3; exact h3.elim
        | some p =>
          obtain ⟨d, w4⟩ := p
          simp only [f] at h3
          obtain ⟨s4, r4⟩ := fz1_ok s3.rel r1' f
          cases hw4 : w4[n]? with
          | none => simp only [hw4] at h3; exact h3.elim
          | some o =>
            cases o with
            | lst es =>
              simp only [hw4] at h3
              cases hj : ixN es.length k with
              | none => simp only [hj] at h3; exact h3.elim
              | some j =>
                simp only [hj] at h3
                obtain ⟨rfl, us, g3, q3⟩ := lst_at s4.rel hn hw4
                refine ⟨_, _, _, j, rfl, rfl, g3, by rw [q3.length]; exact hj, ?_⟩
                have s5 := Stp.wLst s4.rel hn hw4 fun M H' g => (DtA.set (r4.go g) j (q3.go g))
                exact (show OutP X D (.nx ρ) _ _ _ from h3 _ _ (s4.trans s5)) σ ((((E.stp s1).stp s2).stp s3).stp (s4.trans s5))
            | _ => simp only [hw4] at h3; exact h3.elim
      | _ => exact h3.elim
    | _ => exact h3.elim
  | _ => exact h3.elim
/-- x, y = a, b -/
def mPar (i j : Nat) (m : Env → Mo (List SV)) : Env → Mo Out := fun ρ => mBind (m ρ) fun xs => match xs with
  | [x, y] => mPure (.nx ((ρ.set i (some x)).set j (some y)))
  | _ => mFail
theorem ds_par {i j : Nat} {x y : Str} {px py pt : Pos} {kt k2 pt2} (hc : X.calm = true) (hN : X.N.Nodup) (ha : DA X EA W [a, b] ml) (hij : i ≠ j := by decide) (hi : X.N[i]? = some x := by rfl) (hj : X.N[j]? = some y := by rfl)
    (hx : X.env.scope.names.lookup x = some .local := by rfl) (hy : X.env.scope.names.lookup y = some .local := by rfl)
    (hw : swappedStores [.Tuple [.Name x px, .Name y py] kt pt] (.Tuple [a, b] k2 pt2) X.env = pure (some [x, y]) := by rfl)
    (hs : swapsWithSole [.Tuple [.Name x px, .Name y py] kt pt] (.Tuple [a, b] k2 pt2) pos.line X.env = pure false := by rfl) :
    DS X EA W (.Assign [.Tuple [.Name x px, .Name y py] kt pt] (.Tuple [a, b] k2 pt2) pos) (mPar i j ml) := by
  obtain ⟨t, q, s⟩ := ha.ex
  refine ⟨_, ps_par hc hN hi hj hij hx hy q hw hs, fun ι w σ H ρ D R E h => ?_⟩
  refine s ι w σ H ρ _ R E ((Hyp.bind (h.wE σ)).imp fun xs ι1 w1 H1 s1 h1 Vs rs => ?_)
  cases rs with
  | nil => exact h1.elim
  | cons r1 rs =>
    cases rs with
    | nil => exact h1.elim
    | cons r2 rs =>
      cases rs with
      | nil => exact ⟨_, _, rfl, Hyp.pure h1 s1.rel _ (((E.stp s1).set r1).set r2)⟩
      | cons _ _ => exact h1.elim
/-! ### for n, x in enumerate(xs) -/
def enumI : Nat → List PyData → List PyData
  | _, [] => []
  | i, d :: r => .tuple [.int (i : Int), d] :: enumI (i + 1) r
theorem enumI_get : ∀ {ds : List PyData} {i k : Nat} {e : PyData}, (enumI k ds)[i]? = some e → ∃ d, ds[i]? = some d ∧ e = .tuple [.int ((k + i : Nat) : Int), d]
  | [], _, _, _, h => by simp [enumI] at h
  | d :: r, 0, k, e, h => by
    cases (Option.some.inj h)
    exact ⟨d, rfl, rfl⟩
  | d :: r, i + 1, k, e, h => by
    obtain ⟨d', h1, h2⟩ := enumI_get (i := i) (k := k + 1) (by simpa [enumI] using h)
    exact ⟨d', by simpa using h1, by rw [h2]; congr 3; omega⟩
theorem enumI_len : ∀ {ds : List PyData} {k : Nat}, (enumI k ds).length = ds.length
  | [], _ => rfl
  | _ :: r, k => congrArg (· + 1) (enumI_len (ds := r))
theorem walk_e {M : List Addr} {H : Hp} {a : Addr} {vs : List V} {ds : List PyData} (h : ∀ M' H', Go M H M' H' → SqL K H' a vs) (q : DtA K M H vs ds) : Walks K (Ite K a) (enumI 0 ds) M H where
  go := fun M' H' g i d e => by
    obtain ⟨d0, e0, _⟩ := enumI_get e
    obtain ⟨v, h1, h2⟩ := q.getD e0
    exact ⟨vs, v, h M' H' g, h1⟩
  yld := fun M' H' g th i d e x H'' y => by
    obtain ⟨T, x0, rfl, hT, rfl, y⟩ := y
    obtain ⟨d0, e0, rfl⟩ := enumI_get e
    obtain ⟨v, h1, h2⟩ := q.getD e0
    have e2 := y vs (h M' _ g)
    rw [h1] at e2
    cases e2
    refine ⟨.inr ⟨T, _, hT, rfl⟩, ?_⟩
    rw [Nat.zero_add]
    refine Dt.tup (.inl ⟨.inl upd_same, fun z => ?_⟩) (.cons (.int _) (.cons ((h2.go g).go (Go.new hT)) .nil))
    obtain ⟨u, hu⟩ := th T z
    rw [hT] at hu
    cases hu
  stop := fun M' H' g => ⟨vs, h M' H' g, by rw [enumI_len, q.length]; exact Nat.le_refl _⟩
def mEnum (m : Env → Mo SV) : Env → Mo (List PyData) := fun ρ => mBind (m ρ) fun x w => match x with
  | .dat (.list ds) => some (.ok (enumI 0 ds), w)
  | .scr ns => some (.ok (enumI 0 (ns.map .int)), w)
  | _ => none
theorem di_enum {elts : List Expr} {kk : Nat} {tpos : Pos} (hm : X.mg "enumerate" = none) (ha : DE X EA W a ma) (hg : Gl X "enumerate" := by rfl) (hs : starEach [a] X.env = [(false, eval a X.env)] := by rfl)
    (hs' : starEach (a :: []) X.env = (false, eval a X.env) :: starEach [] X.env := by rfl) : DI X EA W (.Tuple elts kk tpos) (.Call (.Name "enumerate" p) [a] [] pos) (mEnum ma) := by
  obtain ⟨t, q, s⟩ := ha.ex
  refine ⟨_, pi_enum hg hm (pa_cons q pa_nil hs') hs, fun ι w σ H ρ R S E h => ?_⟩
  refine s ι w σ H ρ _ S E ((Hyp.bind h).imp fun x ι1 w1 H1 s1 h1 V rv => ?_)
  cases x with
  | dat d =>
    cases d with
    | list ds =>
      cases rv with
      | lst h n q => exact ⟨_, _, rfl, SqL.of h, Hyp.here h1 s1.rel _ (walk_e (fun M' H' g => SqL.of (g _ _ n h).1) q)⟩
    | _ => exact h1.elim
  | scr ns =>
    obtain ⟨a, rfl, q⟩ := rv
    exact ⟨_, _, rfl, q.sq, Hyp.here h1 s1.rel _ (walk_e (fun M' H' g => (q.go g).sq) (DtA.ints ns))⟩
  | _ => exact h1.elim
/-! ### what a body leaves in the store is dropped -/
def trimV (k : Nat) : Option SV → Option SV
  | some (.obj n) => if n < k then some (.obj n) else none
  | some (.drg n) => if n < k then some (.drg n) else none
  | x => x
def trimE (k : Nat) (ρ : Env) : Env := ρ.map (trimV k)
def trimO (k : Nat) : Out → Option Out
  | .nx ρ => some (.nx (trimE k ρ))
  | .ct ρ => some (.ct (trimE k ρ))
  | .bk ρ => some (.bk (trimE k ρ))
  | _ => none
def mGc (m : Env → Mo Out) : Env → Mo Out := fun ρ w => match m ρ w with
  | some (.ok o, w') => match trimO w.length o with
    | some o' => some (.ok o', w'.take w.length)
    | none => some (.ok o, w')
  | r => r
theorem EnvR.trim {ι ι' : List (List Addr)} {w w' : Sto} {H H' : Hp} {σ : L2.St} {ρ : Env} (R : SRel K ι w H) (s : Stp K ι w H ι' w' H') (E : EnvR K ι' (mz ι' w') H' σ ρ) : EnvR K ι (mz ι (w'.take w.length)) H' σ (trimE w.length ρ) := by
  refine ⟨by rw [E.1, trimE, List.length_map], fun i v h => ?_⟩
  rw [trimE, List.getElem?_map] at h
  cases e : ρ[i]? with
  | none => rw [e] at h; cases h
  | some x =>
    rw [e] at h
    have h : trimV w.length x = some v := Option.some.inj h
    cases x with
    | none => cases h
    | some y =>
      have sub := (s.rel.cut s.pre).2
      rw [R.len] at sub
      have g : Go (mz ι' w') H' (mz ι (w'.take w.length)) H' := Go.less fun b hb => sub.subset hb
      have pre : ∀ {n : Nat} {l : List Addr}, n < w.length → ι'[n]? = some l → ι[n]? = some l := fun {n l} hn hl => by
        obtain ⟨t, q⟩ := s.pre
        rw [← q, List.getElem?_append_left (by rw [R.len]; exact hn)] at hl
        exact hl
      obtain ⟨V, h1, h2⟩ := E.2 i y e
      refine ⟨V, h1, ?_⟩
      cases y with
      | dat d => cases h; exact Dt.go g h2
      | scr ns =>
        cases h
        obtain ⟨a, e, q⟩ := h2
        exact ⟨a, e, q.go g⟩
      | exc c => cases h; exact ExR.go g h2
      | excs l =>
        cases h
        obtain ⟨a, vs, e, h1, n1, q⟩ := h2
        exact ⟨a, vs, e, (g _ _ n1 h1).1, (g _ _ n1 h1).2, q.go g⟩
      | obj n =>
        have h : (if n < w.length then some (SV.obj n) else none) = some v := h
        by_cases c : n < w.length
        · rw [if_pos c] at h
          cases h
          obtain ⟨a, l, e, q⟩ := h2
          exact ⟨a, l, pre c e, q⟩
        · rw [if_neg c] at h; cases h
      | drg n =>
        have h : (if n < w.length then some (SV.drg n) else none) = some v := h
        by_cases c : n < w.length
        · rw [if_pos c] at h
          cases h
          obtain ⟨a, l, e, q⟩ := h2
          exact ⟨a, l, pre c e, q⟩
        · rw [if_neg c] at h; cases h
theorem dss_gc {body : List Stmt} {mb : Env → Mo Out} (hb : DSs X EA W body mb) : DSs X EA W body (mGc mb) := by
  obtain ⟨t, p, s⟩ := hb.ex
  refine ⟨t, p, fun ι w σ H ρ D R E h => s ι w σ H ρ D R E ?_⟩
  have cutS : ∀ {ι' w' H'}, Stp X.K ι w H ι' w' H' → Stp X.K ι w H ι (w'.take w.length) H' := fun {ι' w' H'} s => by
    have := s.cut
    rw [R.len] at this
    exact this
  unfold mGc at h
  cases q : mb ρ w with
  | none => rw [q] at h; exact h
  | some r =>
    obtain ⟨o, w'⟩ := r
    cases o with
    | err c fs => rw [q] at h; exact h
    | ok o =>
      simp only [q] at h
      cases o with
      | nx ρ' => exact fun ι' H' st σ' E' => (show OutP X D (.nx (trimE w.length ρ')) _ _ _ from h _ _ (cutS st)) σ' (E'.trim R st)
      | bk ρ' => exact fun ι' H' st σ' E' => (show OutP X D (.bk (trimE w.length ρ')) _ _ _ from h _ _ (cutS st)) σ' (E'.trim R st)
      | ct ρ' => exact fun ι' H' st σ' E' => (show OutP X D (.ct (trimE w.length ρ')) _ _ _ from h _ _ (cutS st)) σ' (E'.trim R st)
      | rt v => exact h
end
end EG


set_option Elab.async false
set_option linter.all false
set_option maxRecDepth 100000
set_option maxHeartbeats 4000000
namespace EG
open PySem PySem.Spec PyProof.Rows L2
section
variable {X : Cx} {K : PySem.W.Frag} {EA : EAt} {W : WX} {a b c e : Expr} {es : List Expr} {ma mb mc m : Env → Mo SV} {ml : Env → Mo (List SV)} {pos p : Pos} {x : Str}
/-! ### dict displays -/
theorem merge_new : ∀ {more acc : List (Key × V)}, ((acc ++ more).map (·.1)).Nodup → mergeK acc more = acc ++ more
  | [], acc, _ => by rw [List.append_nil]; rfl
  | (k, v) :: r, acc, h => by
    have hk : valV acc k = none := by
      unfold valV
      have : acc.find? (fun kv => decide (kv.1 = k)) = none := by
        rw [List.find?_eq_none]
        intro q hq z
        have z := of_decide_eq_true z
        rw [List.map_append, List.nodup_append] at h
        exact h.2.2 q.1 (List.mem_map_of_mem hq) k (by simp) z
      rw [this]
      rfl
    show mergeK (putK acc k v) r = _
    rw [putK_new v hk, merge_new (by simpa using h)]
    simp
structure DPs (X : Cx) (EA : EAt) (W : WX) (pos : Pos) (keys : List (Option Expr)) (values : List Expr) (ks : List Key) (m : Env → Mo (List SV)) : Prop where
  ex : ∃ trs, PPs X pos keys values trs ∧ ∀ ι w σ H ρ Q, SRel X.K ι w H → EnvR X.K ι (mz ι w) H σ ρ → Hyp X.K EA ι w H (m ρ w) (fun xs ι' w' H' => ∀ Vs, VsR X.K ι' (mz ι' w') H' Vs xs → Vs.length = ks.length → Q ((ks.zip Vs).map fun kv => (kV kv.1, kv.2)) H') (fun cls d H' => W cls d σ H') → tPairs trs σ H Q
theorem dps_nil : DPs X EA W pos [] [] [] mNil := ⟨_, pps_nil, fun ι w σ H ρ Q R E h => Hyp.here h R _ .nil rfl⟩
theorem dps_cons {k : Str} {j : Nat} {p2 : Pos} {v : Expr} {keys : List (Option Expr)} {values : List Expr} {ks : List Key} (hv : DE X EA W v m) (hr : DPs X EA W pos keys values ks ml) :
    DPs X EA W pos (some (.Constant (.str k) j p2) :: keys) (v :: values) (Sum.inr k :: ks) (mCons m ml) := by
  obtain ⟨t, q, s⟩ := hv.ex
  obtain ⟨trs, u, z⟩ := hr.ex
  refine ⟨_, pps_cons pe_str q u, fun ι w σ H ρ Q R E h => ?_⟩
  refine s ι w σ H ρ _ R E ((Hyp.bind h).imp fun y ι1 w1 H1 s1 h1 V1 r1 => ?_)
  refine z ι1 w1 σ H1 ρ _ s1.rel (E.stp s1) ((Hyp.bind h1).imp fun ys ι2 w2 H2 s2 h2 Vs rs hl => ?_)
  exact Hyp.here h2 s2.rel _ (.cons (r1.stp s2) rs) (congrArg (· + 1) hl)
def dspO (ks : List Key) (k : Nat) (xs : List SV) : Mo SV := fun w => match fzs xs w with
  | some (ds, w') => match w'[k]? with
    | some (.dic []) => some (.ok (.obj k), w'.set k (.dic (ks.zip ds)))
    | _ => none
  | none => none
def mDisp (ks : List Key) (m : Env → Mo (List SV)) : Env → Mo SV := fun ρ w => mBind (m ρ) (dspO ks w.length) (w ++ [.dic []])
theorem Stp.newDic {ι : List (List Addr)} {w : Sto} {H : Hp} {p : Addr} (r : SRel K ι w H) (hp : H p = none) : Stp K ι w H (ι ++ [[p]]) (w ++ [.dic []]) (upd H p (.dK [])) :=
  Stp.alloc r hp rfl fun M hM => ⟨p, [], rfl, upd_same, rfl, .nil⟩
theorem Stp.wDic {ι : List (List Addr)} {w : Sto} {H : Hp} {n : Nat} {q : Addr} {ds es : List (Key × PyData)} {us : List (Key × V)} (R : SRel K ι w H) (h1 : ι[n]? = some [q]) (h2 : w[n]? = some (.dic ds)) (hk : us.map (·.1) = es.map (·.1)) (h : ∀ M H', Go (mz ι w) H M H' → DtA K M H' (us.map (·.2)) (es.map (·.2))) :
    Stp K ι w H ι (w.set n (.dic es)) (upd H q (.dK us)) := by
  refine Stp.write R h1 h2 rfl (fun b x nb e => by rw [upd_ne (fun z => nb (by rw [z]; simp [footOf]))]; exact e) (fun _ _ _ => .inr True.intro) ?_
  exact ⟨q, us, rfl, upd_same, hk, h _ _ (Go.write (mem_mz h1 h2 (by simp [footOf])))⟩
theorem zip1 {α β : Type} : ∀ {l : List α} {r : List β}, l.length = r.length → (l.zip r).map (·.1) = l
  | [], _, _ => rfl
  | _ :: _, [], h => by simp at h
  | _ :: l, _ :: r, h => by simpa using zip1 (l := l) (r := r) (by simpa using h)
theorem zip2 {α β : Type} : ∀ {l : List α} {r : List β}, l.length = r.length → (l.zip r).map (·.2) = r
  | [], [], _ => rfl
  | [], _ :: _, h => by simp at h
  | _ :: _, [], h => by simp at h
  | _ :: l, _ :: r, h => by simpa using zip2 (l := l) (r := r) (by simpa using h)
theorem de_disp {keys : List (Option Expr)} {values : List Expr} {ks : List Key} (hm : DPs X EA W pos keys values ks ml) (hnd : ks.Nodup := by decide) (h15 : ks.length ≤ 15 := by decide) (hall : keys.all (·.isSome) = true := by rfl) (hl : keys.length = values.length := by rfl) (h0 : keys ≠ [] := by exact fun z => by cases z)
    (hk15 : keys.length ≤ 15 := by decide) : DE X EA W (.Dict keys values pos) (mDisp ks ml) := by
  obtain ⟨trs, u, z⟩ := hm.ex
  refine ⟨_, pe_disp u hall hl h0 hk15, fun ι w σ H ρ Q R E h p hp => ?_⟩
  have s0 := Stp.newDic R hp
  have hn : (ι ++ [[p]])[w.length]? = some [p] := by rw [← R.len, List.getElem?_append_right (Nat.le_refl _), Nat.sub_self]; rfl
  refine z _ _ σ _ ρ _ s0.rel (E.stp s0) ((Hyp.bind (h.on s0)).imp fun xs ι1 w1 H1 s1 h1 Vs rs hlen => ?_)
  unfold dspO at h1
  cases f : fzs xs w1 with
  | none => simp only [f] at h1; exact h1.elim
  | some q =>
    obtain ⟨ds, w2⟩ := q
    simp only [f] at h1
    obtain ⟨s2, q2⟩ := fzs_ok s1.rel rs f
    have hn1 : ι1[w.length]? = some [p] := by
      obtain ⟨t, rfl⟩ := s1.pre
      rw [List.getElem?_append_left (List.getElem?_eq_some_iff.mp hn).1]
      exact hn
    cases hw : w2[w.length]? with
    | none => simp only [hw] at h1; exact h1.elim
    | some o =>
      cases o with
      | dic kvs =>
        cases kvs with
        | nil =>
          simp only [hw] at h1
          obtain ⟨b, us, e1, e2, e3, e4⟩ := s2.rel.ok _ _ _ hn1 hw
          injection e1 with e1 _
          subst e1
          have hus : us = [] := by simpa using e3
          subst hus
          have k1 : (ks.zip Vs).map (·.1) = ks := zip1 hlen.symm
          have hd : ks.length = ds.length := by rw [← hlen, q2.length]
          refine ⟨e2, ks.zip Vs, rfl, by rw [List.length_zip]; omega, ?_⟩
          rw [merge_new (by rw [List.nil_append, k1]; exact hnd), List.nil_append]
          refine h1 _ _ (s2.trans (Stp.wDic s2.rel hn1 hw (by rw [k1, zip1 hd]) fun M H' g => ?_)) _ ⟨p, [], hn1, rfl⟩
          rw [zip2 hlen.symm, zip2 hd]
          exact q2.go g
        | cons _ _ => simp only [hw] at h1; exact h1.elim
      | _ => simp only [hw] at h1; exact h1.elim
/-- {} -/
def mDisp0 : Env → Mo SV := fun _ w => some (.ok (.obj w.length), w ++ [.dic []])
theorem de_disp0 : DE X EA W (.Dict [] [] pos) mDisp0 :=
  ⟨_, pe_dnewK, fun ι w σ H ρ Q R E h p hp => h _ _ (Stp.newDic R hp) _ (VRel.last R.len)⟩
end
end EG


set_option Elab.async false
set_option linter.all false
set_option maxRecDepth 100000
set_option maxHeartbeats 4000000
namespace EG
open PySem PySem.Spec PyProof.Rows L2
section
variable {X : Cx} {K : PySem.W.Frag} {EA : EAt} {W : WX} {a b c e : Expr} {es : List Expr} {ma mb mc m : Env → Mo SV} {ml : Env → Mo (List SV)} {pos p : Pos} {x : Str}
/-! ### what is drawn from -/
def gSpot : Op1 := fun x w => match x with
  | .obj n => match w[n]? with
    | some (.draw _ _ i) => some (.dat (.int i))
    | _ => none
  | _ => none
def gCells : Op1 := fun x w => match x with
  | .obj n => match w[n]? with
    | some (.draw cs _ _) => some (.dat (.list (cs.map .int)))
    | _ => none
  | _ => none
def gGreat : Op1 := fun x w => match x with
  | .obj n => match w[n]? with
    | some (.draw _ _ _) => some (.drg n)
    | _ => none
  | _ => none
theorem draw_at {ι : List (List Addr)} {w : Sto} {H : Hp} {n : Nat} {q : Addr} {l : List Addr} {cs gs : List Int} {i : Int} (R : SRel K ι w H) (h1 : ι[n]? = some (q :: l)) (h2 : w[n]? = some (.draw cs gs i)) :
    ∃ b c, l = [c] ∧ H q = some (.dK [(Sum.inr "cells", .ref b), (Sum.inr "great", .ref c), (Sum.inr "spot", .int i)]) ∧ (H b = some (.lst (cs.map V.int)) ∧ b ∉ mz ι w) ∧ H c = some (.lst (gs.map V.int)) := by
  obtain ⟨a, b, c, e1, e2, e3, e4⟩ := R.ok n _ _ h1 h2
  injection e1 with e1 e5
  subst e1
  exact ⟨b, c, e5, e2, e3, e4⟩
theorem de_dkG {k : Str} {j : Nat} {p2 : Pos} {g : Op1} (hu : X.A.units + 1 < cLine) (ha : DE X EA W a ma)
    (hg : ∀ ι w H q l n v, SRel X.K ι w H → ι[n]? = some (q :: l) → g (.obj n) w = some v → ∃ kvs V, H q = some (.dK kvs) ∧ valV kvs (Sum.inr k) = some V ∧ VRel X.K ι (mz ι w) H V v) (h0 : ∀ x w v, g x w = some v → ∃ n, x = .obj n) :
    DE X EA W (.Subscript a (.Constant (.str k) j p2) pos) (mUn ma g) := by
  obtain ⟨t, q, s⟩ := ha.ex
  refine ⟨_, pe_dget hu q pe_str (fun _ _ => rfl), fun ι w σ H ρ Q R E h => ?_⟩
  refine s ι w σ H ρ _ R E ((Hyp.bind h).imp fun y ι1 w1 H1 s1 h1 V rv => ?_)
  cases f : g y w1 with
  | none => rw [f] at h1; exact h1.elim
  | some v =>
    rw [f] at h1
    obtain ⟨n, rfl⟩ := h0 _ _ _ f
    obtain ⟨q, l, hn, rfl⟩ := rv
    obtain ⟨kvs, V, g1, g2, g3⟩ := hg _ _ _ _ _ _ _ s1.rel hn f
    refine ⟨q, V, rfl, ?_, h1 _ _ (Stp.refl s1.rel) _ g3⟩
    have := DGet.k (k := Sum.inr k) g1
    rw [g2] at this
    exact this
theorem de_spot {j : Nat} {p2 : Pos} (hu : X.A.units + 1 < cLine) (ha : DE X EA W a ma) : DE X EA W (.Subscript a (.Constant (.str "spot") j p2) pos) (mUn ma gSpot) := by
  refine de_dkG hu ha (fun ι w H q l n v R h1 e => ?_) fun x w v e => ?_
  · unfold gSpot at e
    cases hw : w[n]? with
    | none => simp only [hw] at e; cases e
    | some o =>
      cases o with
      | draw cs gs i =>
        simp only [hw] at e
        cases e
        obtain ⟨b, c, rfl, e1, e2, e3⟩ := draw_at R h1 hw
        exact ⟨_, _, e1, rfl, Dt.int _⟩
      | _ => simp only [hw] at e; cases e
  · cases x with
    | obj n => exact ⟨n, rfl⟩
    | _ => cases e
theorem de_cells {j : Nat} {p2 : Pos} (hu : X.A.units + 1 < cLine) (ha : DE X EA W a ma) : DE X EA W (.Subscript a (.Constant (.str "cells") j p2) pos) (mUn ma gCells) := by
  refine de_dkG hu ha (fun ι w H q l n v R h1 e => ?_) fun x w v e => ?_
  · unfold gCells at e
    cases hw : w[n]? with
    | none => simp only [hw] at e; cases e
    | some o =>
      cases o with
      | draw cs gs i =>
        simp only [hw] at e
        cases e
        obtain ⟨b, c, rfl, e1, e2, e3⟩ := draw_at R h1 hw
        exact ⟨_, _, e1, rfl, Dt.lst e2.1 e2.2 (DtA.ints cs)⟩
      | _ => simp only [hw] at e; cases e
  · cases x with
    | obj n => exact ⟨n, rfl⟩
    | _ => cases e
theorem de_great {j : Nat} {p2 : Pos} (hu : X.A.units + 1 < cLine) (ha : DE X EA W a ma) : DE X EA W (.Subscript a (.Constant (.str "great") j p2) pos) (mUn ma gGreat) := by
  refine de_dkG hu ha (fun ι w H q l n v R h1 e => ?_) fun x w v e => ?_
  · unfold gGreat at e
    cases hw : w[n]? with
    | none => simp only [hw] at e; cases e
    | some o =>
      cases o with
      | draw cs gs i =>
        simp only [hw] at e
        cases e
        obtain ⟨b, c, rfl, e1, e2, e3⟩ := draw_at R h1 hw
        exact ⟨_, _, e1, rfl, _, _, h1, rfl⟩
      | _ => simp only [hw] at e; cases e
  · cases x with
    | obj n => exact ⟨n, rfl⟩
    | _ => cases e
/-- m['spot'] = e -/
def mSpotS (ma me : Env → Mo SV) : Env → Mo Out := fun ρ => mBind (me ρ) fun y => mBind (ma ρ) fun x w => match x, y with
  | .obj n, .dat (.int i) => match w[n]? with
    | some (.draw cs gs _) => some (.ok (.nx ρ), w.set n (.draw cs gs i))
    | _ => none
  | _, _ => none
theorem ds_spot {j : Nat} {p2 p3 : Pos} (hu : X.A.units + 1 < cLine) (ha : DE X EA W a ma) (he : DE X EA W e m) (hs : swapsWith e (some (.Subscript a (.Constant (.str "spot") j p2) p3)) pos.line X.env = pure false := by rfl) :
    DS X EA W (.Assign [.Subscript a (.Constant (.str "spot") j p2) p3] e pos) (mSpotS ma m) := by
  obtain ⟨t, q, s⟩ := ha.ex
  obtain ⟨te, qe, se⟩ := he.ex
  refine ⟨_, ps_dput hu q pe_str qe hs, fun ι w σ H ρ D R E h => ?_⟩
  refine se ι w σ H ρ _ R E ((Hyp.bind (h.wE σ)).imp fun y ι1 w1 H1 s1 h1 V1 r1 => ?_)
  refine s ι1 w1 σ H1 ρ _ s1.rel (E.stp s1) ((Hyp.bind h1).imp fun x ι2 w2 H2 s2 h2 V2 r2 => ?_)
  have r1' := r1.stp s2
  cases x with
  | obj n =>
    cases y with
    | dat d =>
      cases d with
      | int i =>
        cases r1'
        obtain ⟨q, l, hn, rfl⟩ := r2
        simp only at h2
        cases hw : w2[n]? with
        | none => simp only [hw] at h2; exact h2.elim
        | some o =>
          cases o with
          | draw cs gs i0 =>
            simp only [hw] at h2
            obtain ⟨b, c, rfl, e1, e2, e3⟩ := draw_at s2.rel hn hw
            refine ⟨q, _, rfl, DPut.k (k := Sum.inr "spot") e1 (by rw [sizeLine_eq]; show 3 < _; decide), ?_⟩
            have qc : q ≠ c := fun z => by
              rw [z, e3] at e1
              cases e1
            have qb : b ≠ q := fun z => by
              rw [z, e1] at e2
              cases e2.1
            have s3 : Stp X.K ι2 w2 H2 ι2 (w2.set n (.draw cs gs i)) (upd H2 q (.dK (putK [(Sum.inr "cells", .ref b), (Sum.inr "great", .ref c), (Sum.inr "spot", .int i0)] (Sum.inr "spot") (.int i)))) := by
              refine Stp.write s2.rel hn hw rfl (fun b x nb e => by rw [upd_ne (fun z => nb (by rw [z]; simp [footOf]))]; exact e) (fun _ _ _ => .inr True.intro) ?_
              exact ⟨q, b, c, rfl, upd_same, ⟨by rw [upd_ne qb]; exact e2.1, e2.2⟩, by rw [upd_ne (Ne.symm qc)]; exact e3⟩
            exact (show OutP X D (.nx ρ) _ _ _ from h2 _ _ s3) σ (((E.stp s1).stp s2).stp s3)
          | _ => simp only [hw] at h2; exact h2.elim
      | _ => exact h2.elim
    | _ => exact h2.elim
  | _ => exact h2.elim
/-- lot[i] = e, lot the inner list -/
def mGreatS (me mo mi : Env → Mo SV) : Env → Mo Out := fun ρ => mBind (me ρ) fun y => mBind (mo ρ) fun x => mBind (mi ρ) fun i w => match x, i, y with
  | .drg n, .dat (.int k), .dat (.int v) => match w[n]? with
    | some (.draw cs gs s) => match ixN gs.length k with
      | some j => some (.ok (.nx ρ), w.set n (.draw cs (gs.set j v) s))
      | none => none
    | _ => none
  | _, _, _ => none
theorem ds_great {sp : Pos} (he : DE X EA W e m) (ho : DE X EA W a ma) (hi : DE X EA W b mb)
    (hb : ∀ v, assign (.Subscript a b sp) X.env v = (do
      let ov ← holding [v] (eval a X.env)
      let iv ← holding [v, ov] (eval b X.env)
      standAt sp
      holding [v, ov, iv] (setItem ov iv v)
      release [v, ov, iv] []) := by intro _; rfl)
    (hs : swapsWithSole [.Subscript a b sp] e pos.line X.env = pure false := by rfl) (hw : swappedStores [.Subscript a b sp] e X.env = pure none := by rfl)
    (h1 : (assignEach [.Subscript a b sp] X.env).map (·.2) = [assign (.Subscript a b sp) X.env] := by rfl) : DS X EA W (.Assign [.Subscript a b sp] e pos) (mGreatS m ma mb) := by
  obtain ⟨te, pe, se⟩ := he.ex
  obtain ⟨ta, pa, sa⟩ := ho.ex
  obtain ⟨tb, pb, sb⟩ := hi.ex
  refine ⟨_, ps_asg pe (pg_sub pa pb set_list hb) hs hw h1, fun ι w σ H ρ D R E h => ?_⟩
  refine se ι w σ H ρ _ R E ((Hyp.bind (h.wE σ)).imp fun y ι1 w1 H1 s1 h1 V1 r1 => ?_)
  refine sa ι1 w1 σ H1 ρ _ s1.rel (E.stp s1) ((Hyp.bind h1).imp fun x ι2 w2 H2 s2 h2 V2 r2 => ?_)
  refine sb ι2 w2 σ H2 ρ _ s2.rel ((E.stp s1).stp s2) ((Hyp.bind h2).imp fun i ι3 w3 H3 s3 h3 V3 r3 => ?_)
  have r1' := (r1.stp s2).stp s3
  have r2' := r2.stp s3
  cases x with
  | drg n =>
    cases i with
    | dat d =>
      cases d with
      | int k =>
        cases y with
        | dat d =>
          cases d with
          | int v =>
            cases r3
            cases r1'
            obtain ⟨q, c, hn, rfl⟩ := r2'
            simp only at h3
            cases hw4 : w3[n]? with
            | none => simp only [hw4] at h3; exact h3.elim
            | some o =>
              cases o with
              | draw cs gs i0 =>
                simp only [hw4] at h3
                cases hj : ixN gs.length k with
                | none => simp only [hj] at h3; exact h3.elim
                | some j =>
                  simp only [hj] at h3
                  obtain ⟨b, c', e0, e1, e2, e3⟩ := draw_at s3.rel hn hw4
                  injection e0 with e0 _
                  subst e0
                  refine ⟨_, _, _, j, rfl, rfl, e3, by rw [List.length_map]; exact hj, ?_⟩
                  have qc : q ≠ c := fun z => by
                    rw [z, e3] at e1
                    cases e1
                  have s5 : Stp X.K ι3 w3 H3 ι3 (w3.set n (.draw cs (gs.set j v) i0)) (upd H3 c (.lst ((gs.map V.int).set j (.int v)))) := by
                    refine Stp.write s3.rel hn hw4 rfl (fun b x nb e => by rw [upd_ne (fun z => nb (by rw [z]; simp [footOf]))]; exact e) (fun _ _ _ => .inr True.intro) ?_
                    have bc : b ≠ c := fun z => e2.2 (by rw [z]; exact mem_mz hn hw4 (by simp [footOf]))
                    exact ⟨q, b, c, rfl, by rw [upd_ne qc]; exact e1, ⟨by rw [upd_ne bc]; exact e2.1, e2.2⟩, by rw [upd_same, List.map_set]⟩
                  exact (show OutP X D (.nx ρ) _ _ _ from h3 _ _ s5) σ ((((E.stp s1).stp s2).stp s3).stp s5)
              | _ => simp only [hw4] at h3; exact h3.elim
          | _ => exact h3.elim
        | _ => exact h3.elim
      | _ => exact h3.elim
    | _ => exact h3.elim
  | _ => exact h3.elim
/-- two objects of the store become one -/
theorem Stp.join {ι : List (List Addr)} {w : Sto} {H H1 : Hp} {k j : Nat} {p q : Addr} {o1 o2 u : SO} (R : SRel K ι w H) (k1 : ι[k]? = some [p]) (k2 : w[k]? = some o1) (kf : footOf [p] o1 = [p]) (j1 : ι[j]? = some [q]) (j2 : w[j]? = some o2) (jf : footOf [q] o2 = [q]) (kj : k ≠ j)
    (uf : footOf [p, q] u = [p, q]) (st : ∀ b, b ≠ p → b ≠ q → H1 b = H b) (ok : SOk K (mz ((ι ++ [[p, q]]) ) (((w.set k .dead).set j .dead) ++ [u])) H1 [p, q] u) :
    Stp K ι w H (ι ++ [[p, q]]) (((w.set k .dead).set j .dead) ++ [u]) H1 := by
  have s1 := Stp.kill R k
  have j2' : (w.set k .dead)[j]? = some o2 := by rw [List.getElem?_set_ne kj]; exact j2
  have s2 := Stp.kill s1.rel j
  have em : mz (ι ++ [[p, q]]) (((w.set k .dead).set j .dead) ++ [u]) = mz ι ((w.set k .dead).set j .dead) ++ [p, q] := by
    rw [mz_app s2.rel.len]
    show mz ι ((w.set k .dead).set j .dead) ++ (footOf [p, q] u ++ mz [] []) = _
    rw [uf]
    rfl
  have np1 : p ∉ mz ι (w.set k .dead) := gone R k1 k2 (by rw [kf]; simp)
  have nq : q ∉ mz ι ((w.set k .dead).set j .dead) := gone s1.rel j1 j2' (by rw [jf]; simp)
  have np : p ∉ mz ι ((w.set k .dead).set j .dead) := fun z => np1 (mz_dead.subset z)
  have pM : p ∈ mz ι w := mem_mz k1 k2 (by rw [kf]; simp)
  have qM : q ∈ mz ι w := mem_mz j1 j2 (by rw [jf]; simp)
  have pq : p ≠ q := fun z => kj (mz_apart R.nd (b := p) k1 k2 (by rw [kf]; simp) j1 j2 (by rw [jf, z]; simp))
  have sub : ∀ b, b ∈ mz ι ((w.set k .dead).set j .dead) → b ∈ mz ι w := fun b hb => mz_dead.subset (mz_dead.subset hb)
  have sub2 : ∀ b, b ∈ mz (ι ++ [[p, q]]) (((w.set k .dead).set j .dead) ++ [u]) → b ∈ mz ι w := fun b hb => by
    rw [em] at hb
    rcases List.mem_append.mp hb with z | z
    · exact sub b z
    · have z : b = p ∨ b = q := by simpa using z
      rcases z with z | z
      · rw [z]; exact pM
      · rw [z]; exact qM
  have st' : ∀ b, b ∉ mz ι w → H1 b = H b := fun b hb => st b (fun z => hb (by rw [z]; exact pM)) (fun z => hb (by rw [z]; exact qM))
  have g : Go (mz ι w) H (mz (ι ++ [[p, q]]) (((w.set k .dead).set j .dead) ++ [u])) H1 := fun b x n e => ⟨by rw [st' b n]; exact e, fun z => n (sub2 b z)⟩
  have g2 : Go (mz ι ((w.set k .dead).set j .dead)) H (mz (ι ++ [[p, q]]) (((w.set k .dead).set j .dead) ++ [u])) H1 ∨ True := .inr True.intro
  refine ⟨List.prefix_append _ _, g, ⟨by simp [s2.rel.len, R.len], fun n l x h1 h2 => ?_, ?_⟩⟩
  · by_cases hn : n < ι.length
    · rw [List.getElem?_append_left hn] at h1
      rw [List.getElem?_append_left (by rw [← s2.rel.len]; exact hn)] at h2
      by_cases hk : n = k
      · subst hk
        rw [List.getElem?_set_ne (Ne.symm kj), List.getElem?_set_self (List.getElem?_eq_some_iff.mp k2).1] at h2
        cases h2
        exact True.intro
      · by_cases hj : n = j
        · subst hj
          rw [List.getElem?_set_self (by rw [List.length_set]; exact (List.getElem?_eq_some_iff.mp j2).1)] at h2
          cases h2
          exact True.intro
        · rw [List.getElem?_set_ne (Ne.symm hj), List.getElem?_set_ne (Ne.symm hk)] at h2
          refine (R.ok n l x h1 h2).go g fun b hb => st b (fun z => ?_) fun z => ?_
          · exact hk (mz_apart R.nd h1 h2 hb k1 k2 (by rw [kf, z]; simp))
          · exact hj (mz_apart R.nd h1 h2 hb j1 j2 (by rw [jf, z]; simp))
    · have hlt : n < (ι ++ [[p, q]]).length := (List.getElem?_eq_some_iff.mp h1).1
      rw [List.length_append, List.length_singleton] at hlt
      have e : n = ι.length := by omega
      subst e
      rw [List.getElem?_append_right (Nat.le_refl _), Nat.sub_self] at h1
      rw [List.getElem?_append_right (by rw [s2.rel.len]; exact Nat.le_refl _), s2.rel.len, Nat.sub_self] at h2
      cases (Option.some.inj h1)
      cases (Option.some.inj h2)
      exact ok
  · rw [em, List.nodup_append]
    refine ⟨s2.rel.nd, by simp [pq], fun a ha b hb z => ?_⟩
    have hb : b = p ∨ b = q := by simpa using hb
    rcases hb with e | e
    · exact np (by rw [← e, ← z]; exact ha)
    · exact nq (by rw [← e, ← z]; exact ha)
def intsD : List PyData → Option (List Int)
  | [] => some []
  | .int i :: r => (intsD r).map (i :: ·)
  | _ :: _ => none
theorem intsD_eq : ∀ {ds : List PyData} {ns : List Int}, intsD ds = some ns → ds = ns.map .int
  | [], ns, h => by cases h; rfl
  | d :: r, ns, h => by
    cases d with
    | int i =>
      unfold intsD at h
      cases q : intsD r with
      | none => rw [q] at h; cases h
      | some ms =>
        rw [q] at h
        cases h
        rw [intsD_eq q]
        rfl
    | _ => cases h
/-- m['great'] = e, m a dict that is being made a draw; m is the slot i -/
def begO (i k j : Nat) (ρ : Env) : Mo Out := fun w => match w[k]?, w[j]? with
  | some (.dic [(Sum.inr a, .list cs), (Sum.inr b, _), (Sum.inr c, .int s)]), some (.lst gs) => if a = "cells" ∧ b = "great" ∧ c = "spot" ∧ k ≠ j then match intsD cs, intsD gs with
    | some cs', some gs' => some (.ok (.nx (ρ.set i (some (.obj w.length)))), ((w.set k .dead).set j .dead) ++ [.draw cs' gs' s])
    | _, _ => none
    else none
  | _, _ => none
def mBeg (i : Nat) (me : Env → Mo SV) : Env → Mo Out := fun ρ => mBind (me ρ) fun v => match v, ρ[i]? with
  | .obj j, some (some (.obj k)) => begO i k j ρ
  | _, _ => mFail
theorem ds_beg {i j0 : Nat} {x : Str} {p1 p2 p3 : Pos} (hu : X.A.units + 1 < cLine) (he : DE X EA W e m) (hN : X.N[i]? = some x := by rfl) (hv : Vis X.env.scope x := by first | exact Or.inl rfl | exact Or.inr (Or.inl rfl) | exact Or.inr (Or.inr rfl)) (hd : (x == ("__debug__" : Str)) = false := by decide) (hcd : (x == ("__classdict__" : Str)) = false := by decide)
    (hs : swapsWith e (some (.Subscript (.Name x p1) (.Constant (.str "great") j0 p2) p3)) pos.line X.env = pure false := by rfl) :
    DS X EA W (.Assign [.Subscript (.Name x p1) (.Constant (.str "great") j0 p2) p3] e pos) (mBeg i m) := by
  obtain ⟨te, qe, se⟩ := he.ex
  refine ⟨_, ps_dput hu (pv i hN hv hd hcd) pe_str qe hs, fun ι w σ H ρ D R E h => ?_⟩
  refine se ι w σ H ρ _ R E ((Hyp.bind (h.wE σ)).imp fun y ι1 w1 H1 s1 h1 V1 r1 => ?_)
  have E1 := E.stp s1
  cases y with
  | obj j =>
    cases hi : ρ[i]? with
    | none => simp only [hi] at h1; exact h1.elim
    | some x =>
      cases x with
      | none => simp only [hi] at h1; exact h1.elim
      | some x =>
        cases x with
        | obj k =>
          simp only [hi] at h1
          have R2 := s1.rel
          obtain ⟨V2, sp, r2⟩ := E1.2 i _ hi
          refine ⟨V2, sp, ?_⟩
          obtain ⟨p, lp, kp, rfl⟩ := r2
          obtain ⟨q, lq, jq, rfl⟩ := r1
          unfold begO at h1
          split at h1
          · rename_i a cs b z c s gs hk hj
            by_cases cc : a = "cells" ∧ b = "great" ∧ c = "spot" ∧ k ≠ j
            · rw [if_pos cc] at h1
              obtain ⟨rfl, rfl, rfl, kj⟩ := cc
              cases f1 : intsD cs with
              | none => simp only [f1] at h1; exact h1.elim
              | some cs' =>
                cases f2 : intsD gs with
                | none => simp only [f1, f2] at h1; exact h1.elim
                | some gs' =>
                  simp only [f1, f2] at h1
                  obtain rfl := intsD_eq f1
                  obtain rfl := intsD_eq f2
                  obtain ⟨p', kvs, e1, e2, e3, e4⟩ := R2.ok _ _ _ kp hk
                  injection e1 with e1 e1'
                  subst e1 e1'
                  obtain ⟨rfl, us, e5, e6⟩ := lst_at R2 jq hj
                  have e7 := DtA.of_ints e6
                  subst e7
                  match kvs, e3, e4 with
                  | [(a1, v1), (a2, v2), (a3, v3)], e3, .cons t1 (.cons t2 (.cons t3 .nil)) =>
                    have e3 : a1 = (Sum.inr ("cells" : Str) : Key) ∧ a2 = (Sum.inr ("great" : Str) : Key) ∧ a3 = (Sum.inr ("spot" : Str) : Key) := by simpa using e3
                    obtain ⟨rfl, rfl, rfl⟩ := e3
                    cases t3
                    cases t1 with
                    | @lst ba us _ hb nb qb =>
                      have e8 := DtA.of_ints qb
                      subst e8
                      refine ⟨p, _, rfl, DPut.k (k := Sum.inr "great") e2 (by rw [sizeLine_eq]; show 3 < _; decide), ?_⟩
                      have pM : p ∈ mz ι1 w1 := mem_mz kp hk (by simp [footOf])
                      have qM : q ∈ mz ι1 w1 := mem_mz jq hj (by simp [footOf])
                      have qp : q ≠ p := fun z => by
                        rw [z, e2] at e5
                        cases e5
                      have bp : ba ≠ p := fun z => nb (by rw [z]; exact pM)
                      have s3 : Stp X.K ι1 w1 H1 (ι1 ++ [[p, q]]) (((w1.set k .dead).set j .dead) ++ [.draw cs' gs' s]) (upd H1 p (.dK (putK [((Sum.inr ("cells" : Str) : Key), V.ref ba), (Sum.inr ("great" : Str), v2), (Sum.inr ("spot" : Str), V.int s)] (Sum.inr ("great" : Str)) (V.ref q)))) := by
                        refine Stp.join R2 kp hk rfl jq hj rfl kj rfl (fun b n _ => upd_ne n) ?_
                        refine ⟨p, ba, q, rfl, upd_same, ⟨by rw [upd_ne bp]; exact hb, fun z => nb ?_⟩, by rw [upd_ne qp]; exact e5⟩
                        have sk := Stp.kill R2 k
                        rw [mz_app (by simp [R2.len])] at z
                        rcases List.mem_append.mp z with z | z
                        · exact mz_dead.subset (mz_dead.subset z)
                        · have z : ba = p ∨ ba = q := by simpa [mz, footOf] using z
                          rcases z with z | z
                          · exact absurd z bp
                          · rw [z]; exact qM
                      have hw : w1.length = (((w1.set k .dead).set j .dead)).length := by simp
                      refine (show OutP X D (.nx (ρ.set i (some (.obj w1.length)))) _ _ _ from h1 _ _ s3) σ ?_
                      have E3 := E1.stp s3
                      have hV : VRel X.K (ι1 ++ [[p, q]]) (mz (ι1 ++ [[p, q]]) (((w1.set k .dead).set j .dead) ++ [.draw cs' gs' s])) (upd H1 p (.dK (putK [((Sum.inr ("cells" : Str) : Key), V.ref ba), (Sum.inr ("great" : Str), v2), (Sum.inr ("spot" : Str), V.int s)] (Sum.inr ("great" : Str)) (V.ref q)))) (.ref p) (.obj w1.length) :=
                        ⟨p, [q], by rw [← R2.len, List.getElem?_append_right (Nat.le_refl _), Nat.sub_self]; rfl, rfl⟩
                      have := E3.set (i := i) hV
                      have es : σ.set i (some (V.ref p)) = σ := by
                        obtain ⟨hl, e⟩ := List.getElem?_eq_some_iff.mp sp
                        rw [← e, List.set_getElem_self]
                      rw [es] at this
                      exact this
            · rw [if_neg cc] at h1; exact h1.elim
          · exact h1.elim
        | _ => simp only [hi] at h1; exact h1.elim
  | _ => exact h1.elim
end
end EG


set_option Elab.async false
set_option linter.all false
set_option maxRecDepth 100000
set_option maxHeartbeats 4000000
namespace EG
open PySem PySem.Spec PyProof.Rows L2
/-! ### own exceptions over any built-in class -/
structure EC (K : PySem.W.Frag) (C : Addr) (B newId initId : String) (bmB : List Value) : Prop where
  F : ExcBaseFacts B newId initId bmB
  SF : StoreFacts B bmB "object.__setattr__" "object"
  q : PySem.W.excInitIn K C bmB newId = true
  ov : PySem.W.excOver K C bmB = true
  hd : PySem.W.hasDictIn K C = true
  sa : PySem.W.findIn K (.ref C) "__setattr__" = some (some (.builtin "object.__setattr__"))
  kC : PySem.W.keepIn K (.ref C) = true
section
variable {X : Cx} {pins : List (Addr × Obj)} {σ : L2.St} {H : Hp} {s : Shared} {a C dx : Addr} {f : Str} {y : V} {u : Value} {fs : List (Str × V)} {Q : Unit → Shared → Prop} {E : Value → Shared → Prop} {A : Around} {B newId initId : String} {bmB : List Value}
theorem inst_of (I : Inv X pins σ H s) {d : Option Addr} (e : H a = some (exo a C d)) (od : Option Obj) (h : match d with | none => od = none | some x => ∃ o, od = some o ∧ s.heap.get? x = some o) : ∃ ox, PySem.W.InstAt s.heap a ox C od ∧ ∃ t1 : Addr, ox = { cls := .ref C, dict := d, data := .fields #[.ref t1, .none, .none, .none, .bool false, .none] } := by
  obtain ⟨t1, ho⟩ := exo_at I.hok e
  refine ⟨_, ⟨ho, rfl, rfl, ?_⟩, t1, rfl⟩
  cases d with
  | none => subst h; trivial
  | some x =>
    obtain ⟨o, rfl, h⟩ := h
    exact h
/-- self.f = y, the first one: the dict comes up -/
theorem gst_new (T : EC X.K C B newId initId bmB) (I : Inv X pins σ H s) (e : H a = some (exo a C none)) (hno : PySem.W.takerIn X.K C f = some none) (ry : RelV y u)
    (h : ∀ dx s', H dx = none → dx ≠ a → Inv X pins σ (upd (upd H dx (exd dx [(f, y)])) a (exo a C (some dx))) s' → Q () s') : wpAny (model X.prog X.w) A (setAttr (.ref a) f u) Q E s := by
  obtain ⟨ox, J, t1, rfl⟩ := inst_of I e none rfl
  obtain ⟨cd, hc, hd'⟩ := PySem.W.any_some T.hd
  obtain ⟨hp, g, d, t, os⟩ := s
  have ho := J.1
  refine PySem.W.set_plain I.kIn J T.sa (PySem.W.osa_openX T.SF I.kIn J T.ov hno fun b => ?_)
  refine wpAny_bind (wpAny_pure (wpAny_bind (PySem.W.instanceDict_exc ho (PySem.W.looks_clsIn I.kIn hc) hd' ?_)))
  have hxs : a ≠ hp.objs.size := Nat.ne_of_lt (Heap.lt_size ho)
  refine PySem.HandSPX.store_in_new ?_ fun h' tk' hn hs => ?_
  · exact ⟨_, #[], _, (Heap.get?_update_ne _ _ _ _ hxs.symm).trans (Heap.get?_push_at rfl rfl), rfl, fun e he => absurd he (by simp), fun _ => rfl⟩
  · have dn : hp.objs.size ≤ hp.objs.size := Nat.le_refl _
    have hnd : H hp.objs.size = none := I.hok.fresh dn
    have k : ∀ b o, b ≠ a → hp.get? b = some o → h'.get? b = some o := fun b o hb q => (hs.2 b (Nat.ne_of_lt (Heap.lt_size q))).trans ((Heap.get?_update_ne _ _ _ _ hb).trans (Heap.get?_push_of_some _ q))
    have hx : h'.get? a = some ({ cls := .ref C, dict := some hp.objs.size, data := .fields #[.ref t1, .none, .none, .none, .bool false, .none] } : Obj) := (hs.2 a hxs).trans (Heap.get?_update_self _ (Heap.get?_push_of_some _ ho) rfl)
    have nd : ∀ {b : Addr} {o : Obj}, hp.get? b = some o → b ≠ hp.objs.size := fun {b o} q => Nat.ne_of_lt (Heap.lt_size q)
    have na : ∀ {b : Addr}, H b = none → b ≠ a := fun {b} n z => by rw [z, e] at n; cases n
    refine h hp.objs.size _ hnd hxs.symm (I.un (t' := tk') (H' := upd (upd H hp.objs.size (exd hp.objs.size [(f, y)])) a (exo a C (some hp.objs.size))) ?un fun b o q => ?ok)
    case un => exact {
      keep := fun b o q n _ _ => k b o (na n) q
      slot := fun b o q n _ _ => ⟨o.slots, k b o (na n) q⟩
      free := fun b o q n _ => by rw [upd_ne (na n), upd_ne (nd q)]; exact n
      there := fun b o q _ => by
        by_cases hb : b = a
        · exact ⟨_, by rw [hb]; exact hx⟩
        · exact ⟨o, k b o hb q⟩
      tups := fun b xs q => by rw [upd_ne (at_ne e q exo_tup), upd_ne (ne_of_none q hnd)]; exact q
      frzs := fun b o v q => by rw [upd_ne (at_ne e q exo_frz), upd_ne (ne_of_none q hnd)]; exact q
      tbls := fun b ps q => ⟨#[], by rw [upd_ne (at_ne e q exo_tbl), upd_ne (ne_of_none q hnd), q]; simp⟩ }
    case ok =>
      by_cases hb : b = a
      · subst hb
        rw [upd_same] at q
        cases q
        exact exo_ok hx
      · rw [upd_ne hb] at q
        by_cases hd : b = hp.objs.size
        · subst hd
          rw [upd_same] at q
          cases q
          exact exd_ok hn (relO_put (fs := []) ry fun g => True.intro)
        · rw [upd_ne hd] at q
          have ne1 : ∀ c v, (c = b ∨ H c = some (.own b)) → hp.get? c = some v → h'.get? c = some v := fun c v hc z => k c v (by
            rcases hc with rfl | hc
            · exact hb
            · exact at_ne e hc exo_own) z
          exact (I.hok b o q).stay ne1 (fun c hc => by rw [upd_ne (at_ne e hc exo_own), upd_ne (ne_of_none hc hnd)]; exact hc) (fun c xs hc => by rw [upd_ne (at_ne e hc exo_tup), upd_ne (ne_of_none hc hnd)]; exact hc)
/-- self.f = y, a further one -/
theorem gst_old (T : EC X.K C B newId initId bmB) (I : Inv X pins σ H s) (e : H a = some (exo a C (some dx))) (ed : H dx = some (exd dx fs)) (hl : fs.length ≤ 900) (hno : PySem.W.takerIn X.K C f = some none) (ry : RelV y u)
    (h : ∀ s', Inv X pins σ (upd H dx (exd dx ((f, y) :: fs))) s' → Q () s') : wpAny (model X.prog X.w) A (setAttr (.ref a) f u) Q E s := by
  obtain ⟨mA, hns, rel⟩ := exd_at I.hok ed
  have hw := within_of rel
  obtain ⟨oD, _, _, hoD, _, _⟩ := hns.count hw
  obtain ⟨ox, J, t1, rfl⟩ := inst_of I e (some oD) ⟨oD, rfl, hoD⟩
  obtain ⟨cd, hc, hd'⟩ := PySem.W.any_some T.hd
  obtain ⟨hp, g, d, t, os⟩ := s
  refine PySem.W.set_plain I.kIn J T.sa (PySem.W.osa_openX T.SF I.kIn J T.ov hno fun b => ?_)
  have Lc : PySem.W.Looks (model X.prog X.w) hp (classData C) cd := PySem.W.looks_clsIn I.kIn hc
  refine wpAny_bind (wpAny_pure (wpAny_bind (wpAny_bind (wpAny_loadPart J.1 (wpAny_bind (Lc.at ?_))))))
  rw [hd']
  refine wpAny_pure (a := some dx) ?_
  refine PySem.OEX.store_in_old hns hw (by rw [List.length_map]; omega) fun h' tk' hn hs => ?_
  have hd : ∃ o, h'.get? dx = some o := by
    obtain ⟨o, _, _, e', _⟩ := hn
    exact ⟨o, e'⟩
  have k : ∀ b o, b ≠ dx → hp.get? b = some o → h'.get? b = some o := fun b o hb q => (hs.2 b hb).trans q
  exact h _ (I.write (t' := tk') (x := dx) (e := dx) (o := exd dx ((f, y) :: fs)) (by rw [ed]; exact True.intro) (.inl rfl) k hd (exd_ok hn (relO_put ry rel)))
/-- B.__init__(self, ..) -/
theorem gini {us : List Value} {Q : Value → Shared → Prop} (T : EC X.K C B newId initId bmB) (I : Inv X pins σ H s) (e : H a = some (exo a C none)) (hl : us.length ≤ sizeLine) (h : ∀ s', Inv X pins σ H s' → Q .none s') :
    wpAny (model X.prog X.w) A (call (.builtin initId) (.ref a :: us)) Q E s := by
  obtain ⟨nm, N', qn, bs, bm, hdct, sn, sub, ab, col, dd, k0, k1, k2, k3, k5, hC, hT⟩ := PySem.W.excInit_of I.kIn T.q
  obtain ⟨t1, ho⟩ := exo_at I.hok e
  obtain ⟨hp, g, d, t, os⟩ := s
  refine wpAny_call (PySem.HandSPX.init_base T.F hT hC ho hl fun h' t2 k hx => ?_)
  have eu : upd H a (exo a C none) = H := by
    funext b
    by_cases hb : b = a
    · rw [hb, upd_same, e]
    · rw [upd_ne hb]
  have J := I.write (t' := t) (x := a) (e := a) (o := exo a C none) (by rw [e]; exact True.intro) (.inl rfl) k ⟨_, hx⟩ (exo_ok hx)
  rw [eu] at J
  exact h _ J
end
end EG


set_option Elab.async false
set_option linter.all false
set_option maxRecDepth 100000
set_option maxHeartbeats 4000000
namespace EG
open PySem PySem.Spec PyProof.Rows L2
/-! ### B.__init__(self, ..), self.f = e -/
def tGin (K : PySem.W.Frag) (B newId initId : String) (bmB : List Value) (ta : TA) : TE := fun σ H Q => ta σ H fun vs H1 => ∃ (a C : Addr) (ws : List V), vs = .ref a :: ws ∧ ws.length ≤ 1000 ∧ EC K C B newId initId bmB ∧ H1 a = some (exo a C none) ∧ Q .non H1
def tGst (K : PySem.W.Frag) (B newId initId : String) (bmB : List Value) (f : Str) (to te : TE) : TS := fun D σ H => te σ H fun y H1 => to σ H1 fun x H2 => ∃ a C : Addr, x = .ref a ∧ EC K C B newId initId bmB ∧ PySem.W.takerIn K C f = some none ∧
  ((H2 a = some (exo a C none) ∧ ∀ dx, H2 dx = none → dx ≠ a → D.nx σ (upd (upd H2 dx (exd dx [(f, y)])) a (exo a C (some dx)))) ∨
    ∃ (dx : Addr) (fs : List (Str × V)), H2 a = some (exo a C (some dx)) ∧ H2 dx = some (exd dx fs) ∧ fs.length ≤ 900 ∧ D.nx σ (upd H2 dx (exd dx ((f, y) :: fs))))
/-- the class of whose __init__ is asked: an own one, a built-in one -/
inductive MI (X : Cx) (initId : String) (x : Str) : Prop
  | own (CW : Addr) (hm : X.mg x = some (.ref CW)) (rd : PySem.W.readsIn X.K CW (.type "type") = true) (ga : PySem.W.specialIn X.K (.ref CW) "__getattribute__" = some (some (.builtin "type.__getattribute__"))) (fi : PySem.W.findCls X.K (.ref CW) (.type "type") "__init__" = some (.val (.builtin initId)))
  | blt (T : String) (hm : X.mg x = none) (hb : bootBuiltins x = some (.type T)) (hx : x ≠ "__name__") (ty : typeOf (.type T) = pure (.type "type")) (st : Manifest.isStub T = false) (fi : PySem.W.findCls X.K (.type T) (.type "type") "__init__" = some (.val (.builtin initId)))
section
variable {X : Cx} {e o : Expr} {es : List Expr} {to te : TE} {ta : TA} {f x : Str} {p p' p1 p2 pos : Pos} {B newId initId : String} {bmB : List Value}
theorem pe_gin {pl : Sem Bool} (M : MI X initId x) (hi : PySem.W.handedIn (.builtin initId) = true) (hg : Gl X x) (ha : PA X (e :: es) ta) (hdb : (x == ("__debug__" : Str)) = false := by decide)
    (hc : eval (.Call (.Attribute (.Name x p1) "__init__" p2) (e :: es) [] pos) X.env = (do
      let ov ← eval (.Name x p1) X.env
      standAt p2.atName
      let (f, first) ← holding [ov] (getMethod ov "__init__" pl)
      callWith pos f first (backTo pos (starEach (e :: es) X.env)) (backToKw pos (keywordEach [] X.env))) := by rfl)
    (he : starEach (e :: es) X.env = (false, eval e X.env) :: starEach es X.env := by rfl) (hpl : (backTo pos (starEach es X.env)).any (·.1) = false := by rfl) :
    PE X (.Call (.Attribute (.Name x p1) "__init__" p2) (e :: es) [] pos) (tGin X.K B newId initId bmB ta) := by
  refine ⟨fun pins s σ H Q I h => ?_⟩
  have fin : ∀ s2 : Shared, Inv X pins σ H s2 → wpAny (model X.prog X.w) X.A (callWith pos (Value.builtin initId) [] (backTo pos (starEach (e :: es) X.env)) []) (EP X pins σ Q) X.xe s2 := fun s2 I2 => by
    refine PyProof.Rows.callWith_method1 (thn (ha.run pos pins _ σ H _ I2 h) fun us s1 ⟨vs, H1, I1, r1, a, C, ws, ev, hl, T, ea, q⟩ => ?_) he hpl
    subst ev
    cases r1 with
    | @cons _ u0 _ ur ra rw' =>
      obtain rfl : u0 = Value.ref a := ra
      have hlen : ur.length ≤ sizeLine := by
        rw [← Paired.length rw', sizeLine_eq]
        omega
      exact gini T I1 ea hlen fun s' J => ⟨.non, H1, J, rfl, q⟩
  cases M with
  | own CW hm rd ga fi =>
    refine PySem.W.methodCall_KW (ld_glob I hg hm ?_ hdb) hc
    refine PySem.W.method_cls I.kIn ga (PySem.W.cls_value I.kIn rd fi hi ?_)
    exact fin _ (I.tok _)
  | blt T hm hb hx ty st fi =>
    refine PySem.W.methodCall_KW (ld_blt I hg hm hb ?_ hx hdb) hc
    obtain ⟨m, fr⟩ := I.fr
    refine PySem.W.method_type fr I.ok.mod.kin ty st fi hi ?_
    exact fin _ (I.tok _)
theorem ps_gst (ho : PE X o to) (he : PE X e te) (hs : swapsWith e (some (.Attribute o f p')) pos.line X.env = pure false := by rfl) : PS X (.Assign [.Attribute o f p'] e pos) (tGst X.K B newId initId bmB f to te) := by
  refine ⟨fun pins s σ H D I h => ?_⟩
  refine plainObj_wpAny_Assign_Attribute (thn (he.run pins s σ H _ I h) fun v s1 ⟨y, H1, I1, r1, q1⟩ => thn (ho.run pins s1 σ H1 _ I1 q1) fun u s2 ⟨x, H2, I2, r2, a, C, ex, T, hno, q⟩ => ?_) hs
  subst ex
  obtain rfl : u = Value.ref a := r2
  rcases q with ⟨ea, q⟩ | ⟨dx, fs, ea, ed, hl, q⟩
  · exact gst_new T I2 ea hno r1 fun dx s' n ne J => ⟨σ, _, J, q dx n ne⟩
  · exact gst_old T I2 ea ed hl hno r1 fun s' J => ⟨σ, _, J, q⟩
end
/-! ### such an __init__ -/
/-- self gets a dict with these fields; nothing else changes -/
def spIni (C : Addr) (flds : List Str) : Sp := fun vs H Q _ => ∃ (a : Addr) (ws : List V), vs = .ref a :: ws ∧ ws.length = flds.length ∧ H a = some (exo a C none) ∧
  ∀ dx H', H dx = none → dx ≠ a → H' a = some (exo a C (some dx)) → H' dx = some (exd dx (flds.zip ws).reverse) → (∀ b, b ≠ a → b ≠ dx → H' b = H b) → Q .non H'
section
variable {P : Program} {w : World} {K : PySem.W.Frag} {mg : Str → Option Value} {base : Heap} {B newId initId : String} {bmB : List Value} {k : Nat} {f C : Addr} {x qual cn fl fl2 pn pn2 tx : Str} {st : Stmt} {fd : FuncData} {p1 p2 p3 p4 p5 p6 q1 q2 q3 q4 r1 r2 r3 r4 : Pos} {j : Nat}
theorem ini1 (T : EC K C B newId initId bmB) (ht : PySem.W.takerIn K C fl = some none) (hi : PySem.W.handedIn (.builtin initId) = true) (F : Fun K x qual st f fd) (S : FnScope ["self", pn] ["self", pn] (defScope st))
    (hb : defBody st = [.Expr (.Call (.Attribute (.Name cn p1) "__init__" p2) [.Name "self" p3, .Constant (.str tx) j p4] [] p5) p6, .Assign [.Attribute (.Name "self" q1) fl q2] (.Name pn q3) q4])
    (hgin : ∀ (cdv : Value) (A : Around) (outer : List PySem.Env) (s : Shared) (H : Hp) (E : XK), PS (cxOf (L2.CX P w) P w K mg base ["self", pn] qual (defScope st) f cdv A outer s H E) (.Expr (.Call (.Attribute (.Name cn p1) "__init__" p2) [.Name "self" p3, .Constant (.str tx) j p4] [] p5) p6) (tDrop (tGin K B newId initId bmB (tCons (tVar 0) (tCons (tC (.str tx)) tNil)))))
    (hst : ∀ (cdv : Value) (A : Around) (outer : List PySem.Env) (s : Shared) (H : Hp) (E : XK), PS (cxOf (L2.CX P w) P w K mg base ["self", pn] qual (defScope st) f cdv A outer s H E) (.Assign [.Attribute (.Name "self" q1) fl q2] (.Name pn q3) q4) (tGst K B newId initId bmB fl (tVar 0) (tVar 1))) : FnG P w K mg base (k + 1) f fd ["self", pn] (spIni C [fl]) := by
  refine fnG_of F S (fun vs H Q E h => ?_) fun cdv A outer s H vs Q E hg hr h => ?_
  · obtain ⟨a, ws, rfl, hl, _⟩ := h
    simpa using hl
  obtain ⟨a, ws, rfl, hl, ea, h⟩ := h
  match ws, hl with
  | [v], _ =>
    rw [hb]
    refine ⟨_, pss_cons (hgin cdv A outer s H E) (pss_one (hst cdv A outer s H E)), ?_⟩
    refine ⟨_, rfl, a, C, [.str tx], rfl, (show 1 ≤ 1000 from by decide), T, ea, ?_⟩
    refine ⟨_, rfl, _, rfl, a, C, rfl, T, ht, .inl ⟨ea, fun dx hd hda => ?_⟩⟩
    exact h dx _ hd hda upd_same (by rw [upd_ne hda, upd_same]; rfl) fun b hb1 hb2 => by rw [upd_ne hb1, upd_ne hb2]
theorem ini2 (T : EC K C B newId initId bmB) (ht : PySem.W.takerIn K C fl = some none) (ht2 : PySem.W.takerIn K C fl2 = some none) (hi : PySem.W.handedIn (.builtin initId) = true) (F : Fun K x qual st f fd) (S : FnScope ["self", pn, pn2] ["self", pn, pn2] (defScope st))
    (hb : defBody st = [.Expr (.Call (.Attribute (.Name cn p1) "__init__" p2) [.Name "self" p3, .Constant (.str tx) j p4] [] p5) p6, .Assign [.Attribute (.Name "self" q1) fl q2] (.Name pn q3) q4, .Assign [.Attribute (.Name "self" r1) fl2 r2] (.Name pn2 r3) r4])
    (hgin : ∀ (cdv : Value) (A : Around) (outer : List PySem.Env) (s : Shared) (H : Hp) (E : XK), PS (cxOf (L2.CX P w) P w K mg base ["self", pn, pn2] qual (defScope st) f cdv A outer s H E) (.Expr (.Call (.Attribute (.Name cn p1) "__init__" p2) [.Name "self" p3, .Constant (.str tx) j p4] [] p5) p6) (tDrop (tGin K B newId initId bmB (tCons (tVar 0) (tCons (tC (.str tx)) tNil)))))
    (hst : ∀ (cdv : Value) (A : Around) (outer : List PySem.Env) (s : Shared) (H : Hp) (E : XK), PS (cxOf (L2.CX P w) P w K mg base ["self", pn, pn2] qual (defScope st) f cdv A outer s H E) (.Assign [.Attribute (.Name "self" q1) fl q2] (.Name pn q3) q4) (tGst K B newId initId bmB fl (tVar 0) (tVar 1)))
    (hst2 : ∀ (cdv : Value) (A : Around) (outer : List PySem.Env) (s : Shared) (H : Hp) (E : XK), PS (cxOf (L2.CX P w) P w K mg base ["self", pn, pn2] qual (defScope st) f cdv A outer s H E) (.Assign [.Attribute (.Name "self" r1) fl2 r2] (.Name pn2 r3) r4) (tGst K B newId initId bmB fl2 (tVar 0) (tVar 2))) : FnG P w K mg base (k + 1) f fd ["self", pn, pn2] (spIni C [fl, fl2]) := by
  refine fnG_of F S (fun vs H Q E h => ?_) fun cdv A outer s H vs Q E hg hr h => ?_
  · obtain ⟨a, ws, rfl, hl, _⟩ := h
    simpa using hl
  obtain ⟨a, ws, rfl, hl, ea, h⟩ := h
  match ws, hl with
  | [v, v2], _ =>
    rw [hb]
    refine ⟨_, pss_cons (hgin cdv A outer s H E) (pss_cons (hst cdv A outer s H E) (pss_one (hst2 cdv A outer s H E))), ?_⟩
    refine ⟨_, rfl, a, C, [.str tx], rfl, (show 1 ≤ 1000 from by decide), T, ea, ?_⟩
    refine ⟨_, rfl, _, rfl, a, C, rfl, T, ht, .inl ⟨ea, fun dx hd hda => ?_⟩⟩
    refine ⟨_, rfl, _, rfl, a, C, rfl, T, ht2, .inr ⟨dx, [(fl, v)], upd_same, by rw [upd_ne hda, upd_same], (show 1 ≤ 900 from by decide), ?_⟩⟩
    exact h dx _ hd hda (by rw [upd_ne (Ne.symm hda), upd_same]) (by rw [upd_same]; rfl) fun b hb1 hb2 => by rw [upd_ne hb2, upd_ne hb1, upd_ne hb2]
end
/-! ### C(e, ..): a new exception -/
def tMkG (C : Addr) (sp : Sp) (ta : TA) : TE := fun σ H Q => ta σ H fun vs H1 => vs.length ≤ 1000 ∧ ∀ a, H1 a = none → sp (.ref a :: vs) (upd H1 a (exo a C none)) (fun v H2 => v = .non ∧ Q (.ref a) H2) (fun _ _ _ => False)
section
variable {X : Cx} {e : Expr} {es : List Expr} {ta : TA} {x : Str} {p pos : Pos} {B newId initId : String} {bmB : List Value} {C fI : Addr} {k : Nat} {fd : FuncData} {ps : List Str} {sp : Sp}
theorem pe_mkG (T : EC X.K C B newId initId bmB) (iC : PySem.W.findIn X.K (.ref C) "__init__" = some (some (.ref fI))) (tI : PySem.W.typeIn X.K (.ref fI) = some (.type "function")) (F1 : FnG X.prog X.w X.K X.mg X.base k fI fd ps sp) (hg : X.A.guards = some []) (hr : Room (k + 1) X.A)
    (hb : Binds X.K fd ps []) (hm : X.mg x = some (.ref C)) (ha : PA X (e :: es) ta) (hgl : Gl X x := by rfl) (hdb : (x == ("__debug__" : Str)) = false := by decide)
    (he : starEach (e :: es) X.env = (false, eval e X.env) :: starEach es X.env := by rfl) (hpl : (backTo pos (starEach es X.env)).any (·.1) = false := by rfl) :
    PE X (.Call (.Name x p) (e :: es) [] pos) (tMkG C sp ta) := by
  refine ⟨fun pins s σ H Q I h => ?_⟩
  refine wpAny_Call_Name_kw (ld_glob I hgl hm ?_ hdb)
  refine PySem.W.callWith_K (h₀ := X.base) I.ok.mod.kin T.kC (thn (ha.run pos pins s σ H _ I h) fun us s1 ⟨vs, H1, I1, r1, hz, q1⟩ => ⟨I1.kIn, ?_⟩) he hpl
  show wpAny _ _ (call (.ref C) us) _ _ _
  obtain ⟨nm, N', qn, bs, bm, hdct, sn, sub, ab, col, dd, k0, k1, k2, k3, k5, hC, hT⟩ := PySem.W.excInit_of I1.kIn T.q
  obtain ⟨hp, g, dr, tk, os⟩ := s1
  have hn : H1 (hp.objs.size + 1) = none := I1.hok.fresh (Nat.le_succ _)
  have hq := q1 _ hn
  have kk : ∀ b o, hp.get? b = some o → ((hp.push (PySem.W.kdv_tup us)).push (PySem.HandSPX.excO C hp.objs.size)).get? b = some o := fun b o e => Heap.get?_push_of_some _ (Heap.get?_push_of_some _ e)
  have hget : ((hp.push (PySem.W.kdv_tup us)).push (PySem.HandSPX.excO C hp.objs.size)).get? (hp.objs.size + 1) = some (PySem.HandSPX.excO C hp.objs.size) := by heap_get
  have I2 : Inv X pins σ (upd H1 (hp.objs.size + 1) (exo (hp.objs.size + 1) C none)) ⟨(hp.push (PySem.W.kdv_tup us)).push (PySem.HandSPX.excO C hp.objs.size), g, dr, tk, os⟩ :=
    I1.laid (t' := tk) (a := hp.objs.size + 1) (o := exo (hp.objs.size + 1) C none) kk (Nat.le_succ _) (exo_ok hget)
  have r2 : Vals (V.ref (hp.objs.size + 1) :: vs) (Value.ref (hp.objs.size + 1) :: us) := .cons rfl r1
  have hl : (Value.ref (hp.objs.size + 1) :: us ++ []).length = ps.length := by
    have e := r2.length
    rw [F1.len _ _ _ _ hq] at e
    rw [List.append_nil]
    exact e.symm
  have hus : us.length ≤ sizeLine := by
    rw [← Paired.length r1, sizeLine_eq]
    omega
  have b := hb _ (Value.ref (hp.objs.size + 1) :: us) I2.kIn hl
  rw [List.append_nil] at b
  refine wpAny_call (PySem.HandSPX.call_own T.F hT hC (PySem.W.looks_findIn I1.kIn iC) (fun self => PySem.W.bind_fn I1.kIn self tI) hus
    (codeAny_mono (F1.run _ X.stack _ _ ⟨Value.ref (hp.objs.size + 1) :: us, []⟩ (Value.ref (hp.objs.size + 1) :: us) _ _ (fun _ _ _ => False) hg (hr.make C us []) (I2.env0.make C us []) b r2 hq) fun r s' hq' => ?_))
  match r, hq' with
  | .error er, hq' =>
    obtain ⟨_, _, _, _, _, _, _, _, _, _, _, _, z⟩ := hq'
    exact z.elim
  | .ok (.ret u), hq' =>
    obtain ⟨v, H2, I3, rv, ev, q2⟩ := I2.after hq'
    subst ev
    exact ⟨rv, .ref (hp.objs.size + 1), H2, I3, rfl, q2⟩
end
end EG


set_option Elab.async false
set_option linter.all false
set_option maxRecDepth 100000
set_option maxHeartbeats 4000000
namespace EG
open PySem PySem.Spec PyProof.Rows L2
section
variable {X : Cx} {K : PySem.W.Frag} {EA : EAt} {W : WX} {a b c e : Expr} {es : List Expr} {ma mb mc m : Env → Mo SV} {ml : Env → Mo (List SV)} {pos p : Pos} {x : Str}
theorem Stp.more {ι : List (List Addr)} {w : Sto} {H H' : Hp} (R : SRel K ι w H) (h : ∀ b o, H b = some o → H' b = some o) : Stp K ι w H ι w H' := by
  have g : Go (mz ι w) H (mz ι w) H' := fun b o n e => ⟨h b o e, n⟩
  refine ⟨List.prefix_rfl, g, ⟨R.len, fun n l u h1 h2 => (R.ok n l u h1 h2).go g fun b hb => ?_, R.nd⟩⟩
  obtain ⟨o, ho⟩ := (R.ok n l u h1 h2).there hb
  rw [ho, h b o ho]
/-! ### exceptions as values -/
def mMkE (C : Addr) (flds : List Str) (m : Env → Mo (List SV)) : Env → Mo SV := fun ρ => mBind (m ρ) fun xs w => match fzs xs w with
  | some (ds, w') => if ds.length = flds.length then some (.ok (.exc (C, (flds.zip ds).reverse)), w') else none
  | none => none
theorem mk_snd {ι : List (List Addr)} {w : Sto} {H : Hp} {C : Addr} {flds : List Str} {vs : List V} {xs : List SV} {Q : VK} {W' : Value → Option Addr → Hp → Prop} (hz : flds.length ≤ 1000) (R : SRel K ι w H) (rs : VsR K ι (mz ι w) H vs xs)
    (h : Hyp K EA ι w H ((fun w => match fzs xs w with
      | some (ds, w') => if ds.length = flds.length then some (Res.ok (SV.exc (C, (flds.zip ds).reverse)), w') else none
      | none => none) w) (fun v ι' w' H' => ∀ V, VRel K ι' (mz ι' w') H' V v → Q V H') W') :
    vs.length ≤ 1000 ∧ vs.length = flds.length ∧ ∀ a, H a = none → spIni C flds (.ref a :: vs) (upd H a (exo a C none)) (fun v H2 => v = .non ∧ Q (.ref a) H2) (fun _ _ _ => False) := by
  cases f : fzs xs w with
  | none => simp only [f] at h; exact h.elim
  | some q =>
    obtain ⟨ds, w2⟩ := q
    simp only [f] at h
    obtain ⟨s2, q2⟩ := fzs_ok R rs f
    by_cases c : ds.length = flds.length
    · rw [if_pos c] at h
      have hl : vs.length = flds.length := by rw [q2.length]; exact c
      refine ⟨by rw [hl]; exact hz, hl, fun a ha => ⟨a, vs, rfl, hl, upd_same, fun dx H' hd hda e1 e2 e3 => ⟨rfl, ?_⟩⟩⟩
      have hd' : H dx = none := by
        rw [upd_ne hda] at hd
        exact hd
      have s3 : Stp K ι w2 H ι w2 H' := Stp.more s2.rel fun b o hb => by
        have na := ne_of_none hb ha
        rw [e3 b na (ne_of_none hb hd'), upd_ne na]
        exact hb
      refine h _ _ (s2.trans s3) _ ⟨a, dx, _, rfl, .inl e1, fun z => s2.rel.ne z ha rfl, .inl e2, fun z => s2.rel.ne z hd' rfl, ?_, ?_⟩
      · rw [List.map_reverse, List.map_reverse, zip1 hl.symm, zip1 c.symm]
      · rw [List.map_reverse, List.map_reverse, zip2 hl.symm, zip2 c.symm]
        exact (q2.go s3.go).rev
    · rw [if_neg c] at h; exact h.elim
section
variable {B newId initId : String} {bmB : List Value} {C fI : Addr} {k : Nat} {fd : FuncData} {ps flds : List Str}
theorem de_mkE (T : EC X.K C B newId initId bmB) (iC : PySem.W.findIn X.K (.ref C) "__init__" = some (some (.ref fI))) (tI : PySem.W.typeIn X.K (.ref fI) = some (.type "function")) (F1 : FnG X.prog X.w X.K X.mg X.base k fI fd ps (spIni C flds)) (hg : X.A.guards = some []) (hr : Room (k + 1) X.A)
    (hb : Binds X.K fd ps []) (hm : X.mg x = some (.ref C)) (ha : DA X EA W (e :: es) ml) (hz : flds.length ≤ 1000 := by decide) (hgl : Gl X x := by rfl) (hdb : (x == ("__debug__" : Str)) = false := by decide)
    (he : starEach (e :: es) X.env = (false, eval e X.env) :: starEach es X.env := by rfl) (hpl : (backTo pos (starEach es X.env)).any (·.1) = false := by rfl) :
    DE X EA W (.Call (.Name x p) (e :: es) [] pos) (mMkE C flds ml) := by
  obtain ⟨t, q, s⟩ := ha.ex
  refine ⟨_, pe_mkG T iC tI F1 hg hr hb hm q hgl hdb he hpl, fun ι w σ H ρ Q R E h => ?_⟩
  refine s ι w σ H ρ _ R E ((Hyp.bind h).imp fun xs ι1 w1 H1 s1 h1 Vs rs => ?_)
  obtain ⟨h2, _, h3⟩ := mk_snd hz s1.rel rs h1
  exact ⟨h2, h3⟩
end
/-- what the class D must say, so that isinstance and the fields are asked rightly -/
structure ExK (K : PySem.W.Frag) (D : Addr) : Prop where
  c : (PySem.W.clsIn K D).isSome = true
  ga : PySem.W.findIn K (.ref D) "__getattribute__" = some (some (.builtin "BaseException.__getattribute__"))
  gg : PySem.W.findIn K (.ref D) "__getattr__" = some none
  sb : PySem.W.subIn K (.ref D) (.type "BaseException") = some true
  hd : PySem.W.hasDictIn K D = true
  cl : PySem.W.findIn K (.ref D) "__class__" = some (some (.builtin "object.__class__"))
  cg : PySem.W.specialIn K (.builtin "object.__class__") "__get__" = some (some (.builtin "getset_descriptor.__get__"))
  ct : PySem.W.takesIn K (.builtin "object.__class__") = some true
  mo : PySem.W.mroIn K D (.type "object") = some true
theorem xd_at {P : PySem.Program} {w : World} {H : Hp} {h : Heap} {dx : Addr} {gs : List (Str × V)} (hok : HOk P w H h) (e : IsXd H dx gs) : ∃ mA, h.Ns1 dx mA ∧ ∀ f, RelO (gs.lookup f) (mA f) := by
  rcases e with e | e
  · exact exd_at hok e
  · have x : ObjOk P w H h dx (.xd gs) := hok dx _ e
    exact x
theorem ex_at {pins : List (Addr × Obj)} {σ : L2.St} {H : Hp} {s : Shared} (I : Inv X pins σ H s) {a C dx : Addr} (e : IsEx H a C dx) {od : Obj} (h : s.heap.get? dx = some od) : ∃ ox, PySem.W.InstAt s.heap a ox C (some od) ∧ ∃ vs, ox.data = .fields vs := by
  rcases e with e | e
  · obtain ⟨ox, J, t, rfl⟩ := inst_of I e (some od) ⟨od, rfl, h⟩
    exact ⟨_, J, _, rfl⟩
  · have x : ObjOk X.prog X.w H s.heap a (.ext fun h => ∃ (oe : Obj) (vs : Array Value), h.get? a = some oe ∧ oe.cls = .ref C ∧ oe.dict = some dx ∧ oe.data = .fields vs) := I.hok a _ e
    obtain ⟨⟨oe, vs, h1, h2, h3, h4⟩, _, _⟩ := x
    exact ⟨oe, ⟨h1, h2, by unfold PySem.W.notCls; rw [h4], by rw [h3]; exact h⟩, vs, h4⟩
theorem exc_inst {pins : List (Addr × Obj)} {σ : L2.St} {H : Hp} {s : Shared} (I : Inv X pins σ H s) {M : List Addr} {v : V} {cf : ExV} (h : ExR X.K M H v cf) : ∃ a dx gs, v = .ref a ∧ IsXd H dx gs ∧ gs.map (·.1) = cf.2.map (·.1) ∧ DtA X.K M H (gs.map (·.2)) (cf.2.map (·.2)) ∧
    ∃ ox od mA, PySem.W.InstAt s.heap a ox cf.1 (some od) ∧ s.heap.Ns1 dx mA ∧ s.heap.get? dx = some od ∧ ∀ f, RelO (gs.lookup f) (mA f) := by
  obtain ⟨a, dx, gs, rfl, h1, n1, h2, n2, h3, h4⟩ := h
  obtain ⟨mA, hns, rel⟩ := xd_at I.hok h2
  obtain ⟨oD, _, _, hoD, _, _⟩ := hns.count (within_of rel)
  obtain ⟨ox, J, _, _⟩ := ex_at I h1 hoD
  exact ⟨a, dx, gs, rfl, h2, h3, h4, ox, oD, mA, J, hns, hoD, rel⟩
/-- isinstance(x, c), x an exception -/
def rIsX (K : PySem.W.Frag) : List V → Hp → VK → Prop := fun xs H Q => ∃ (M : List Addr) (v c : V) (cf : ExV) (cv : Value) (b : Bool), xs = [v, c] ∧ ExR K M H v cf ∧ ExK K cf.1 ∧ (∀ u, RelV c u → u = cv) ∧ PySem.W.kitOne K (.ref cf.1) cv = some b ∧ Q (.bl b) H
theorem call_isX : CallR X (.builtin "isinstance") (rIsX X.K) := by
  intro pins s σ H xs us Q I r h
  obtain ⟨M, v, c, cf, cv, b, rfl, hx, C, hcv, e, q⟩ := h
  obtain ⟨a, dx, gs, rfl, _, _, _, ox, od, mA, J, _⟩ := exc_inst I hx
  cases r with
  | cons rx rr =>
    cases rr with
    | cons rt rr =>
      cases rr
      cases rx
      have ec := hcv _ rt
      subst ec
      exact PySem.W.kia_one (PySem.W.kitx_exc C.c C.ga C.gg C.sb C.cl C.cg C.ct C.mo) I.kIn J e (fun z => nomatch z) fun tk => ⟨.bl b, H, I.kept (t' := tk) fun _ _ z => z, rfl, q⟩
def gIsE (tab : List (Addr × Bool)) : Op1 := fun x _ => match x with
  | .exc c => (tab.lookup c.1).map fun b => .dat (.bool b)
  | _ => none
theorem lookup_mem {β : Type} : ∀ {l : List (Addr × β)} {k : Addr} {b : β}, l.lookup k = some b → (k, b) ∈ l
  | [], _, _, h => by cases h
  | (j, d) :: r, k, b, h => by
    by_cases e : k = j
    · subst e
      have h : some d = some b := by simpa [List.lookup] using h
      cases h
      exact List.mem_cons_self
    · have e' : (k == j) = false := by simpa using e
      have h : r.lookup k = some b := by simpa [List.lookup, e'] using h
      exact List.mem_cons_of_mem _ (lookup_mem h)
theorem de_isE {T : Str} {q0 : Pos} {c : V} {cv : Value} {tab : List (Addr × Bool)} (hm : X.mg "isinstance" = none) (hc : PE X (.Name T q0) (tC c)) (hcv : ∀ u, RelV c u → u = cv) (ht : ∀ p ∈ tab, ExK X.K p.1 ∧ PySem.W.kitOne X.K (.ref p.1) cv = some p.2) (ha : DE X EA W a ma) (hg : Gl X "isinstance" := by rfl)
    (he : starEach (a :: [.Name T q0]) X.env = (false, eval a X.env) :: starEach [.Name T q0] X.env := by rfl) (he2 : starEach (.Name T q0 :: []) X.env = (false, eval (.Name T q0) X.env) :: starEach [] X.env := by rfl) (hpl : (backTo pos (starEach [.Name T q0] X.env)).any (·.1) = false := by rfl) :
    DE X EA W (.Call (.Name "isinstance" p) [a, .Name T q0] [] pos) (mUn ma (gIsE tab)) := by
  obtain ⟨t, q, s⟩ := ha.ex
  refine ⟨_, pe_callB call_isX hg hm (by decide +kernel) (pa_cons q (pa_cons hc pa_nil he2) he) (by decide) (by decide) he hpl, fun ι w σ H ρ Q R E h => ?_⟩
  refine s ι w σ H ρ _ R E ((Hyp.bind h).imp fun y ι1 w1 H1 s1 h1 V rv => ?_)
  cases y with
  | exc cf =>
    have h1 : Hyp X.K EA ι1 w1 H1 (((tab.lookup cf.1).map fun b => SV.dat (.bool b)).map fun v => (Res.ok v, w1)) _ _ := h1
    cases hl : tab.lookup cf.1 with
    | none => rw [hl] at h1; exact h1.elim
    | some b =>
      rw [hl] at h1
      obtain ⟨k1, k2⟩ := ht _ (lookup_mem hl)
      exact ⟨_, V, c, cf, cv, b, rfl, rv, k1, hcv, k2, Hyp.here h1 s1.rel _ (Dt.bl _)⟩
  | _ => exact h1.elim
/-- err.f -/
def gFld (cs : List Addr) (f : Str) : Op1 := fun x _ => match x with
  | .exc c => if c.1 ∈ cs then (c.2.lookup f).map .dat else none
  | _ => none
theorem lookup_rel {M : List Addr} {H : Hp} {f : Str} {d : PyData} : ∀ {gs : List (Str × V)} {fs : List (Str × PyData)}, gs.map (·.1) = fs.map (·.1) → DtA K M H (gs.map (·.2)) (fs.map (·.2)) → fs.lookup f = some d → ∃ v, gs.lookup f = some v ∧ Dt K M H v d
  | [], [], _, _, h => by cases h
  | [], _ :: _, h, _, _ => by simp at h
  | _ :: _, [], h, _, _ => by simp at h
  | (g, v) :: r, (g', d') :: r', h, q, e => by
    have h' : g = g' ∧ r.map (·.1) = r'.map (·.1) := by simpa using h
    obtain ⟨rfl, h'⟩ := h'
    cases q with
    | cons q1 q2 =>
      by_cases c : f = g
      · subst c
        have e : some d' = some d := by simpa [List.lookup] using e
        cases e
        exact ⟨v, by simp [List.lookup], q1⟩
      · have c' : (f == g) = false := by simpa using c
        obtain ⟨u, h1, h2⟩ := lookup_rel h' q2 (by simpa [List.lookup, c'] using e)
        exact ⟨u, by simpa [List.lookup, c'] using h1, h2⟩
theorem de_fld {f : Str} {cs : List Addr} (hc : ∀ C ∈ cs, ExK X.K C ∧ PySem.W.findIn X.K (.ref C) f = some none) (ha : DE X EA W a ma) (hb : attributeBase a f X.env (eval a X.env) = eval a X.env := by rfl) : DE X EA W (.Attribute a f pos) (mUn ma (gFld cs f)) := by
  obtain ⟨t, q, s⟩ := ha.ex
  refine ⟨fun σ H Q => t σ H fun v H1 => ∃ (M : List Addr) (cf : ExV) (dx : Addr) (gs : List (Str × V)) (y : V), ExR X.K M H1 v cf ∧ ExK X.K cf.1 ∧ PySem.W.findIn X.K (.ref cf.1) f = some none ∧ (∃ a, v = .ref a ∧ IsEx H1 a cf.1 dx) ∧ IsXd H1 dx gs ∧ gs.lookup f = some y ∧ Q y H1,
    ⟨fun pins z σ H Q I h => ?_⟩, fun ι w σ H ρ Q R E h => ?_⟩
  · refine attr_of hb (thn (q.run pins z σ H _ I h) fun u s1 hh => ?_)
    obtain ⟨x, H1, I1, rx, M, cf, dx, gs, y, _, C, hno, ⟨a, rfl, ea⟩, ed, hl, k⟩ := hh
    obtain rfl : u = Value.ref a := rx
    obtain ⟨mA, hns, rel⟩ := xd_at I1.hok ed
    obtain ⟨od, ho, hlk⟩ := lookIn_ns hns
    obtain ⟨ox, J, vso, hdo⟩ := ex_at I1 ea ho
    obtain ⟨u, hu, ru⟩ := RelO.some_of (v := y) (o := mA f) (by rw [← hl]; exact rel f)
    exact HandSPX.exc_get I1.kIn J C.ga C.gg C.sb (PySem.W.findObj_own C.hd hno rfl (by rw [hlk, hu])) (handed_of ru) ⟨y, H1, I1.tok _, ru, k⟩
  · refine s ι w σ H ρ _ R E ((Hyp.bind h).imp fun y ι1 w1 H1 s1 h1 V rv => ?_)
    cases y with
    | exc cf =>
      have h1 : Hyp X.K EA ι1 w1 H1 ((if cf.1 ∈ cs then (cf.2.lookup f).map SV.dat else none).map fun v => (Res.ok v, w1)) _ _ := h1
      by_cases c : cf.1 ∈ cs
      · rw [if_pos c] at h1
        cases hl : cf.2.lookup f with
        | none => rw [hl] at h1; exact h1.elim
        | some d =>
          rw [hl] at h1
          have rv' : ExR X.K (mz ι1 w1) H1 V cf := rv
          obtain ⟨a, dx, gs, rfl, g1, n1, g2, n2, g3, g4⟩ := rv
          obtain ⟨v, k1, k2⟩ := lookup_rel g3 g4 hl
          obtain ⟨C1, C2⟩ := hc _ c
          exact ⟨_, cf, dx, gs, v, rv', C1, C2, ⟨a, rfl, g1⟩, g2, k1, Hyp.here h1 s1.rel _ k2⟩
      · rw [if_neg c] at h1; exact h1.elim
    | _ => exact h1.elim
end
end EG


set_option Elab.async false
set_option linter.all false
set_option maxRecDepth 100000
set_option maxHeartbeats 4000000
namespace PySem
namespace EGX
open Builtin Builtin.ObjectAttr HandSPX
section
variable {M : Model} {A : Around} {E : Value → Shared → Prop} {h : Heap} {g : Array GenState} {d : Drawn} {t : Nat} {os : OsState}
variable {nm q : Str} {C N : Addr} {bs bm bmB : List Value} {hdct : Bool} {sn : List Str} {sub : List Value} {ab : Bool} {col : Option Bool} {dd : Option Addr} {k0 k1 k2 k3 k5 : Option Value} {B newId initId : String}
theorem kw_check (F : ExcBaseFacts B newId initId bmB) (hT : ∀ X : String, bm.contains (.type X) = bmB.contains (.type X)) {us : List Value} {kw : List (Str × Value)} {Q : Unit → Shared → Prop}
    (hC : h.get? C = some (excClassObj nm q C N bs bm hdct sn sub ab col dd k0 k1 k2 k3 k5 newId)) (hq : Q () ⟨h, g, d, t, os⟩) : wpAny M A (checkBuiltinCall newId ⟨.ref C :: us, kw⟩) Q E ⟨h, g, d, t, os⟩ := by
  have c1 : (Value.ref C :: bm).contains (.type B) = true := (List.contains_cons).trans (by rw [hT, F.hasB, Bool.or_true])
  have st := F.noStar
  simp only [checkBuiltinCall, F.newKind, F.newSplit, F.newRow]

  repeat (first | refine wpAny_staticBase_exc hC ?_ | refine wpAny_madeBy_exc hC ?_ | refine wpAny_loadPart_at hC ?_ | (refine wpAny_isSubtype_exc hC ?_; rw [c1]) | simp only [bne_self_eq_false, Bool.false_eq_true, if_false] | wp_step)

  exact hq
end
section
variable {prog : Program} {w : World} {A : Around} {E : Value → Shared → Prop} {R : Result → Shared → Prop} {h : Heap} {g : Array GenState} {d : Drawn} {t : Nat} {os : OsState}
variable {nm q : Str} {C N : Addr} {bs bm bmB : List Value} {hdct : Bool} {sn : List Str} {sub : List Value} {ab : Bool} {col : Option Bool} {dd : Option Addr} {k0 k1 k2 k3 k5 : Option Value} {B newId initId : String}
theorem kw_new (F : ExcBaseFacts B newId initId bmB) (hT : ∀ X : String, bm.contains (.type X) = bmB.contains (.type X)) {us : List Value} {kw : List (Str × Value)} (hl : us.length ≤ sizeLine)
    (hC : h.get? C = some (excClassObj nm q C N bs bm hdct sn sub ab col dd k0 k1 k2 k3 k5 newId))
    (z : R (.ok (.ret (.ref (h.objs.size + 1)))) ⟨(h.push (W.kdv_tup us)).push (excO C h.objs.size), g, d, t, os⟩) :
    codeAny (model prog w) A (.builtin newId ⟨.ref C :: us, kw⟩) R ⟨h, g, d, t, os⟩ := by
  have e0 := F.ends
  have c1 : (Value.ref C :: bm).contains (.type B) = true := (List.contains_cons).trans (by rw [hT, F.hasB, Bool.or_true])
  have c2 : (Value.ref C :: bm).contains (.type "AttributeError") = false := (List.contains_cons).trans (by rw [hT, F.noAttr]; rfl)
  have c3 : (Value.ref C :: bm).contains (.type "NameError") = false := (List.contains_cons).trans (by rw [hT, F.noName]; rfl)
  refine codeAny_builtinAt F.entry ?_
  unfold Builtin.«BaseException.__new__»
  refine wpAt_bind ?_
  show wpAt _ _ _ (stack >>= _) _ _ _
  refine wpAt_bind (wpAt_stack fun p below => wpAt_of_wpAny ?_)
  wp_walk
  refine wpAt_of_wpAny ?_
  rw [F.owner]
  repeat (first | with_reducible refine wpAny_loadPart_at hC ?_ | with_reducible refine wpAny_madeHere_exc F.canon hC ?_ | (with_reducible refine wpAny_isSubtype_exc hC ?_; first | rw [c1] | rw [c2] | rw [c3]) | wp_step)
  show R _ _
  rw [Heap.size_push]
  exact z
theorem kw_type (F : ExcBaseFacts B newId initId bmB) (hT : ∀ X : String, bm.contains (.type X) = bmB.contains (.type X)) {us : List Value} {kw : List (Str × Value)} {fI : Addr} {Q : Fin → Shared → Prop} (hl : us.length ≤ sizeLine)
    (hC : h.get? C = some (excClassObj nm q C N bs bm hdct sn sub ab col dd k0 k1 k2 k3 k5 newId))
    (hi : W.Looks (model prog w) h (typeLookup (.ref C) "__init__") (some (.ref fI))) (hb : ∀ self, W.Looks (model prog w) h (bindSpecial (.ref fI) self) (.ref fI, [self]))
    (z : codeAny (model prog w) A (.call (.ref fI) ⟨.ref (h.objs.size + 1) :: us, kw⟩)
      (fun r s' => match r with | .ok (.ret v) => v = .none ∧ Q (.done (.ret (.ref (h.objs.size + 1)))) s' | .ok _ => False | .error e => E e s')
      ⟨(h.push (W.kdv_tup us)).push (excO C h.objs.size), g, d, t, os⟩) :
    wpAny (model prog w) A (Builtin.«type.__call__» ⟨.ref C :: us, kw⟩) Q E ⟨h, g, d, t, os⟩ := by
  repeat (first | with_reducible refine wpAny_madeBy_exc hC ?_ | with_reducible refine wpAny_loadPart_at hC ?_ | wp_step)
  refine codeAny_call_builtin_code (Code.quiet_builtin _ F.quiet) (kw_check F hT hC ?_)
  refine kw_new F hT hl hC ?_
  show wpAny _ _ _ _ _ _
  have k : ∀ b o, h.get? b = some o → ((h.push (W.kdv_tup us)).push (excO C h.objs.size)).get? b = some o := fun b o e => Heap.get?_push_of_some _ (Heap.get?_push_of_some _ e)
  have hC1 := k _ _ hC
  have hg1 : ((h.push (W.kdv_tup us)).push (excO C h.objs.size)).get? (h.objs.size + 1) = some (excO C h.objs.size) := by heap_get
  have c0 : (Value.ref C :: bm).contains (.ref C) = true := by simp
  have i1 := hi.keeps k
  have b1 := (hb (.ref (h.objs.size + 1))).keeps k
  unfold isInstance
  repeat (first | with_reducible refine wpAny_loadPart_at hg1 ?_ | (with_reducible refine wpAny_isSubtype_exc hC1 ?_; rw [c0]) | wp_step)
  show wpAny _ _ (typeLookup (.ref C) _) _ _ _
  refine i1.at (wpAny_holding (wpAny_bind (b1.at ?_)))
  refine wpAny_bind (wpAny_call (codeAny_mono z fun r s' y => ?_))
  rcases r with e | (v | _ | _ | _) <;> first | exact y | exact y.elim | skip
  obtain ⟨rfl, y⟩ := y
  first
    | exact wpAny_pure (wpAny_pure y)
    | (wp_walk; exact y)
theorem kw_call (F : ExcBaseFacts B newId initId bmB) (hT : ∀ X : String, bm.contains (.type X) = bmB.contains (.type X)) {us : List Value} {kw : List (Str × Value)} {fI : Addr} (hl : us.length ≤ sizeLine)
    (hC : h.get? C = some (excClassObj nm q C N bs bm hdct sn sub ab col dd k0 k1 k2 k3 k5 newId))
    (hi : W.Looks (model prog w) h (typeLookup (.ref C) "__init__") (some (.ref fI))) (hb : ∀ self, W.Looks (model prog w) h (bindSpecial (.ref fI) self) (.ref fI, [self]))
    (z : codeAny (model prog w) (A.under (.builtin "type.__call__" ⟨.ref C :: us, kw⟩)) (.call (.ref fI) ⟨.ref (h.objs.size + 1) :: us, kw⟩) (W.InitBack (h.objs.size + 1) R)
      ⟨(h.push (W.kdv_tup us)).push (excO C h.objs.size), g, d, t, os⟩) :
    codeAny (model prog w) A (.call (.ref C) ⟨us, kw⟩) R ⟨h, g, d, t, os⟩ := by
  have f1 := tc_lookup
  have f2 := tc_bind (.ref C)
  have ty : (⟨h, g, d, t, os⟩ : Shared).TypeIs (.ref C) "type" := ⟨_, hC, rfl⟩
  refine codeAny_of_tree ?_
  show wpAny _ _ (callAny (.ref C) _) _ _ _
  repeat (any_goals (first | assumption | with_reducible refine wpAny_loadPart_at hC ?_ | wp_step))
  refine ⟨rfl, codeAny_call_builtin_at (Code.quiet_builtin _ (by decide +kernel)) entry_typeCall (wpAny_check_type_call_sub hC (kw_type F hT hl hC hi hb ?_))⟩
  refine codeAny_mono z fun r s' y => ?_
  rcases r with e | (v | _ | _ | _) <;> exact y
end
end EGX
end PySem


set_option Elab.async false
set_option linter.all false
set_option maxRecDepth 100000
set_option maxHeartbeats 4000000
namespace EG
open PySem PySem.Spec PyProof.Rows L2
/-! ### C(k = v, ..) -/
structure DK (X : Cx) (EA : EAt) (W : WX) (kws : List Keyword) (m : Env → Mo (List SV)) : Prop where
  ex : ∃ t : TA, PK X kws t ∧ ∀ ι w σ H ρ Q, SRel X.K ι w H → EnvR X.K ι (mz ι w) H σ ρ → Hyp X.K EA ι w H (m ρ w) (fun xs ι' w' H' => ∀ Vs, VsR X.K ι' (mz ι' w') H' Vs xs → Q Vs H') (fun cls d H' => W cls d σ H') → t σ H Q
/-- in the order of the parameters -/
def turn {α : Type} (r : Bool) (xs : List α) : List α := if r then xs.reverse else xs
theorem turn_len {α : Type} {r : Bool} {xs : List α} : (turn r xs).length = xs.length := by cases r <;> simp [turn]
def mTurn (r : Bool) (m : Env → Mo (List SV)) : Env → Mo (List SV) := fun ρ => mBind (m ρ) fun xs => mPure (turn r xs)
section
variable {X : Cx} {EA : EAt} {W : WX} {e : Expr} {m : Env → Mo SV} {ml : Env → Mo (List SV)} {kws : List Keyword} {nm : Option Str} {kpos : Pos}
theorem dk_nil : DK X EA W [] mNil := ⟨tNil, pk_nil, fun ι w σ H ρ Q R E h => Hyp.here h R _ .nil⟩
theorem dk_cons (ha : DE X EA W e m) (hr : DK X EA W kws ml) : DK X EA W (⟨nm, e, kpos⟩ :: kws) (mCons m ml) := by
  obtain ⟨t, p, s⟩ := ha.ex
  obtain ⟨u, q, z⟩ := hr.ex
  refine ⟨tCons t u, pk_cons p q, fun ι w σ H ρ Q R E h => ?_⟩
  refine s ι w σ H ρ _ R E ((Hyp.bind h).imp fun x ι1 w1 H1 s1 h1 V rv => ?_)
  refine z _ _ σ H1 ρ _ s1.rel (E.stp s1) ((Hyp.bind h1).imp fun xs ι2 w2 H2 s2 h2 Vs rs => ?_)
  exact Hyp.here h2 s2.rel _ (.cons (rv.stp s2) rs)
end
theorem vals_app1 {a : V} {u : Value} (h : RelV a u) : ∀ {vs : List V} {us : List Value}, Vals vs us → Vals (vs ++ [a]) (us ++ [u])
  | _, _, .nil => .cons h .nil
  | _, _, .cons g r => .cons g (vals_app1 h r)
theorem vals_rev : ∀ {vs : List V} {us : List Value}, Vals vs us → Vals vs.reverse us.reverse
  | _, _, .nil => .nil
  | _, _, .cons g r => by
    rw [List.reverse_cons, List.reverse_cons]
    exact vals_app1 g (vals_rev r)
theorem vals_turn {r : Bool} {vs : List V} {us : List Value} (h : Vals vs us) : Vals (EG.turn r vs) (EG.turn r us) := by
  cases r
  · exact h
  · exact vals_rev h
section
variable {K : PySem.W.Frag} {ι : List (List Addr)} {M : List Addr} {H : Hp}
theorem VsR.app1 {a : V} {x : SV} (h : VRel K ι M H a x) : ∀ {vs : List V} {xs : List SV}, VsR K ι M H vs xs → VsR K ι M H (vs ++ [a]) (xs ++ [x])
  | _, _, .nil => .cons h .nil
  | _, _, .cons g r => .cons g (VsR.app1 h r)
theorem VsR.rev : ∀ {vs : List V} {xs : List SV}, VsR K ι M H vs xs → VsR K ι M H vs.reverse xs.reverse
  | _, _, .nil => .nil
  | _, _, .cons g r => by
    rw [List.reverse_cons, List.reverse_cons]
    exact VsR.app1 g (VsR.rev r)
theorem VsR.turn {r : Bool} {vs : List V} {xs : List SV} (h : VsR K ι M H vs xs) : VsR K ι M H (EG.turn r vs) (EG.turn r xs) := by
  cases r
  · exact h
  · exact VsR.rev h
end
def tMkK (C : Addr) (n : Nat) (r : Bool) (sp : Sp) (ta : TA) : TE := fun σ H Q => ta σ H fun vs H1 => vs.length = n ∧ ∀ a, H1 a = none → sp (.ref a :: turn r vs) (upd H1 a (exo a C none)) (fun v H2 => v = .non ∧ Q (.ref a) H2) (fun _ _ _ => False)
section
variable {X : Cx} {EA : EAt} {W : WX} {kws : List Keyword} {ta : TA} {ml : Env → Mo (List SV)} {x : Str} {p pos : Pos} {B newId initId : String} {bmB : List Value} {C fI : Addr} {k : Nat} {fd : FuncData} {ps ks flds : List Str} {sp : Sp} {r : Bool}
theorem pe_mkK (T : EC X.K C B newId initId bmB) (iC : PySem.W.findIn X.K (.ref C) "__init__" = some (some (.ref fI))) (tI : PySem.W.typeIn X.K (.ref fI) = some (.type "function")) (F1 : FnG X.prog X.w X.K X.mg X.base k fI fd ps sp) (hg : X.A.guards = some []) (hr : Room (k + 1) X.A)
    (hb : ∀ (s : Shared) (u : Value) (ws : List Value), X.K.In s.heap → ws.length = ks.length → BindsTo s fd ⟨[u], ks.zip ws⟩ (ps.zip (u :: turn r ws))) (hm : X.mg x = some (.ref C)) (ha : PK X kws ta) (hgl : Gl X x := by rfl) (hdb : (x == ("__debug__" : Str)) = false := by decide)
    (hall : (backToKw pos (keywordEach kws X.env)).all (·.1.isSome) = true := by rfl) (hks : (backToKw pos (keywordEach kws X.env)).filterMap (·.1) = ks := by rfl)
    (hpl : ((backTo pos (starEach [] X.env)).any (·.1) || (backToKw pos (keywordEach kws X.env)).any (·.1.isNone)) = false := by rfl) :
    PE X (.Call (.Name x p) [] kws pos) (tMkK C ks.length r sp ta) := by
  refine ⟨fun pins s σ H Q I h => ?_⟩
  refine wpAny_Call_Name_kw (ld_glob I hgl hm ?_ hdb)
  refine PySem.W.callWith_KW0 (h₀ := X.base) I.ok.mod.kin T.kC hall (thn (ha.run pos pins s σ H _ I h) fun ws s1 ⟨vs, H1, I1, r1, hz, q1⟩ => ⟨I1.kIn, ?_⟩) hpl
  rw [hks]
  show wpAny _ _ (call (.ref C) [] (ks.zip ws)) _ _ _
  obtain ⟨nm, N', qn, bs, bm, hdct, sn, sub, ab, col, dd, k0, k1, k2, k3, k5, hC, hT⟩ := PySem.W.excInit_of I1.kIn T.q
  obtain ⟨hp, g, dr, tk, os⟩ := s1
  have hn : H1 (hp.objs.size + 1) = none := I1.hok.fresh (Nat.le_succ _)
  have hq := q1 _ hn
  have kk : ∀ b o, hp.get? b = some o → ((hp.push (PySem.W.kdv_tup [])).push (PySem.HandSPX.excO C hp.objs.size)).get? b = some o := fun b o e => Heap.get?_push_of_some _ (Heap.get?_push_of_some _ e)
  have hget : ((hp.push (PySem.W.kdv_tup [])).push (PySem.HandSPX.excO C hp.objs.size)).get? (hp.objs.size + 1) = some (PySem.HandSPX.excO C hp.objs.size) := by heap_get
  have I2 : Inv X pins σ (upd H1 (hp.objs.size + 1) (exo (hp.objs.size + 1) C none)) ⟨(hp.push (PySem.W.kdv_tup [])).push (PySem.HandSPX.excO C hp.objs.size), g, dr, tk, os⟩ :=
    I1.laid (t' := tk) (a := hp.objs.size + 1) (o := exo (hp.objs.size + 1) C none) kk (Nat.le_succ _) (exo_ok hget)
  have r2 : Vals (V.ref (hp.objs.size + 1) :: turn r vs) (Value.ref (hp.objs.size + 1) :: turn r ws) := .cons rfl (vals_turn r1)
  have b := hb _ (Value.ref (hp.objs.size + 1)) ws I2.kIn (by rw [← r1.length]; exact hz)
  refine wpAny_call (PySem.EGX.kw_call T.F hT (us := []) (kw := ks.zip ws) (by rw [sizeLine_eq]; decide) hC (PySem.W.looks_findIn I1.kIn iC) (fun self => PySem.W.bind_fn I1.kIn self tI)
    (codeAny_mono (F1.run _ X.stack _ _ ⟨[Value.ref (hp.objs.size + 1)], ks.zip ws⟩ (Value.ref (hp.objs.size + 1) :: turn r ws) _ _ (fun _ _ _ => False) hg (hr.make C [] (ks.zip ws)) (I2.env0.make C [] (ks.zip ws)) b r2 hq) fun r s' hq' => ?_))
  match r, hq' with
  | .error er, hq' =>
    obtain ⟨_, _, _, _, _, _, _, _, _, _, _, _, z⟩ := hq'
    exact z.elim
  | .ok (.ret u), hq' =>
    obtain ⟨v, H2, I3, rv, ev, q2⟩ := I2.after hq'
    subst ev
    exact ⟨rv, .ref (hp.objs.size + 1), H2, I3, rfl, q2⟩
theorem de_mkK (T : EC X.K C B newId initId bmB) (iC : PySem.W.findIn X.K (.ref C) "__init__" = some (some (.ref fI))) (tI : PySem.W.typeIn X.K (.ref fI) = some (.type "function")) (F1 : FnG X.prog X.w X.K X.mg X.base k fI fd ps (spIni C flds)) (hg : X.A.guards = some []) (hr : Room (k + 1) X.A)
    (hb : ∀ (s : Shared) (u : Value) (ws : List Value), X.K.In s.heap → ws.length = ks.length → BindsTo s fd ⟨[u], ks.zip ws⟩ (ps.zip (u :: turn r ws))) (hm : X.mg x = some (.ref C)) (ha : DK X EA W kws ml) (hz : flds.length ≤ 1000 := by decide) (hkf : flds.length = ks.length := by rfl) (hgl : Gl X x := by rfl) (hdb : (x == ("__debug__" : Str)) = false := by decide)
    (hall : (backToKw pos (keywordEach kws X.env)).all (·.1.isSome) = true := by rfl) (hks : (backToKw pos (keywordEach kws X.env)).filterMap (·.1) = ks := by rfl)
    (hpl : ((backTo pos (starEach [] X.env)).any (·.1) || (backToKw pos (keywordEach kws X.env)).any (·.1.isNone)) = false := by rfl) :
    DE X EA W (.Call (.Name x p) [] kws pos) (mMkE C flds (mTurn r ml)) := by
  obtain ⟨t, q, s⟩ := ha.ex
  refine ⟨_, pe_mkK T iC tI F1 hg hr hb hm q hgl hdb hall hks hpl, fun ι w σ H ρ Q R E h => ?_⟩
  refine s ι w σ H ρ _ R E ((Hyp.bind (Hyp.bind h)).imp fun xs ι1 w1 H1 s1 h1 Vs rs => ?_)
  have h2 := Hyp.pure h1 s1.rel
  obtain ⟨h3, h4, h5⟩ := mk_snd hz s1.rel rs.turn h2
  rw [turn_len] at h4
  exact ⟨by rw [h4, hkf], h5⟩
end
/-! ### lists of exceptions -/
def excsO : List SV → Option (List ExV)
  | [] => some []
  | .exc c :: r => (excsO r).map (c :: ·)
  | _ :: _ => none
section
variable {X : Cx} {K : PySem.W.Frag} {EA : EAt} {W : WX} {a b : Expr} {es : List Expr} {ma mb : Env → Mo SV} {ml : Env → Mo (List SV)} {pos p : Pos}
theorem excsO_rel {ι : List (List Addr)} {M : List Addr} {H : Hp} : ∀ {vs : List V} {xs : List SV} {cs : List ExV}, VsR K ι M H vs xs → excsO xs = some cs → ExA K M H vs cs
  | _, _, _, .nil, e => by cases e; exact .nil
  | _, _, cs, .cons (x := x) (xs := xs) h r, e => by
    cases x with
    | exc c =>
      have e : (excsO xs).map (c :: ·) = some cs := e
      cases q : excsO xs with
      | none => rw [q] at e; cases e
      | some ds =>
        rw [q] at e
        cases e
        exact .cons h (excsO_rel r q)
    | _ => cases e
def mExcs (m : Env → Mo (List SV)) : Env → Mo SV := fun ρ => mBind (m ρ) fun xs w => match excsO xs with
  | some cs => if fitsN cs.length then some (.ok (.excs cs), w) else none
  | none => none
theorem de_excs (ha : DA X EA W es ml) : DE X EA W (.List es pos) (mExcs ml) := by
  obtain ⟨t, p, s⟩ := ha.ex
  refine ⟨tLst t, pe_lst p, fun ι w σ H ρ Q R E h => ?_⟩
  refine s ι w σ H ρ _ R E ((Hyp.bind h).imp fun xs ι1 w1 H1 s1 h1 Vs rs => ?_)
  cases e : excsO xs with
  | none => simp only [e] at h1; exact h1.elim
  | some cs =>
    simp only [e] at h1
    have q2 := excsO_rel rs e
    by_cases c : fitsN cs.length = true
    · rw [if_pos c] at h1
      refine ⟨by rw [q2.length]; exact of_decide_eq_true c, fun z hz => ?_⟩
      have s3 := Stp.new (o := .lst Vs) s1.rel hz
      exact h1 _ _ s3 _ ⟨z, Vs, rfl, upd_same, fun m => s1.rel.ne m hz rfl, q2.go s3.go⟩
    · rw [if_neg c] at h1; exact h1.elim
def gIxE : Op2 := fun x y _ => match x, y with
  | .excs l, .dat (.int i) => (atD l i).map .exc
  | _, _ => none
theorem atD_ex {M : List Addr} {H : Hp} {vs : List V} {ds : List ExV} {i : Int} {d : ExV} (h : ExA K M H vs ds) (e : atD ds i = some d) : ∃ v, atI vs i = some v ∧ ExR K M H v d := by
  unfold atD at e
  cases q : ixN ds.length i with
  | none => rw [q] at e; cases e
  | some j =>
    rw [q] at e
    obtain ⟨v, h1, h2⟩ := h.getD e
    refine ⟨v, ?_, h2⟩
    unfold atI
    rw [h.length, q]
    exact h1
theorem de_ixE (ha : DE X EA W a ma) (hb : DE X EA W b mb) (hs : PlainIx b := by exact fun _ _ => rfl) : DE X EA W (.Subscript a b pos) (mBin ma mb gIxE) := by
  obtain ⟨ta, pa, sa⟩ := ha.ex
  obtain ⟨tb, pb, sb⟩ := hb.ex
  refine ⟨_, pe_ix ix_list pa pb hs, fun ι w σ H ρ Q R E h => ?_⟩
  refine two (R := fun x y H2 => rIxL X.K x y H2 Q) sa sb R E h fun ι2 w2 H2 vx vy x y s rx ry h2 => ?_
  cases x with
  | excs l =>
    cases y with
    | dat d =>
      cases d with
      | int i =>
        have h2 : Hyp X.K EA ι2 w2 H2 (((atD l i).map SV.exc).map fun v => (Res.ok v, w2)) _ _ := h2
        cases q : atD l i with
        | none => rw [q] at h2; exact h2.elim
        | some c =>
          rw [q] at h2
          obtain ⟨a, vs, rfl, g1, g2, g3⟩ := rx
          cases ry
          obtain ⟨v, k1, k2⟩ := atD_ex g3 q
          exact ⟨a, vs, i, v, rfl, rfl, SqL.of g1, k1, Hyp.here h2 s.rel _ k2⟩
      | _ => exact h2.elim
    | _ => exact h2.elim
  | _ => exact h2.elim
/-- for x in (a, b, ..) -/
def forS (i : Nat) (body : Env → Mo Out) : List SV → Env → Mo Out
  | [], ρ => mPure (.nx ρ)
  | x :: r, ρ => mBind (body (ρ.set i (some x))) fun o => match o with
    | .nx ρ2 => forS i body r ρ2
    | .ct ρ2 => forS i body r ρ2
    | .bk ρ2 => mPure (.nx ρ2)
    | .rt v => mPure (.rt v)
def mForS (i : Nat) (m : Env → Mo (List SV)) (body : Env → Mo Out) : Env → Mo Out := fun ρ => mBind (m ρ) fun xs => if fitsN xs.length then forS i body xs ρ else mFail
theorem VsR.getS {ι : List (List Addr)} {M : List Addr} {H : Hp} : ∀ {vs : List V} {xs : List SV} {i : Nat} {x : SV}, VsR K ι M H vs xs → xs[i]? = some x → ∃ v, vs[i]? = some v ∧ VRel K ι M H v x := VsR.getx
theorem drop_getS {ds : List SV} {i : Nat} (h : i < ds.length) : ds.drop i = ds[i] :: ds.drop (i + 1) := List.drop_eq_getElem_cons h
theorem ds_forS {i0 : Nat} {x : Str} {x1 : Nat} {p1 p2 : Pos} {body : List Stmt} {mbody : Env → Mo Out} (hp : PassesOwn (model X.prog X.w) X.A X.env X.xe) (hc : X.calm = true) (hN : X.N.Nodup) (ha : DA X EA W es ml) (hb : DSs X EA W body mbody) (hi : X.N[i0]? = some x := by rfl) (hx : Loc X.env.scope x := by first | exact Or.inl rfl | exact Or.inr rfl)
    (hf : X.fn x = true ∨ X.env.scope.names.lookup x = some .local := by first | exact .inl rfl | exact .inr rfl | assumption) (hs : ∀ y, foldedSetIterable (.Tuple es x1 p2) X.env y = pure y := by intro _; rfl) : DS X EA W (.For (.Name x p1) (.Tuple es x1 p2) body [] pos) (mForS i0 ml mbody) := by
  obtain ⟨ta, pa, sa⟩ := ha.ex
  obtain ⟨tb, pb, sb⟩ := hb.ex
  refine ⟨_, ps_for hp hc (pi_tup (pe_tup pa)) (pg_name hN hi hx hf) pb hs, fun ι w σ H ρ D R E h => ?_⟩
  refine sa ι w σ H ρ _ R E (((Hyp.bind h).wE σ).imp fun xs ι0 w0 H0 s0 h0 Vs rs => ?_)
  by_cases c : fitsN xs.length = true
  · rw [if_pos c] at h0
    refine ⟨by rw [rs.length]; exact of_decide_eq_true c, fun z hz => ?_⟩
    have sz := Stp.new (o := .tup Vs) s0.rel hz
    have rs1 := rs.stp sz
    have h1 := h0.on sz
    have hzM : z ∉ mz ι0 w0 := fun m => s0.rel.ne m hz rfl
    refine ⟨z, rfl, ⟨_, SqT.of upd_same⟩, ?_⟩
    refine ⟨fun i m σ H => ∃ ι w ρ, m = xs.length - i ∧ i ≤ xs.length ∧ Stp X.K ι0 w0 (upd H0 z (.tup Vs)) ι w H ∧ EnvR X.K ι (mz ι w) H σ ρ ∧ Hyp X.K EA ι w H (forS i0 mbody (xs.drop i) ρ w) (OutP X D) (WE' W),
      ⟨xs.length, ι0, w0, ρ, rfl, Nat.zero_le _, Stp.refl sz.rel, (E.stp s0).stp sz, h1⟩, ?_⟩
    rintro i m σ2 H2 ⟨ι2, w2, ρ2, rfl, hi, s2, E2, h2⟩
    have hz2 : SqT X.K H2 z Vs := SqT.of (s2.go z _ hzM upd_same).1
    by_cases hlt : i < xs.length
    · obtain ⟨v, hv, rv⟩ := (rs1.stp s2).getx (List.getElem?_eq_getElem hlt)
      refine .inr ⟨⟨_, v, hz2, hv⟩, fun σ H => ∃ m', m' < xs.length - i ∧ ∃ ι w ρ, m' = xs.length - (i + 1) ∧ i + 1 ≤ xs.length ∧ Stp X.K ι0 w0 (upd H0 z (.tup Vs)) ι w H ∧ EnvR X.K ι (mz ι w) H σ ρ ∧ Hyp X.K EA ι w H (forS i0 mbody (xs.drop (i + 1)) ρ w) (OutP X D) (WE' W),
        fun σ' H' q => q, fun y H3 hy => ?_⟩
      obtain ⟨rfl, hy⟩ := hy
      have ey := hy Vs hz2
      rw [hv] at ey
      cases ey
      rw [drop_getS hlt] at h2
      refine sb ι2 w2 _ _ _ _ s2.rel (E2.set rv) ((Hyp.bind h2).imp fun o ι5 w5 H5 s5 h5 => ?_)
      have s15 := s2.trans s5
      cases o with
      | nx ρ5 => exact fun σ5 E5 => ⟨xs.length - (i + 1), by omega, ι5, w5, ρ5, rfl, hlt, s15, E5, h5⟩
      | ct ρ5 => exact fun σ5 E5 => ⟨xs.length - (i + 1), by omega, ι5, w5, ρ5, rfl, hlt, s15, E5, h5⟩
      | bk ρ5 =>
        have g : Hyp X.K EA ι5 w5 H5 (mPure (.nx ρ5) w5) (OutP X D) (WE' W) := h5
        exact fun σ5 E5 => (Hyp.pure g s5.rel : OutP X D (.nx ρ5) ι5 w5 H5) σ5 E5
      | rt v =>
        have g : Hyp X.K EA ι5 w5 H5 (mPure (.rt v) w5) (OutP X D) (WE' W) := h5
        exact (Hyp.pure g s5.rel : OutP X D (.rt v) ι5 w5 H5)
    · have e : i = xs.length := by omega
      subst e
      rw [List.drop_length] at h2
      have g : Hyp X.K EA ι2 w2 H2 (mPure (.nx ρ2) w2) (OutP X D) (WE' W) := h2
      exact .inl ⟨⟨Vs, hz2, by rw [rs.length]; exact Nat.le_refl _⟩, (Hyp.pure g s2.rel : OutP X D (.nx ρ2) ι2 w2 H2) σ2 E2⟩
  · rw [if_neg c] at h0; exact h0.elim
end
end EG


set_option Elab.async false
set_option linter.all false
set_option maxRecDepth 100000
set_option maxHeartbeats 4000000
namespace EG
open PySem PySem.Spec PyProof.Rows L2
/-! ### the law's own call -/
/-- no error leaves -/
def EA0 : EAt := fun _ _ _ _ _ _ => False
theorem EA0_go : EGo EA0 := fun _ _ _ _ _ _ _ _ _ h => h
/-- the abstract heap at the start: the script alone, where it is not one of the written part's own -/
def scrH (K : PySem.W.Frag) (a : Addr) (vs : List Value) (ns : List Int) : Hp := match K.lookup a with
  | some _ => fun _ => none
  | none => upd (fun _ => none) a (.frz { cls := .type "list", data := .seq vs.toArray } (.lst (ns.map V.int)))
theorem scrH_at {K : PySem.W.Frag} {a b : Addr} {vs : List Value} {ns : List Int} {u : HO} (h : scrH K a vs ns b = some u) : b = a ∧ K.lookup a = none ∧ u = .frz { cls := .type "list", data := .seq vs.toArray } (.lst (ns.map V.int)) := by
  unfold scrH at h
  cases k : K.lookup a with
  | some o => rw [k] at h; cases h
  | none =>
    rw [k] at h
    by_cases e : b = a
    · subst e
      have h2 : upd (fun _ => none) b _ b = some u := h
      rw [upd_same] at h2
      exact ⟨rfl, rfl, (Option.some.inj h2).symm⟩
    · have h2 : upd (fun _ => none) a _ b = some u := h
      rw [upd_ne e] at h2
      cases h2
theorem law_from {P : Program} {w : World} {K : PySem.W.Frag} {mg mb : Str → Option Value} {k : Nat} {fa a : Addr} {fd : FuncData} {x : Str} {g : Fn} {s : Shared} {vs : List Value} {ns : List Int}
    (KX : K.In s.heap) (n1 : s.heap.Ns mainGlobals mg) (n2 : s.heap.Ns builtinsNs mb) (n3 : ∀ x : Str, x ≠ "__name__" → mb x = bootBuiltins x) (lim : s.heap.NoLimit) (gens : s.gens = #[]) (oa : s.heap.get? a = some { cls := .type "list", data := .seq vs.toArray }) (hin : IntsAre vs ns) (len : ns.length ≤ sizeLine)
    (room : Room k callerA) (F : ∀ base : Heap, K.In base → base.Ns mainGlobals mg → FnG P w K mg base k fa fd [x] (spD 1 K EA0 g)) (bnd : ∀ (s : Shared) (u : Value), BindsTo s fd ⟨[u], []⟩ [(x, u)]) (ans : ∃ w', g [.scr ns] [] = some (.ok (.dat (.bool true)), w')) :
    codeAny (model P w) callerA (.call (.ref fa) ⟨[.ref a], []⟩) (fun r s' => r = .ok (.ret (.bool true)) ∧ OldK s.heap s'.heap ∧ s'.os = s.os ∧ AllBare s'.gens) s := by
  have vi := vals_ints hin
  obtain ⟨H, eH⟩ : ∃ H, H = scrH K a vs ns := ⟨_, rfl⟩
  have at1 : ∀ {b u}, H b = some u → b = a ∧ K.lookup a = none ∧ u = .frz { cls := .type "list", data := .seq vs.toArray } (.lst (ns.map V.int)) := fun {b u} h => scrH_at (by rw [← eH]; exact h)
  have script : SL K [] H a (ns.map V.int) := by
    cases hk : K.lookup a with
    | some o =>
      have e := KX a o hk
      rw [oa] at e
      cases e
      exact .inr (.inr ⟨_, vs.toArray, _, hk, rfl, rfl, rfl, by rw [List.size_toArray, hin.length]; exact len, by simpa using vi⟩)
    | none =>
      refine .inl ⟨.inr ⟨{ cls := .type "list", data := .seq vs.toArray }, ?_⟩, by simp⟩
      rw [eH]
      unfold scrH
      rw [hk]
      exact upd_same
  -- what the base keeps
  have none_of : ∀ {b : Addr} {o : Obj}, s.heap.get? b = some o → (b = a → K.lookup a ≠ none ∨ o.data ≠ .seq vs.toArray) → H b = none := fun {b o} e h => by
    cases q : H b with
    | none => rfl
    | some u =>
      obtain ⟨e1, e2, _⟩ := at1 q
      rcases h e1 with z | z
      · exact absurd e2 z
      · rw [e1, oa] at e
        cases e
        exact absurd rfl z
  have keepNs : ∀ {b : Addr} {m : Str → Option Value}, s.heap.Ns b m → (hidT s.heap H).Ns b m := fun {b m} ⟨o, es, ep, e, d, r⟩ => ⟨o, es, ep, hidT_get e (none_of e fun _ => .inr (by rw [d]; exact fun z => nomatch z)), d, r⟩
  have inB : K.In (hidT s.heap H) := fun b o e => hidT_get (KX b o e) (none_of (KX b o e) fun z => .inl (by rw [← z, e]; exact fun y => nomatch y))
  have hok : HOk P w H s.heap := fun b u h => by
    obtain ⟨rfl, _, rfl⟩ := at1 h
    exact ⟨oa, by rw [List.length_map]; exact len, vs, _, vi, oa⟩
  have e0 : Env0 P w K mg (hidT s.heap H) callerA [] s H := {
    frames := rfl
    mod := ⟨inB, keepNs n1, ⟨mb, keepNs n2, n3⟩, by obtain ⟨mc, q1, q2⟩ := lim; exact ⟨mc, keepNs q1, q2⟩⟩
    bs := fun _ _ e => of_hidT e
    bsz := Nat.le_of_eq (hidT_size _ _)
    funs := trivial
    frf := fun b hb => nomatch hb
    hok := hok
    bare := .of_eq gens }
  have start : spD 1 K EA0 g [V.ref a] H (fun v _ => v = .bl true) (fun _ _ _ => False) := by
    obtain ⟨w', ans⟩ := ans
    have r0 : SRel K [] [] H := ⟨rfl, fun n l o h => by simp at h, List.nodup_nil⟩
    refine ⟨[], [], [.scr ns], r0, .cons ⟨a, rfl, script⟩ .nil, rfl, ?_⟩
    rw [ans]
    intro ι' H' _ V r
    cases r
    rfl
  have run := (F _ inB (keepNs n1)).run callerA [] s H ⟨[.ref a], []⟩ [.ref a] [.ref a] _ _ rfl room e0 (bnd s (.ref a)) (.cons rfl .nil) start
  refine codeAny_mono run fun r s' h => ?_
  match r, h with
  | .error e, h =>
    obtain ⟨_, _, _, _, _, _, _, _, _, _, _, _, z⟩ := h
    exact z.elim
  | .ok (.ret u), h =>
    obtain ⟨v, H', os, bare, un, hok', r', rfl⟩ := h
    obtain rfl : u = Value.bool true := r'
    refine ⟨rfl, OldK.of_keep fun b o e => ?_, os, bare⟩
    cases q : H b with
    | none => exact un.keep b o e q (fun z => nomatch z) (by simp)
    | some u =>
      obtain ⟨rfl, _, rfl⟩ := at1 q
      have y := hok' b _ (un.frzs b _ _ q)
      rw [oa] at e
      cases e
      exact y.1
theorem law_end {l : PySem.W.OpenLaw} {n k : Nat} {q : Program} {loose : List Str} {XP : (Str → Option Value) → Heap → Prop} {YP : World → Heap → Prop} {d : DefRec} {K : Params → PySem.W.Frag} {x : Str} {g : World → Fn}
    (most : l.most = some n) (fits : n ≤ sizeLine) (plain : d.params.defaults = []) (room : Room k callerA) (hY : ∀ (w : World) (h : Heap), YP w h → (K w.params).In h)
    (F : ∀ (w : World) (mg : Str → Option Value) (fa : Addr) (h : Heap), (K w.params).In h → h.Ns mainGlobals mg → mg d.name = some (.ref fa) →
      ∃ fd : FuncData, (∀ (s : Shared) (u : Value), BindsTo s fd ⟨[u], []⟩ [(x, u)]) ∧ ∀ base : Heap, (K w.params).In base → base.Ns mainGlobals mg → FnG l.prog w (K w.params) mg base k fa fd [x] (spD 1 (K w.params) EA0 (g w)))
    (ans : ∀ (w : World) (ns : List Int), ns.length ≤ n → ∃ w', g w [.scr ns] [] = some (.ok (.dat (.bool true)), w')) :
    PySem.W.WalkO q loose XP YP l.row.toRowW d [] (fun f vs => PySem.call f vs) := by
  refine Att.attach_call most plain fun w s0 s mg mb fa o pm cd doc a vs ns G Y ho hd hcd hmg hobj hints hlen hg => ?_
  obtain ⟨fd, b, f⟩ := F w mg fa _ (hY w _ Y) G.T.g hmg
  exact law_from (hY w _ Y) G.T.g G.T.b G.T.builtins G.T.nolimit hg hobj hints (Nat.le_trans hlen fits) room f b (ans w ns hlen)
end EG


set_option Elab.async false
set_option linter.all false
set_option maxRecDepth 100000
set_option maxHeartbeats 4000000
namespace EG
open PySem PySem.Spec PyProof.Rows L2
/-! ### short names -/
section
variable {X : Cx} {EA : EAt} {W : WX} {a b c : Expr} {ma mb mc : Env → Mo SV} {pos : Pos}
theorem de_add (ha : DE X EA W a ma) (hb : DE X EA W b mb) : DE X EA W (.BinOp a .Add b pos) (mBin ma mb gAdd) := de_op op_add os_add ha hb
theorem de_sub (ha : DE X EA W a ma) (hb : DE X EA W b mb) : DE X EA W (.BinOp a .Sub b pos) (mBin ma mb gSub) := de_op op_sub os_sub ha hb
theorem de_mul (ha : DE X EA W a ma) (hb : DE X EA W b mb) : DE X EA W (.BinOp a .Mult b pos) (mBin ma mb gMul) := de_op op_mul os_mul ha hb
theorem de_mod (ha : DE X EA W a ma) (hb : DE X EA W b mb) : DE X EA W (.BinOp a .Mod b pos) (mBin ma mb gMod) := de_op op_mod os_mod ha hb
theorem de_fdv (ha : DE X EA W a ma) (hb : DE X EA W b mb) : DE X EA W (.BinOp a .FloorDiv b pos) (mBin ma mb gFdiv) := de_op op_fdiv os_fdiv ha hb
theorem de_pow (ha : DE X EA W a ma) (hb : DE X EA W b mb) : DE X EA W (.BinOp a .Pow b pos) (mBin ma mb gPow) := de_op op_pow os_pow ha hb
theorem de_rep (ha : DE X EA W a ma) (hb : DE X EA W b mb) : DE X EA W (.BinOp a .Mult b pos) (mBin ma mb gRep) := de_op op_rep os_rep ha hb
theorem de_cat (ha : DE X EA W a ma) (hb : DE X EA W b mb) : DE X EA W (.BinOp a .Add b pos) (mBin ma mb gCat) := de_op (OpR.or op_catA op_cat) os_cat ha hb
theorem de_catO (ha : DE X EA W a ma) (hb : DE X EA W b mb) : DE X EA W (.BinOp a .Add b pos) (mBinS ma mb gCatO) := de_opS op_cat os_catO ha hb
theorem dt_gt (ha : DE X EA W a ma) (hb : DE X EA W b mb) : DT X EA W (.Compare a [.Gt] [b] pos) (mTB (mBin ma mb gGt)) := dt_cmp op_gt os_gt ha hb
theorem dt_ge (ha : DE X EA W a ma) (hb : DE X EA W b mb) : DT X EA W (.Compare a [.GtE] [b] pos) (mTB (mBin ma mb gGe)) := dt_cmp op_ge os_ge ha hb
theorem dt_lt (ha : DE X EA W a ma) (hb : DE X EA W b mb) : DT X EA W (.Compare a [.Lt] [b] pos) (mTB (mBin ma mb gLt)) := dt_cmp op_lt os_lt ha hb
theorem dt_le (ha : DE X EA W a ma) (hb : DE X EA W b mb) : DT X EA W (.Compare a [.LtE] [b] pos) (mTB (mBin ma mb gLe)) := dt_cmp op_le os_le ha hb
theorem de_eq (hu : X.A.units + 64 < cLine) (ha : DE X EA W a ma) (hb : DE X EA W b mb) : DE X EA W (.Compare a [.Eq] [b] pos) (mBin ma mb gEq) := de_cmp (OpR.or (op_eqD hu) op_eq) os_eq ha hb
theorem dt_eq (hu : X.A.units + 64 < cLine) (ha : DE X EA W a ma) (hb : DE X EA W b mb) : DT X EA W (.Compare a [.Eq] [b] pos) (mTB (mBin ma mb gEq)) := dt_cmp (OpR.or (op_eqD hu) op_eq) os_eq ha hb
theorem dt_ne (hu : X.A.units + 64 < cLine) (ha : DE X EA W a ma) (hb : DE X EA W b mb) : DT X EA W (.Compare a [.NotEq] [b] pos) (mTB (mBin ma mb gNe)) := dt_cmp (OpR.or (op_neD hu) op_ne) os_ne ha hb
end
/-- a def of the module, by its name -/
structure OwnF (P : Program) (w : World) (K : PySem.W.Frag) (mg : Str → Option Value) (base : Heap) (EA : EAt) (k : Nat) (x : Str) (n : Nat) (g : Fn) : Prop where
  ex : ∃ f fd ps, FnG P w K mg base k f fd ps (spD n K EA g) ∧ mg x = some (.ref f) ∧ PySem.W.keepIn K (.ref f) = true ∧ Binds K fd ps []
section
variable {X : Cx} {EA : EAt} {W : WX} {k n : Nat} {g : Fn} {x : Str} {p pos : Pos} {e : Expr} {es : List Expr} {ml : Env → Mo (List SV)}
theorem de_own (F : OwnF X.prog X.w X.K X.mg X.base EA k x n g) (hg : X.A.guards = some []) (hr : Room k X.A) (tk : Takes X W) (ha : DA X EA W (e :: es) ml) (hn : LenM n ml)
    (hgl : Gl X x := by rfl) (hdb : (x == ("__debug__" : Str)) = false := by decide) (he : starEach (e :: es) X.env = (false, eval e X.env) :: starEach es X.env := by rfl) (hpl : (backTo pos (starEach es X.env)).any (·.1) = false := by rfl) :
    DE X EA W (.Call (.Name x p) (e :: es) [] pos) (mCall g ml) := by
  obtain ⟨f, fd, ps, F1, hm, hk, hb⟩ := F.ex
  exact de_call F1 hg hr hm hk hb tk ha hn hgl hdb he hpl
end
theorem OwnF.mono {P : Program} {w : World} {K : PySem.W.Frag} {mg : Str → Option Value} {base : Heap} {EA : EAt} {j k : Nat} {x : Str} {n : Nat} {g : Fn} (F : OwnF P w K mg base EA j x n g) (h : j ≤ k) : OwnF P w K mg base EA k x n g := by
  obtain ⟨f, fd, ps, F1, r⟩ := F.ex
  exact ⟨f, fd, ps, F1.mono h, r⟩
/-- an own exception class, by its name -/
structure OwnE (P : Program) (w : World) (K : PySem.W.Frag) (mg : Str → Option Value) (base : Heap) (B newId initId : String) (bmB : List Value) (k : Nat) (x : Str) (C : Addr) (flds : List Str) : Prop where
  T : EC K C B newId initId bmB
  xk : ExK K C
  mgx : mg x = some (.ref C)
  no : ∀ f ∈ flds, PySem.W.findIn K (.ref C) f = some none
  ex : ∃ fI fd ps, PySem.W.findIn K (.ref C) "__init__" = some (some (.ref fI)) ∧ PySem.W.typeIn K (.ref fI) = some (.type "function") ∧ FnG P w K mg base k fI fd ps (spIni C flds) ∧ Binds K fd ps [] ∧
    ∀ (r : Bool) (ks : List Str), turn r ks = flds → ∀ (s : Shared) (u : Value) (ws : List Value), ws.length = ks.length → BindsTo s fd ⟨[u], ks.zip ws⟩ (ps.zip (u :: turn r ws))
section
variable {X : Cx} {EA : EAt} {W : WX} {k : Nat} {x : Str} {p pos : Pos} {e : Expr} {es : List Expr} {ml : Env → Mo (List SV)} {B newId initId : String} {bmB : List Value} {C : Addr} {flds ks : List Str} {kws : List Keyword}
theorem de_exc (O : OwnE X.prog X.w X.K X.mg X.base B newId initId bmB k x C flds) (hg : X.A.guards = some []) (hr : Room (k + 1) X.A) (ha : DA X EA W (e :: es) ml) (hz : flds.length ≤ 1000 := by decide) (hgl : Gl X x := by rfl) (hdb : (x == ("__debug__" : Str)) = false := by decide)
    (he : starEach (e :: es) X.env = (false, eval e X.env) :: starEach es X.env := by rfl) (hpl : (backTo pos (starEach es X.env)).any (·.1) = false := by rfl) : DE X EA W (.Call (.Name x p) (e :: es) [] pos) (mMkE C flds ml) := by
  obtain ⟨fI, fd, ps, iC, tI, F1, hb, _⟩ := O.ex
  exact de_mkE O.T iC tI F1 hg hr hb O.mgx ha hz hgl hdb he hpl
theorem de_excK (r : Bool) (O : OwnE X.prog X.w X.K X.mg X.base B newId initId bmB k x C flds) (hg : X.A.guards = some []) (hr : Room (k + 1) X.A) (ha : DK X EA W kws ml) (ht : turn r ks = flds := by rfl) (hz : flds.length ≤ 1000 := by decide) (hgl : Gl X x := by rfl) (hdb : (x == ("__debug__" : Str)) = false := by decide)
    (hall : (backToKw pos (keywordEach kws X.env)).all (·.1.isSome) = true := by rfl) (hks : (backToKw pos (keywordEach kws X.env)).filterMap (·.1) = ks := by rfl)
    (hpl : ((backTo pos (starEach [] X.env)).any (·.1) || (backToKw pos (keywordEach kws X.env)).any (·.1.isNone)) = false := by rfl) :
    DE X EA W (.Call (.Name x p) [] kws pos) (mMkE C flds (mTurn r ml)) := by
  obtain ⟨fI, fd, ps, iC, tI, F1, hb, hk⟩ := O.ex
  exact de_mkK O.T iC tI F1 hg hr (fun s u ws _ hl => hk r ks ht s u ws hl) O.mgx ha hz (by rw [← ht, turn_len]) hgl hdb hall hks hpl
end
end EG


set_option Elab.async false
set_option linter.all false
set_option maxRecDepth 100000
set_option maxHeartbeats 400000
namespace EG
open PySem PySem.Spec PyProof.Rows L2
section
variable {X : Cx} {EA : EAt} {W : WX} {a b c : Expr} {ma mb mc : Env → Mo SV} {pos : Pos}
/-! ### -x, in -/
def gNeg : Op1 := fun x _ => match x with
  | .dat (.int i) => some (.dat (.int (-i)))
  | _ => none
theorem de_neg (ha : DE X EA W a ma) : DE X EA W (.UnaryOp .USub a pos) (mUn ma gNeg) := by
  obtain ⟨t, q, s⟩ := ha.ex
  refine ⟨_, pe_un un_neg q, fun ι w σ H ρ Q R E h => ?_⟩
  refine s ι w σ H ρ _ R E ((Hyp.bind h).imp fun y ι1 w1 H1 s1 h1 V rv => ?_)
  cases y with
  | dat d =>
    cases d with
    | int i =>
      cases rv
      exact ⟨i, rfl, Hyp.here h1 s1.rel _ (Dt.int _)⟩
    | _ => exact h1.elim
  | _ => exact h1.elim
theorem de_in (ha : DE X EA W a ma) (hb : DE X EA W b mb) (hm : behindInMarks .In b = false := by rfl) : DE X EA W (.Compare a [.In] [b] pos) (mBin ma mb (gIn false)) := de_cmp op_in_seq os_in ha hb hm
theorem dt_in (ha : DE X EA W a ma) (hb : DE X EA W b mb) (hm : behindInMarks .In b = false := by rfl) : DT X EA W (.Compare a [.In] [b] pos) (mTB (mBin ma mb (gIn false))) := dt_cmp op_in_seq os_in ha hb hm
theorem de_notin (ha : DE X EA W a ma) (hb : DE X EA W b mb) (hm : behindInMarks .NotIn b = false := by rfl) : DE X EA W (.Compare a [.NotIn] [b] pos) (mBin ma mb (gIn true)) := de_cmp op_notIn_seq os_in ha hb hm
theorem dt_notin (ha : DE X EA W a ma) (hb : DE X EA W b mb) (hm : behindInMarks .NotIn b = false := by rfl) : DT X EA W (.Compare a [.NotIn] [b] pos) (mTB (mBin ma mb (gIn true))) := dt_cmp op_notIn_seq os_in ha hb hm
/-! ### xs[::-1], xs.pop() -/
def gRevL : Op1 := fun x w => match toD w x with
  | some (.list ds) => some (.dat (.list ds.reverse))
  | _ => none
theorem de_revL {k : Nat} {p1 p2 p3 : Pos} (ha : DE X EA W a ma) : DE X EA W (.Subscript a (.Slice none none (some (.UnaryOp .USub (.Constant (.int 1) k p1) p2)) p3) pos) (mUn ma gRevL) := by
  obtain ⟨t, q, s⟩ := ha.ex
  refine ⟨_, pe_revL q, fun ι w σ H ρ Q R E h => ?_⟩
  refine s ι w σ H ρ _ R E ((Hyp.bind h).imp fun y ι1 w1 H1 s1 h1 V rv => ?_)
  unfold gRevL at h1
  cases e : toD w1 y with
  | none => simp only [e] at h1; exact h1.elim
  | some d =>
    cases d with
    | list ds =>
      simp only [e] at h1
      obtain ⟨p, vs, rfl, h2, h3⟩ := rv.p s1.rel e
      refine ⟨p, vs, rfl, h2, fun z hz => ?_⟩
      have s3 := Stp.new (o := .lst vs.reverse) s1.rel hz
      exact h1 _ _ s3 _ (Dt.lst upd_same (fun m => s1.rel.ne m hz rfl) ((h3.go s3.go).rev))
    | _ => simp only [e] at h1; exact h1.elim
def mPop (mo : Env → Mo SV) : Env → Mo SV := fun ρ => mBind (mo ρ) fun x w => match x with
  | .obj n => match w[n]? with
    | some (.lst ds) => match ds[ds.length - 1]? with
      | some d => some (.ok (.dat d), w.set n (.lst ds.dropLast))
      | none => none
    | _ => none
  | _ => none
theorem de_pop {apos cpos : Pos} (ho : DE X EA W a ma) (hbase : attributeBase a "pop" X.env (eval a X.env) = eval a X.env := by rfl) (hline : (apos.endLine == cpos.line) = true := by rfl) : DE X EA W (.Call (.Attribute a "pop" apos) [] [] cpos) (mPop ma) := by
  obtain ⟨t, q, s⟩ := ho.ex
  refine ⟨_, pe_bm0 PySem.F.plainAttrs_list PySem.F.slot_list_pop PySem.F.type_list_pop mt_pop q hbase hline, fun ι w σ H ρ Q R E h => ?_⟩
  refine s ι w σ H ρ _ R E ((Hyp.bind h).imp fun y ι1 w1 H1 s1 h1 V rv => ?_)
  cases y with
  | obj n =>
    obtain ⟨p, l, hn, rfl⟩ := rv
    simp only at h1
    cases hw : w1[n]? with
    | none => simp only [hw] at h1; exact h1.elim
    | some o =>
      cases o with
      | lst ds =>
        simp only [hw] at h1
        cases hd : ds[ds.length - 1]? with
        | none => simp only [hd] at h1; exact h1.elim
        | some d =>
          simp only [hd] at h1
          obtain ⟨rfl, vs, g1, q1⟩ := lst_at s1.rel hn hw
          obtain ⟨v, hv, rv⟩ := q1.getD hd
          have s3 := Stp.wLst s1.rel hn hw (us := vs.dropLast) (es := ds.dropLast) fun M H' g => (q1.go g).pop
          exact ⟨.inl ⟨rfl, _, SqL.of g1⟩, p, vs, v, rfl, rfl, g1, by rw [q1.length]; exact hv, h1 _ _ s3 _ (rv.go s3.go)⟩
      | _ => simp only [hw] at h1; exact h1.elim
  | _ => exact h1.elim
end
end EG


set_option Elab.async false
set_option linter.all false
set_option maxRecDepth 100000
set_option maxHeartbeats 400000
namespace EG
open PySem PySem.Spec PyProof.Rows L2
/-! ### raise C(e, ..) -/
def tMkR (C : Addr) (sp : Sp) (ta : TA) : L2.St → Hp → XK → Prop := fun σ H Q => ta σ H fun vs H1 => vs.length ≤ 1000 ∧ ∀ a, H1 a = none → sp (.ref a :: vs) (upd H1 a (exo a C none))
  (fun v H2 => v = .non ∧ ∃ (d : Addr) (fs : List (Str × V)), H2 a = some (exo a C (some d)) ∧ H2 d = some (exd d fs) ∧ H1 d = none ∧ Q (.ref C) (some d) (upd (del H2 a) d (.xd fs))) (fun _ _ _ => False)
section
variable {X : Cx} {e : Expr} {es : List Expr} {ta : TA} {x : Str} {p pos : Pos} {B newId initId : String} {bmB : List Value} {C fI : Addr} {k : Nat} {fd : FuncData} {ps : List Str} {sp : Sp}
theorem pmk_G (T : EC X.K C B newId initId bmB) (iC : PySem.W.findIn X.K (.ref C) "__init__" = some (some (.ref fI))) (tI : PySem.W.typeIn X.K (.ref fI) = some (.type "function")) (exC : PySem.W.subIn X.K (.ref C) (.type "BaseException") = some true) (tyC : PySem.W.typeIn X.K (.ref C) = some (.type "type"))
    (F1 : FnG X.prog X.w X.K X.mg X.base k fI fd ps sp) (hg : X.A.guards = some []) (hr : Room (k + 1) X.A) (hb : Binds X.K fd ps []) (hm : X.mg x = some (.ref C)) (ha : PA X (e :: es) ta) (hgl : Gl X x := by rfl) (hdb : (x == ("__debug__" : Str)) = false := by decide)
    (he : starEach (e :: es) X.env = (false, eval e X.env) :: starEach es X.env := by rfl) (hpl : (backTo pos (starEach es X.env)).any (·.1) = false := by rfl) :
    PMk X (.Call (.Name x p) (e :: es) [] pos) (tMkR C sp ta) := by
  intro pins s σ H Q I h
  refine wpAny_Call_Name_kw (ld_glob I hgl hm ?_ hdb)
  refine PySem.W.callWith_K (h₀ := X.base) I.ok.mod.kin T.kC (thn (ha.run pos pins s σ H _ I h) fun us s1 ⟨vs, H1, I1, r1, hz, q1⟩ => ⟨I1.kIn, ?_⟩) he hpl
  show wpAny _ _ (call (.ref C) us) _ _ _
  obtain ⟨nm, N', qn, bs, bm, hdct, sn, sub, ab, col, dd, k0, k1, k2, k3, k5, hC, hT⟩ := PySem.W.excInit_of I1.kIn T.q
  obtain ⟨hp, g, dr, tk, os⟩ := s1
  have hsz : hp.objs.size ≤ hp.objs.size + 1 := Nat.le_succ _
  have hn : H1 (hp.objs.size + 1) = none := I1.hok.fresh hsz
  have hq := q1 _ hn
  have kk : ∀ b o, hp.get? b = some o → ((hp.push (PySem.W.kdv_tup us)).push (PySem.HandSPX.excO C hp.objs.size)).get? b = some o := fun b o e => Heap.get?_push_of_some _ (Heap.get?_push_of_some _ e)
  have hget : ((hp.push (PySem.W.kdv_tup us)).push (PySem.HandSPX.excO C hp.objs.size)).get? (hp.objs.size + 1) = some (PySem.HandSPX.excO C hp.objs.size) := by heap_get
  have I2 : Inv X pins σ (upd H1 (hp.objs.size + 1) (exo (hp.objs.size + 1) C none)) ⟨(hp.push (PySem.W.kdv_tup us)).push (PySem.HandSPX.excO C hp.objs.size), g, dr, tk, os⟩ :=
    I1.laid (t' := tk) (a := hp.objs.size + 1) (o := exo (hp.objs.size + 1) C none) kk hsz (exo_ok hget)
  have r2 : Vals (V.ref (hp.objs.size + 1) :: vs) (Value.ref (hp.objs.size + 1) :: us) := .cons rfl r1
  have hl : (Value.ref (hp.objs.size + 1) :: us ++ []).length = ps.length := by
    have e := r2.length
    rw [F1.len _ _ _ _ hq] at e
    rw [List.append_nil]
    exact e.symm
  have hus : us.length ≤ sizeLine := by
    rw [← Paired.length r1, sizeLine_eq]
    omega
  have b := hb _ (Value.ref (hp.objs.size + 1) :: us) I2.kIn hl
  rw [List.append_nil] at b
  refine wpAny_call (PySem.HandSPX.call_own T.F hT hC (PySem.W.looks_findIn I1.kIn iC) (fun self => PySem.W.bind_fn I1.kIn self tI) hus
    (codeAny_mono (F1.run _ X.stack _ _ ⟨Value.ref (hp.objs.size + 1) :: us, []⟩ (Value.ref (hp.objs.size + 1) :: us) _ _ (fun _ _ _ => False) hg (hr.make C us []) (I2.env0.make C us []) b r2 hq) fun r s' hq' => ?_))
  match r, hq' with
  | .error er, hq' =>
    obtain ⟨_, _, _, _, _, _, _, _, _, _, _, _, z⟩ := hq'
    exact z.elim
  | .ok (.ret u), hq' =>
    obtain ⟨v, H2, os2, bare2, un2, hok2, rv, ev, d, fs, ea, ed, hd1, q2⟩ := hq'
    subst ev
    obtain ⟨h2, g2, d2, t2, os'⟩ := s'
    exact ⟨rv, mk_end (raises_own exC tyC) I1 hsz kk un2 hok2 os2 bare2 ea ed hd1 q2⟩
end
def pairD (p : Str × PyData) : PyData := .tuple [.str p.1, p.2]
/-- an own exception that flies: its class, its fields -/
def EAx (K : PySem.W.Frag) : EAt := fun M H c ds cls d => ∃ (dd : Addr) (gs : List (Str × V)) (fs : List (Str × PyData)), cls = .ref c ∧ d = some dd ∧ H dd = some (.xd gs) ∧ dd ∉ M ∧ ds = fs.map pairD ∧ gs.map (·.1) = fs.map (·.1) ∧ DtA K M H (gs.map (·.2)) (fs.map (·.2))
theorem EAx_go {K : PySem.W.Frag} : EGo (EAx K) := fun M H M' H' c ds cls d g ⟨dd, gs, fs, e1, e2, e3, n, e4, e5, e6⟩ => ⟨dd, gs, fs, e1, e2, (g _ _ n e3).1, (g _ _ n e3).2, e4, e5, e6.go g⟩
def mRaise (C : Addr) (flds : List Str) (m : Env → Mo (List SV)) : Env → Mo Out := fun ρ => mBind (m ρ) fun xs w => match fzs xs w with
  | some (ds, w') => if ds.length = flds.length then some (.err C ((flds.zip ds).reverse.map pairD), w') else none
  | none => none
section
variable {X : Cx} {W : WX} {e : Expr} {es : List Expr} {ml : Env → Mo (List SV)} {x : Str} {p pos pos2 : Pos} {B newId initId : String} {bmB : List Value} {C fI : Addr} {k : Nat} {fd : FuncData} {ps flds : List Str}
theorem ds_raise (hc : X.calm = true) (tk : Takes X W) (T : EC X.K C B newId initId bmB) (iC : PySem.W.findIn X.K (.ref C) "__init__" = some (some (.ref fI))) (tI : PySem.W.typeIn X.K (.ref fI) = some (.type "function")) (exC : PySem.W.subIn X.K (.ref C) (.type "BaseException") = some true) (tyC : PySem.W.typeIn X.K (.ref C) = some (.type "type"))
    (F1 : FnG X.prog X.w X.K X.mg X.base k fI fd ps (spIni C flds)) (hg : X.A.guards = some []) (hr : Room (k + 1) X.A) (hb : Binds X.K fd ps []) (hm : X.mg x = some (.ref C)) (ha : DA X (EAx X.K) W (e :: es) ml) (hz : flds.length ≤ 1000 := by decide) (hgl : Gl X x := by rfl) (hdb : (x == ("__debug__" : Str)) = false := by decide)
    (he : starEach (e :: es) X.env = (false, eval e X.env) :: starEach es X.env := by rfl) (hpl : (backTo pos (starEach es X.env)).any (·.1) = false := by rfl) :
    DS X (EAx X.K) W (.Raise (some (.Call (.Name x p) (e :: es) [] pos)) none pos2) (mRaise C flds ml) := by
  obtain ⟨t, q, s⟩ := ha.ex
  refine ⟨_, ps_raise hc tk (pmk_G T iC tI exC tyC F1 hg hr hb hm q hgl hdb he hpl), fun ι w σ H ρ D R E h => ?_⟩
  refine s ι w σ H ρ _ R E ((Hyp.bind (h.wE σ)).imp fun xs ι1 w1 H1 s1 h1 Vs rs => ?_)
  cases f : fzs xs w1 with
  | none => simp only [f] at h1; exact h1.elim
  | some r =>
    obtain ⟨ds, w2⟩ := r
    simp only [f] at h1
    obtain ⟨s2, q2⟩ := fzs_ok s1.rel rs f
    by_cases c : ds.length = flds.length
    · rw [if_pos c] at h1
      have hl : Vs.length = flds.length := by rw [q2.length]; exact c
      refine ⟨by rw [hl]; exact hz, fun a ha => ⟨a, Vs, rfl, hl, upd_same, fun dx H' hd hda e1 e2 e3 => ⟨rfl, dx, _, e1, e2, ?_, ?_⟩⟩⟩
      · rw [upd_ne hda] at hd
        exact hd
      · have hd' : H1 dx = none := by
          rw [upd_ne hda] at hd
          exact hd
        have s3 : Stp X.K ι1 w2 H1 ι1 w2 (upd (del H' a) dx (.xd (flds.zip Vs).reverse)) := Stp.more s2.rel fun b o hb => by
          have na := ne_of_none hb ha
          have nd := ne_of_none hb hd'
          rw [upd_ne nd, del_ne na, e3 b na nd, upd_ne na]
          exact hb
        refine h1 _ _ _ _ (s2.trans s3) ⟨dx, _, (flds.zip ds).reverse, rfl, rfl, upd_same, fun z => s2.rel.ne z hd' rfl, rfl, ?_, ?_⟩
        · rw [List.map_reverse, List.map_reverse, zip1 hl.symm, zip1 c.symm]
        · rw [List.map_reverse, List.map_reverse, zip2 hl.symm, zip2 c.symm]
          exact (q2.go s3.go).rev
    · rw [if_neg c] at h1; exact h1.elim
end
end EG


set_option Elab.async false
set_option linter.all false
set_option maxRecDepth 100000
set_option maxHeartbeats 1000000
namespace EG
open PySem PySem.Spec PyProof.Rows L2 RZ
/-! ### comparisons as values -/
section
variable {X : Cx} {EA : EAt} {W : WX} {a b c : Expr} {ma mb mc : Env → Mo SV} {pos p : Pos}
theorem de_gt (ha : DE X EA W a ma) (hb : DE X EA W b mb) : DE X EA W (.Compare a [.Gt] [b] pos) (mBin ma mb gGt) := de_cmp op_gt os_gt ha hb
theorem de_ge (ha : DE X EA W a ma) (hb : DE X EA W b mb) : DE X EA W (.Compare a [.GtE] [b] pos) (mBin ma mb gGe) := de_cmp op_ge os_ge ha hb
theorem de_lt (ha : DE X EA W a ma) (hb : DE X EA W b mb) : DE X EA W (.Compare a [.Lt] [b] pos) (mBin ma mb gLt) := de_cmp op_lt os_lt ha hb
theorem de_le (ha : DE X EA W a ma) (hb : DE X EA W b mb) : DE X EA W (.Compare a [.LtE] [b] pos) (mBin ma mb gLe) := de_cmp op_le os_le ha hb
theorem de_ne (hu : X.A.units + 64 < cLine) (ha : DE X EA W a ma) (hb : DE X EA W b mb) : DE X EA W (.Compare a [.NotEq] [b] pos) (mBin ma mb gNe) := de_cmp (OpR.or (op_neD hu) op_ne) os_ne ha hb
theorem de_lele (ha : DE X EA W a ma) (hb : DE X EA W b mb) (hc : DE X EA W c mc) (hm : lastMarks [.LtE, .LtE] [b, c] = false := by with_unfolding_all rfl) : DE X EA W (.Compare a [.LtE, .LtE] [b, c] pos) (mChain ma mb mc gLe gLe) := de_chain op_le os_le op_le os_le ha hb hc hm
theorem dt_lele (ha : DE X EA W a ma) (hb : DE X EA W b mb) (hc : DE X EA W c mc) (hm : lastMarks [.LtE, .LtE] [b, c] = false := by with_unfolding_all rfl) : DT X EA W (.Compare a [.LtE, .LtE] [b, c] pos) (mTB (mChain ma mb mc gLe gLe)) := dt_chain op_le os_le op_le os_le ha hb hc hm
/-! ### x += e -/
def mAugI (i : Nat) (f : Int → Int → Int) (m : Env → Mo SV) : Env → Mo Out := fun ρ => match ρ[i]? with
  | some (some (.dat (.int k))) => mBind (m ρ) fun y => match y with
    | .dat (.int l) => mPure (.nx (ρ.set i (some (.dat (.int (f k l))))))
    | _ => mFail
  | _ => mFail
theorem ds_augI {i : Nat} {x : Str} {e : Expr} {m : Env → Mo SV} {pos' : Pos} {op : Operator} {f : Int → Int → Int} (ho : PIp X op (ipI f)) (hN : X.N.Nodup) (he : DE X EA W e m) (hi : X.N[i]? = some x := by rfl) (hx : Loc X.env.scope x := by first | exact Or.inl rfl | exact Or.inr rfl)
    (hf : X.fn x = true ∨ X.env.scope.names.lookup x = some .local := by first | exact .inl rfl | exact .inr rfl | assumption) : DS X EA W (.AugAssign (.Name x pos') op e pos) (mAugI i f m) := by
  obtain ⟨t, q, s⟩ := he.ex
  refine ⟨_, ps_aug hN hi hx q ho hf, fun ι w σ H ρ D R E h => ?_⟩
  unfold mAugI at h
  cases h0 : ρ[i]? with
  | none => simp only [h0] at h; exact h.elim
  | some o =>
    cases o with
    | none => simp only [h0] at h; exact h.elim
    | some v =>
      cases v with
      | dat d =>
        cases d with
        | int k =>
          simp only [h0] at h
          obtain ⟨V, e1, e2⟩ := E.2 i _ h0
          cases e2
          refine ⟨_, e1, s ι w σ H ρ _ R E ((Hyp.bind (h.wE σ)).imp fun y ι1 w1 H1 s1 h1 V1 r1 => ?_)⟩
          cases y with
          | dat d =>
            cases d with
            | int l =>
              cases r1
              exact ⟨k, l, rfl, rfl, Hyp.pure h1 s1.rel _ ((E.stp s1).set (v := .dat (.int (f k l))) (Dt.int _))⟩
            | _ => exact h1.elim
          | _ => exact h1.elim
        | _ => simp only [h0] at h; exact h.elim
      | _ => simp only [h0] at h; exact h.elim
theorem ds_augAdd {i : Nat} {x : Str} {e : Expr} {m : Env → Mo SV} {pos' : Pos} (hN : X.N.Nodup) (he : DE X EA W e m) (hi : X.N[i]? = some x := by rfl) (hx : Loc X.env.scope x := by first | exact Or.inl rfl | exact Or.inr rfl)
    (hf : X.fn x = true ∨ X.env.scope.names.lookup x = some .local := by first | exact .inl rfl | exact .inr rfl | assumption) : DS X EA W (.AugAssign (.Name x pos') .Add e pos) (mAugI i (· + ·) m) := ds_augI ip_add hN he hi hx hf
/-- xs += ys, xs one's own list -/
def extO (i n : Nat) (y : SV) (ρ : Env) : Mo Out := fun w => match toL w y, w[n]? with
  | some es, some (.lst ds) => if ds.length + es.length ≤ sizeLine then some (.ok (.nx ρ), w.set n (.lst (ds ++ es))) else none
  | _, _ => none
def mExt (i : Nat) (m : Env → Mo SV) : Env → Mo Out := fun ρ => match ρ[i]? with
  | some (some (.obj n)) => mBind (m ρ) fun y => extO i n y ρ
  | _ => mFail
theorem EnvR.same {K : PySem.W.Frag} {ι : List (List Addr)} {M : List Addr} {H : Hp} {σ : L2.St} {ρ : Env} {i : Nat} {V : L2.V} {v : SV} (e : EnvR K ι M H σ ρ) (h0 : ρ[i]? = some (some v)) (h : VRel K ι M H V v) : EnvR K ι M H (σ.set i (some V)) ρ := by
  have := e.set (i := i) h
  have hs : ρ.set i (some v) = ρ := by
    apply List.ext_getElem?
    intro j
    by_cases hij : i = j
    · subst hij
      have hl : i < ρ.length := (List.getElem?_eq_some_iff.mp h0).1
      rw [List.getElem?_set_self hl, h0]
    · rw [List.getElem?_set_ne hij]
  rw [hs] at this
  exact this
theorem ds_ext {i : Nat} {x : Str} {e : Expr} {m : Env → Mo SV} {pos' : Pos} (hN : X.N.Nodup) (he : DE X EA W e m) (hi : X.N[i]? = some x := by rfl) (hx : Loc X.env.scope x := by first | exact Or.inl rfl | exact Or.inr rfl)
    (hf : X.fn x = true ∨ X.env.scope.names.lookup x = some .local := by first | exact .inl rfl | exact .inr rfl | assumption) : DS X EA W (.AugAssign (.Name x pos') .Add e pos) (mExt i m) := by
  obtain ⟨t, q, s⟩ := he.ex
  refine ⟨_, ps_aug (ti := rExt2) hN hi hx q (fun pins s σ H x y v u Q => iop_ext pins s σ H x y v u Q) hf, fun ι w σ H ρ D R E h => ?_⟩
  unfold mExt at h
  cases h0 : ρ[i]? with
  | none => simp only [h0] at h; exact h.elim
  | some o =>
    cases o with
    | none => simp only [h0] at h; exact h.elim
    | some v =>
      cases v with
      | obj n =>
        simp only [h0] at h
        obtain ⟨V, e1, e2⟩ := E.2 i _ h0
        have e2' := e2
        obtain ⟨a, l, hn, rfl⟩ := e2
        refine ⟨_, e1, s ι w σ H ρ _ R E ((Hyp.bind (h.wE σ)).imp fun y ι1 w1 H1 s1 h1 V1 r1 => ?_)⟩
        unfold extO at h1
        cases g1 : toL w1 y with
        | none => simp only [g1] at h1; exact h1.elim
        | some es =>
          cases g2 : w1[n]? with
          | none => simp only [g1, g2] at h1; exact h1.elim
          | some o =>
            cases o with
            | lst ds =>
              simp only [g1, g2] at h1
              by_cases c : ds.length + es.length ≤ sizeLine
              · rw [if_pos c] at h1
                have r2 := e2'.stp s1
                obtain ⟨a2, l2, hn2, ea2⟩ := r2
                cases ea2
                obtain ⟨rfl, vs, k1, k2⟩ := lst_at s1.rel hn2 g2
                obtain ⟨b, us, rfl, k3, k4⟩ := r1.l s1.rel g1
                refine ⟨a, b, vs, us, rfl, rfl, k1, k3, by rw [k2.length, k4.length]; exact c, ?_⟩
                have s2 := Stp.wLst s1.rel hn2 g2 (us := vs ++ us) (es := ds ++ es) fun M H' g => (k2.go g).app (k4.go g)
                have E2 := (E.stp s1).stp s2
                exact (show OutP X D (.nx ρ) _ _ _ from h1 _ _ s2) _ (E2.same h0 ((e2'.stp s1).stp s2))
              · rw [if_neg c] at h1; exact h1.elim
            | _ => simp only [g1, g2] at h1; exact h1.elim
      | _ => simp only [h0] at h; exact h.elim
/-! ### zip of two lists, two tuples -/
def zipI : List PyData → List PyData → List PyData
  | d :: r, e :: s => .tuple [d, e] :: zipI r s
  | _, _ => []
theorem zipI_get : ∀ {ds es : List PyData} {i : Nat} {d : PyData}, (zipI ds es)[i]? = some d → ∃ x y, ds[i]? = some x ∧ es[i]? = some y ∧ d = .tuple [x, y]
  | [], _, _, _, h => by simp [zipI] at h
  | _ :: _, [], _, _, h => by simp [zipI] at h
  | d :: r, e :: s, 0, _, h => by
    cases (Option.some.inj h)
    exact ⟨d, e, rfl, rfl, rfl⟩
  | d :: r, e :: s, i + 1, _, h => by
    obtain ⟨x, y, h1, h2, h3⟩ := zipI_get (ds := r) (es := s) (i := i) (by simpa [zipI] using h)
    exact ⟨x, y, by simpa using h1, by simpa using h2, h3⟩
theorem zipI_len : ∀ {ds es : List PyData}, ds.length ≤ (zipI ds es).length ∨ es.length ≤ (zipI ds es).length
  | [], _ => .inl (by simp)
  | _ :: _, [] => .inr (by simp)
  | d :: r, e :: s => by
    rcases zipI_len (ds := r) (es := s) with h | h
    · exact .inl (by simpa [zipI] using h)
    · exact .inr (by simpa [zipI] using h)
section
variable {K : PySem.W.Frag} {M : List Addr} {H : Hp}
theorem walk_zl {a b : Addr} {vs us : List V} {ds es : List PyData} (h : ∀ M' H', Go M H M' H' → SqL K H' a vs) (h' : ∀ M' H', Go M H M' H' → SqL K H' b us) (q : DtA K M H vs ds) (q' : DtA K M H us es) : Walks K (Itz K a b) (zipI ds es) M H where
  go := fun M' H' g i d e => by
    obtain ⟨x, y, e1, e2, rfl⟩ := zipI_get e
    obtain ⟨v, h1, _⟩ := q.getD e1
    obtain ⟨u, h2, _⟩ := q'.getD e2
    exact ⟨vs, us, v, u, h M' H' g, h' M' H' g, h1, h2⟩
  yld := fun M' H' g th i d e x H'' y => by
    obtain ⟨T, x0, y0, rfl, hT, rfl, y1, y2⟩ := y
    obtain ⟨d1, d2, e1, e2, rfl⟩ := zipI_get e
    obtain ⟨v, h1, k1⟩ := q.getD e1
    obtain ⟨u, h2, k2⟩ := q'.getD e2
    have z1 := y1 vs (h M' _ g)
    have z2 := y2 us (h' M' _ g)
    rw [h1] at z1
    rw [h2] at z2
    cases z1
    cases z2
    refine ⟨.inr ⟨T, _, hT, rfl⟩, ?_⟩
    refine Dt.tup (.inl ⟨.inl upd_same, fun z => ?_⟩) (.cons ((k1.go g).go (Go.new hT)) (.cons ((k2.go g).go (Go.new hT)) .nil))
    obtain ⟨u, hu⟩ := th T z
    rw [hT] at hu
    cases hu
  stop := fun M' H' g => ⟨vs, us, h M' H' g, h' M' H' g, by rw [q.length, q'.length]; exact zipI_len⟩
theorem walk_zt {a b : Addr} {vs us : List V} {ds es : List PyData} (h : ∀ M' H', Go M H M' H' → SqT K H' a vs) (h' : ∀ M' H', Go M H M' H' → SqT K H' b us) (q : DtA K M H vs ds) (q' : DtA K M H us es) : Walks K (ItzT K a b) (zipI ds es) M H where
  go := fun M' H' g i d e => by
    obtain ⟨x, y, e1, e2, rfl⟩ := zipI_get e
    obtain ⟨v, h1, _⟩ := q.getD e1
    obtain ⟨u, h2, _⟩ := q'.getD e2
    exact ⟨vs, us, v, u, h M' H' g, h' M' H' g, h1, h2⟩
  yld := fun M' H' g th i d e x H'' y => by
    obtain ⟨T, x0, y0, rfl, hT, rfl, y1, y2⟩ := y
    obtain ⟨d1, d2, e1, e2, rfl⟩ := zipI_get e
    obtain ⟨v, h1, k1⟩ := q.getD e1
    obtain ⟨u, h2, k2⟩ := q'.getD e2
    have z1 := y1 vs (h M' _ g)
    have z2 := y2 us (h' M' _ g)
    rw [h1] at z1
    rw [h2] at z2
    cases z1
    cases z2
    refine ⟨.inr ⟨T, _, hT, rfl⟩, ?_⟩
    refine Dt.tup (.inl ⟨.inl upd_same, fun z => ?_⟩) (.cons ((k1.go g).go (Go.new hT)) (.cons ((k2.go g).go (Go.new hT)) .nil))
    obtain ⟨u, hu⟩ := th T z
    rw [hT] at hu
    cases hu
  stop := fun M' H' g => ⟨vs, us, h M' H' g, h' M' H' g, by rw [q.length, q'.length]; exact zipI_len⟩
end
def mZip (m : Env → Mo (List SV)) : Env → Mo (List PyData) := fun ρ => mBind (m ρ) fun xs w => match xs with
  | [.dat (.list ds), .dat (.list es)] => some (.ok (zipI ds es), w)
  | [.dat (.tuple ds), .dat (.tuple es)] => some (.ok (zipI ds es), w)
  | _ => none
theorem di_zip {elts : List Expr} {kk : Nat} {tpos : Pos} {ml : Env → Mo (List SV)} (hm : X.mg "zip" = none) (ha : DA X EA W [a, b] ml) (hg : Gl X "zip" := by rfl)
    (hs : starEach [a, b] X.env = (false, eval a X.env) :: starEach [b] X.env := by rfl) (hpl : (backTo pos (starEach [b] X.env)).any (·.1) = false := by rfl) : DI X EA W (.Tuple elts kk tpos) (.Call (.Name "zip" p) [a, b] [] pos) (mZip ml) := by
  obtain ⟨t, q, s⟩ := ha.ex
  refine ⟨_, pi_zipA hg hm q hs hpl, fun ι w σ H ρ R S E h => ?_⟩
  refine s ι w σ H ρ _ S E ((Hyp.bind h).imp fun xs ι1 w1 H1 s1 h1 Vs rs => ?_)
  match xs, rs, h1 with
  | [.dat (.list ds), .dat (.list es)], .cons r1 (.cons r2 .nil), h1 =>
    cases r1 with
    | lst g1 n1 q1 =>
      cases r2 with
      | lst g2 n2 q2 =>
        exact ⟨_, _, _, _, rfl, .inl ⟨SqL.of g1, SqL.of g2, Hyp.here h1 s1.rel _ (walk_zl (fun M' H' g => SqL.of (g _ _ n1 g1).1) (fun M' H' g => SqL.of (g _ _ n2 g2).1) q1 q2)⟩⟩
  | [.dat (.tuple ds), .dat (.tuple es)], .cons r1 (.cons r2 .nil), h1 =>
    obtain ⟨a1, vs1, rfl, g1, q1⟩ := ST.tup r1
    obtain ⟨a2, vs2, rfl, g2, q2⟩ := ST.tup r2
    exact ⟨_, _, _, _, rfl, .inr ⟨g1.sq, g2.sq, Hyp.here h1 s1.rel _ (walk_zt (fun M' H' g => (g1.go g).sq) (fun M' H' g => (g2.go g).sq) q1 q2)⟩⟩
/-! ### range with a step -/
def intsBy (lo c : Int) (n : Nat) : List PyData := (List.range n).map fun i => .int (lo + (i : Nat) * c)
theorem walk_rc {K : PySem.W.Frag} {M : List Addr} {H : Hp} {lo c : Int} {n : Nat} : Walks K (Itc lo c n) (intsBy lo c n) M H where
  go := fun M' H' g i d e => by
    have : i < (intsBy lo c n).length := (List.getElem?_eq_some_iff.mp e).1
    show i < n
    simpa [intsBy] using this
  yld := fun M' H' g th i d e x H'' y => by
    obtain ⟨rfl, rfl⟩ := y
    have hi : i < n := by
      have : i < (intsBy lo c n).length := (List.getElem?_eq_some_iff.mp e).1
      simpa [intsBy] using this
    have e' : d = .int (lo + (i : Nat) * c) := by
      unfold intsBy at e
      rw [List.getElem?_map, List.getElem?_range hi] at e
      exact (Option.some.inj e).symm
    subst e'
    exact ⟨.inl rfl, Dt.int _⟩
  stop := fun M' H' g => by
    show n ≤ (intsBy lo c n).length
    simp [intsBy]
/-- range(a, b, -1) -/
def mRangeD (m : Env → Mo (List SV)) : Env → Mo (List PyData) := fun ρ => mBind (m ρ) fun xs w => match xs with
  | [.dat (.int l), .dat (.int n), .dat (.int (-1))] => if in62 l && in62 n then some (.ok (intsBy l (-1) (l - n).toNat), w) else none
  | _ => none
theorem di_rangeD {c : Expr} {ml : Env → Mo (List SV)} {tg : Expr} (hm : X.mg "range" = none) (ha : DA X EA W [a, b, c] ml) (hg : Gl X "range" := by rfl)
    (hs : starEach [a, b, c] X.env = (false, eval a X.env) :: starEach [b, c] X.env := by rfl) (hpl : (backTo pos (starEach [b, c] X.env)).any (·.1) = false := by rfl) : DI X EA W tg (.Call (.Name "range" p) [a, b, c] [] pos) (mRangeD ml) := by
  obtain ⟨t, q, s⟩ := ha.ex
  refine ⟨_, pi_range3 hg hm q hs hpl, fun ι w σ H ρ R S E h => ?_⟩
  refine s ι w σ H ρ _ S E ((Hyp.bind h).imp fun xs ι1 w1 H1 s1 h1 Vs rs => ?_)
  match xs, rs, h1 with
  | [.dat (.int l), .dat (.int n), .dat (.int (-1))], .cons r1 (.cons r2 (.cons r3 .nil)), h1 =>
    cases r1; cases r2; cases r3
    by_cases cc : (in62 l && in62 n) = true
    · have h2 : Hyp X.K EA ι1 w1 H1 (if in62 l && in62 n then some (.ok (intsBy l (-1) (l - n).toNat), w1) else none) _ _ := h1
      rw [if_pos cc] at h2
      simp only [Bool.and_eq_true] at cc
      have c1 := of_decide_eq_true cc.1
      have c2 := of_decide_eq_true cc.2
      exact ⟨l, n, -1, _, rfl, RgC.neg c1.1 c1.2 c2.1 c2.2, Hyp.here h2 s1.rel _ walk_rc⟩
    · have h2 : Hyp X.K EA ι1 w1 H1 (if in62 l && in62 n then some (.ok (intsBy l (-1) (l - n).toNat), w1) else none) _ _ := h1
      rw [if_neg cc] at h2
      exact h2.elim
end
end EG


set_option Elab.async false
set_option linter.all false
set_option maxRecDepth 100000
set_option maxHeartbeats 1000000
namespace EG
open PySem PySem.Spec PyProof.Rows L2
/-! ### enumerate over a tuple, from k on -/
def IteT (K : PySem.W.Frag) (c : Addr) (k : Int) : It where
  go i H := ∃ (zs : List V) (z : V), SqT K H c zs ∧ zs[i]? = some z
  yld i H v H' := ∃ T z, v = .ref T ∧ H T = none ∧ H' = upd H T (.tup [.int (k + (i : Nat)), z]) ∧ ∀ zs, SqT K H c zs → zs[i]? = some z
  stop i H := ∃ zs : List V, SqT K H c zs ∧ zs.length = i
theorem turn_enumT {P : Program} {w : World} {K : PySem.W.Frag} {elts : List Expr} {kk : Nat} {tp : Pos} (c : Addr) (k : Int) (en ti : Addr) :
    Turn P w K (.Tuple elts kk tp) (IteT K c k) [en, ti] en (fun i h => (∃ last, IsEnum h en ti (k + (i : Nat)) last) ∧ h.IsTupleIter ti c i ∧ en ≠ ti) where
  mem := List.mem_cons_self
  obj := fun i h st y hy => by
    obtain ⟨⟨last, he⟩, ⟨o, ho, _, hd⟩, _⟩ := st
    rcases List.mem_cons.mp hy with z | z
    · subst z; exact ⟨_, he, fun v q => nomatch q⟩
    · rw [List.mem_singleton.mp z]; exact ⟨o, ho, fun v q => by rw [hd] at q; cases q⟩
  keep := fun i h h' st hk => ⟨let ⟨last, he⟩ := st.1; ⟨last, hk en List.mem_cons_self _ he⟩, st.2.1.at fun o q => hk ti (List.mem_cons_of_mem _ List.mem_cons_self) o q, st.2.2⟩
  item := by
    intro X eP ew eK calm i pins s σ H E I free st hgo
    subst eP ew eK
    obtain ⟨⟨last, he⟩, hit, hne⟩ := st
    obtain ⟨zs, z, hq, hz⟩ := hgo
    obtain ⟨its, rv, pt, _⟩ := I.tuple hq
    obtain ⟨u, hu, ru⟩ := rv.get hz
    have le : en < s.heap.objs.size := Heap.lt_size he
    have lt : ti < s.heap.objs.size := by obtain ⟨_, q, _⟩ := hit; exact Heap.lt_size q
    have hce : c ≠ en := fun e => by
      obtain ⟨o, q1, q2, _⟩ := pt
      rw [e] at q1
      rw [show s.heap.get? en = some _ from he] at q1
      cases q1
      exact absurd (Value.type.inj q2) (by decide)
    have hci : c ≠ ti := fun e => by
      obtain ⟨o, q1, q2, _⟩ := pt
      obtain ⟨o', q3, q4, _⟩ := hit
      rw [e, q3] at q1
      cases q1
      rw [q4] at q2
      exact absurd (Value.type.inj q2) (by decide)
    have len : i < its.toArray.size := by
      have := (List.getElem?_eq_some_iff.mp hu).1
      simpa using this
    have D := Draws.tuple (prog := X.prog) (w := X.w) (A := X.A.in1) (I.ok.hd calm) ti c hci its.toArray
    refine PySem.wpAny_pyNext_enum_itemC D he ⟨hit, pt⟩ len hne (by simp only [List.mem_cons, List.not_mem_nil, or_false, not_or]; exact ⟨hne, fun q => hce q.symm⟩) fun y h1 tk hy out st1 hT hsz hk => ?_
    have ey : y = u := by
      have : its.toArray[i]? = some u := by simpa using hu
      rw [this] at hy
      exact (Option.some.inj hy).symm
    subst ey
    refine ⟨_, rfl, wpAny_letOwnedTupleGo_enum (s := { s with heap := h1, toks := tk + 1 }) out fun h2 he2 sb => ?_⟩
    have hT2 : h2.get? s.heap.objs.size = some { cls := .type "tuple", data := .seq #[.int (k + (i : Nat)) tk, y] } := (sb.2 _ (Nat.ne_of_gt le)).trans hT
    have new : ObjOk X.prog X.w (upd H s.heap.objs.size (.tup [.int (k + (i : Nat)), z])) h2 s.heap.objs.size (.tup [.int (k + (i : Nat)), z]) :=
      ⟨show 2 ≤ sizeLine by decide, [.int (k + (i : Nat)) tk, y], .cons ⟨tk, rfl⟩ (.cons ru .nil), ⟨_, hT2, rfl, _, rfl⟩⟩
    have I2 := I.turnedNew (t' := tk + 1) (ch := [en, ti]) (fun d o hd q => (sb.2 d (fun e => hd (by rw [e]; exact List.mem_cons_self))).trans (hk d o (fun e => hd (by rw [e]; exact List.mem_cons_self)) (fun e => hd (by rw [e]; exact List.mem_cons_of_mem _ List.mem_cons_self)) q)) free (Nat.le_refl _) new
    refine ⟨.ref s.heap.objs.size, _, I2, rfl, ⟨_, z, rfl, I.hok.fresh (Nat.le_refl _), rfl, fun ys hy => by rw [I.tuple_inj hy hq]; exact hz⟩, ⟨⟨y, ?_⟩, st1.1.at fun o q => (sb.2 ti (Ne.symm hne)).trans q, hne⟩, fun d hd => ?_⟩
    · have e1 : k + ((i + 1 : Nat) : Int) = k + (i : Nat) + 1 := by omega
      rw [e1]; exact he2
    · have dl : d < s.heap.objs.size := by
        rcases List.mem_cons.mp hd with e | e
        · rw [e]; exact le
        · rw [List.mem_singleton.mp e]; exact lt
      rw [upd_ne (Nat.ne_of_lt dl)]
      exact (free d hd).1
  done := by
    intro X eP ew eK calm i pins s σ H E I free st hstop
    subst eP ew eK
    obtain ⟨⟨last, he⟩, hit, hne⟩ := st
    obtain ⟨zs, hq, hz⟩ := hstop
    obtain ⟨its, rv, pt, _⟩ := I.tuple hq
    have hci : c ≠ ti := fun e => by
      obtain ⟨o, q1, q2, _⟩ := pt
      obtain ⟨o', q3, q4, _⟩ := hit
      rw [e, q3] at q1
      cases q1
      rw [q4] at q2
      exact absurd (Value.type.inj q2) (by decide)
    have hl := rv.length
    have en_ : its.toArray.size = i := by simp; omega
    obtain ⟨f0, f1, f2, f3, f4, f5⟩ := free ti (List.mem_cons_of_mem _ List.mem_cons_self)
    have D := Draws.tuple (prog := X.prog) (w := X.w) (A := X.A.in1) (I.ok.hd calm) ti c hci its.toArray
    refine wpAny_pyNext_enum_endD D he ⟨by rw [en_]; exact hit, pt⟩ fun h1 hx => ⟨rfl, I.turned (t' := s.toks) (fun d o hd q => hx d o hd q) f0 f1 f3 f4 f5⟩
  self := fun A i s Q E st h => by
    obtain ⟨⟨_, he⟩, _⟩ := st
    exact wpAny_pyIter_enum he h
/-! the iterator made -/
set_option maxHeartbeats 2000000 in
theorem meets_enumOne {z : Value} {ob : Obj} {Hh : Heap → Prop} (B : Begins z ob Hh) :
    Meets (Builtin.«enumerate.__new__» ⟨[.type "enumerate", z], []⟩) (fun _ R st => Hh st.heap ∧
      R (.ok (.ret (.ref (st.heap.push ob).objs.size))) { st with heap := (st.heap.push ob).push { cls := .type "enumerate", data := .fields #[.none, .bool false, .ref st.heap.objs.size, rawInt 0, .none, .none] } }) :=
  .of_wp fun pg w A R st hh => by
    obtain ⟨hp, gs, dr, tk, os⟩ := st
    obtain ⟨k1, k2⟩ := hh
    have sub := sub_enumerate
    have it1 : ∀ {A' : Around} {E Q : Value → Shared → Prop}, Q (.ref hp.objs.size) ⟨hp.push ob, gs, dr, tk, os⟩ → wpAny (model pg w) A' (pyIter z) Q E ⟨hp, gs, dr, tk, os⟩ := fun q => B.iter pg w _ _ ⟨hp, gs, dr, tk, os⟩ _ k1 q
    wp_walk using it1
    refine wpAny_stack_any fun fr => (wpAny_pure ?_ : _)
    split
    · rename_i c0 _ _ _ _ _
      cases (c0 == Value.type "enumerate") <;> (wp_walk using it1; exact ⟨_, rfl, k2⟩)
    · wp_walk using it1
      exact ⟨_, rfl, k2⟩
section
variable {pg : Program} {w : World} {A : Around} {E : Value → Shared → Prop} {s : Shared}
theorem enum_one {z : Value} {ob : Obj} {Hh : Heap → Prop} {Q : Value → Shared → Prop} (B : Begins z ob Hh) (k1 : Hh s.heap)
    (h : ∀ h', IsEnum h' (s.heap.objs.size + 1) s.heap.objs.size 0 .none → h'.get? s.heap.objs.size = some ob → (∀ b o, s.heap.get? b = some o → h'.get? b = some o) → Q (.ref (s.heap.objs.size + 1)) { s with heap := h' }) :
    wpAny (model pg w) A (call (.type "enumerate") [z]) Q E s := by
  have sz : (s.heap.push ob).objs.size = s.heap.objs.size + 1 := Heap.size_push ..
  have at_ := Heap.get?_push_size (s.heap.push ob) (o := { cls := .type "enumerate", data := .fields #[.none, .bool false, .ref s.heap.objs.size, rawInt 0, .none, .none] }) rfl
  rw [sz] at at_
  refine callType_new F.called_enumerate (by decide) (F.typeCall_enumerate_1 _) (F.newCall_enumerate_1 _) (fun ob => F.args_object_init_2 ob _) F.entry_enumerate_new (meets_enumOne B) ⟨k1, ?_⟩
  show _ ∧ _
  rw [sz]
  refine ⟨⟨_, at_, rfl⟩, h _ at_ (Heap.get?_push_of_some _ (Heap.get?_push_size _ B.free)) fun b o x => Heap.get?_push_of_some _ (Heap.get?_push_of_some _ x)⟩
end
section
variable {M : Model} {A : Around} {E : Value → Shared → Prop} {s : Shared} {env : PySem.Env}
theorem callWith_typeKw {pos : Pos} {T : String} {e : Expr} {es : List Expr} {kws : List Keyword} {Q : Value → Shared → Prop}
    (h : wpAny M A (spliced (backTo pos (starEach (e :: es) env))) (fun vs s1 => wpAny M A (evalAll ((backToKw pos (keywordEach kws env)).map (·.2))) (fun ws s2 => wpAny M A (call (.type T) vs (((backToKw pos (keywordEach kws env)).filterMap (·.1)).zip ws)) Q E s2) E s1) E s)
    (he : backTo pos (starEach (e :: es) env) = (false, eval e env) :: backTo pos (starEach es env)) (hpl : (backTo pos (starEach (e :: es) env)).any (·.1) = false) (hall : (backToKw pos (keywordEach kws env)).all (·.1.isSome) = true) (hno : (backToKw pos (keywordEach kws env)).any (·.1.isNone) = false) :
    wpAny M A (callWith pos (.type T) [] (backTo pos (starEach (e :: es) env)) (backToKw pos (keywordEach kws env))) Q E s := by
  unfold callWith
  rw [he] at h hpl ⊢
  refine wpAny_bind (wpAny_holding (wpAny_mono (evalArgs_kwB (Q := fun a s1 => wpAny M A (call (.type T) a.pos a.kw) Q E s1) hall h) (fun a s1 h1 => wpAny_bind (wpAny_standAt ?_)) fun _ _ x => x))
  simp only [hpl, hno, Bool.or_false]
  refine wpAny_bind (wpAny_pure (wpAny_bind (wpAny_mono (show wpAny M A (call (.type T) ([] ++ a.pos) a.kw) Q E s1 from h1) (fun r s2 q => wpAny_bind (wpAny_holding (wpAny_point (wpAny_pure q)))) fun _ _ x => x)))
end
def iEnumT (K : PySem.W.Frag) (ta : TA) : TI := fun σ H R => ta σ H fun vs H1 => ∃ c zs, vs = [.ref c] ∧ SqT K H1 c zs ∧ R (IteT K c 0) H1
def iEnumK (K : PySem.W.Frag) (ta tk : TA) : TI := fun σ H R => ta σ H fun vs H1 => tk σ H1 fun ks H2 => ∃ c zs k, vs = [.ref c] ∧ ks = [.int k] ∧ -(2 ^ 63) ≤ k ∧ k < 2 ^ 63 ∧ SqT K H2 c zs ∧ R (IteT K c k) H2
section
variable {X : Cx} {pos p : Pos} {e : Expr} {elts : List Expr} {kk : Nat} {tp : Pos} {ta tk : TA}
theorem enumT_made {pins : List (Addr × Obj)} {σ : L2.St} {H : Hp} {s : Shared} {R : It → Hp → Prop} {c : Addr} {k : Int} {h' : Heap} (I : Inv X pins σ H s) (en : IsEnum h' (s.heap.objs.size + 1) s.heap.objs.size k .none)
    (it : h'.get? s.heap.objs.size = some { cls := .type "tuple_iterator", data := .fields #[.ref c, .int 0 0] }) (hk : ∀ b o, s.heap.get? b = some o → h'.get? b = some o) (q : R (IteT X.K c k) H) :
    PIE X pins σ (.Tuple elts kk tp) R (.ref (s.heap.objs.size + 1)) { s with heap := h' } := by
  refine ⟨s.heap.objs.size + 1, [s.heap.objs.size + 1, s.heap.objs.size], _, _, H, rfl, I.kept (t' := s.toks) hk, turn_enumT c k (s.heap.objs.size + 1) s.heap.objs.size, ⟨⟨.none, by simpa using en⟩, ⟨_, it, rfl, rfl⟩, Nat.succ_ne_self _⟩, fun b hb => ?_, q⟩
  have le : s.heap.objs.size ≤ b := by
    rcases List.mem_cons.mp hb with z | z
    · rw [z]; exact Nat.le_succ _
    · rw [List.mem_singleton.mp z]; exact Nat.le_refl _
  exact I.fpOk le (I.hok.fresh le)
theorem pi_enumT (hg : Gl X "enumerate") (hm : X.mg "enumerate" = none) (ha : PA X [e] ta) (hs : starEach [e] X.env = [(false, eval e X.env)] := by rfl) : PI X (.Tuple elts kk tp) (.Call (.Name "enumerate" p) [e] [] pos) (iEnumT X.K ta) := by
  refine ⟨fun pins s σ H R I h => Call_ (ld_blt I hg hm boot_enumerate (PyProof.Rows.callWith_type1 (thn (ha.run pos pins s σ H _ I h) fun us s1 ⟨vs, H1, I1, r1, c, zs, ex, hq, q⟩ => ?_) hs rfl))⟩
  subst ex
  cases r1 with
  | cons ra rb =>
    cases rb
    cases ra
    obtain ⟨its, rv, pt, _⟩ := I1.tuple hq
    exact enum_one (begins_tuple c its.toArray) pt fun h' en it hk => wpAny_pyIter_enum en (enumT_made I1 en it hk q)
theorem pi_enumK {kv : Expr} {kp : Pos} (hg : Gl X "enumerate") (hm : X.mg "enumerate" = none) (ha : PA X [e] ta) (hk : PK X [⟨some "start", kv, kp⟩] tk)
    (he : backTo pos (starEach [e] X.env) = (false, eval e X.env) :: backTo pos (starEach [] X.env) := by rfl) (hpl : (backTo pos (starEach [e] X.env)).any (·.1) = false := by rfl) : PI X (.Tuple elts kk tp) (.Call (.Name "enumerate" p) [e] [⟨some "start", kv, kp⟩] pos) (iEnumK X.K ta tk) := by
  refine ⟨fun pins s σ H R I h => wpAny_Call_Name_kw (ld_blt I hg hm boot_enumerate ?_ (by decide) (by decide))⟩
  refine callWith_typeKw (thn (ha.run pos pins s σ H _ I h) fun us s1 ⟨vs, H1, I1, r1, q1⟩ => thn (hk.run pos pins s1 σ H1 _ I1 q1) fun ws s2 ⟨zs, H2, I2, r2, c, xs, k, e1, e2, l1, l2, hq, q⟩ => ?_) he hpl rfl rfl
  subst e1 e2
  cases r1 with
  | cons ra rb =>
    cases rb
    cases ra
    cases r2 with
    | cons rc rd =>
    cases rd
    obtain ⟨t, rfl⟩ := rc
    obtain ⟨its, rv, pt, _⟩ := I2.tuple hq
    exact enum_begins_start (begins_tuple c its.toArray) pt l1 l2 fun h' en it _ hk => wpAny_pyIter_enum en (enumT_made I2 en it hk q)
end
/-! their walks -/
def enumK : Int → List PyData → List PyData
  | _, [] => []
  | k, d :: r => .tuple [.int k, d] :: enumK (k + 1) r
theorem enumK_get : ∀ {ds : List PyData} {k : Int} {i : Nat} {e : PyData}, (enumK k ds)[i]? = some e → ∃ d, ds[i]? = some d ∧ e = .tuple [.int (k + (i : Nat)), d]
  | [], _, _, _, h => by simp [enumK] at h
  | d :: r, k, 0, e, h => by
    cases (Option.some.inj h)
    exact ⟨d, rfl, by simp⟩
  | d :: r, k, i + 1, e, h => by
    obtain ⟨d', h1, h2⟩ := enumK_get (ds := r) (k := k + 1) (i := i) (by simpa [enumK] using h)
    refine ⟨d', by simpa using h1, ?_⟩
    rw [h2]
    have : k + 1 + (i : Nat) = k + ((i + 1 : Nat) : Int) := by omega
    rw [this]
theorem enumK_len : ∀ {ds : List PyData} {k : Int}, (enumK k ds).length = ds.length
  | [], _ => rfl
  | _ :: r, _ => congrArg (· + 1) (enumK_len (ds := r))
theorem walk_eT {K : PySem.W.Frag} {M : List Addr} {H : Hp} {a : Addr} {k : Int} {vs : List V} {ds : List PyData} (h : ∀ M' H', Go M H M' H' → SqT K H' a vs) (q : DtA K M H vs ds) : Walks K (IteT K a k) (enumK k ds) M H where
  go := fun M' H' g i d e => by
    obtain ⟨d0, e0, _⟩ := enumK_get e
    obtain ⟨v, h1, _⟩ := q.getD e0
    exact ⟨vs, v, h M' H' g, h1⟩
  yld := fun M' H' g th i d e x H'' y => by
    obtain ⟨T, x0, rfl, hT, rfl, y⟩ := y
    obtain ⟨d0, e0, rfl⟩ := enumK_get e
    obtain ⟨v, h1, h2⟩ := q.getD e0
    have e2 := y vs (h M' _ g)
    rw [h1] at e2
    cases e2
    refine ⟨.inr ⟨T, _, hT, rfl⟩, Dt.tup (.inl ⟨.inl upd_same, fun z => ?_⟩) (.cons (.int _) (.cons ((h2.go g).go (Go.new hT)) .nil))⟩
    obtain ⟨u, hu⟩ := th T z
    rw [hT] at hu
    cases hu
  stop := fun M' H' g => ⟨vs, h M' H' g, by rw [enumK_len, q.length]⟩
def mEnumT (m : Env → Mo SV) : Env → Mo (List PyData) := fun ρ => mBind (m ρ) fun x w => match x with
  | .dat (.tuple ds) => some (.ok (enumK 0 ds), w)
  | _ => none
/-- enumerate(a, start = k), k a constant -/
def mEnumK (k : Int) (m : Env → Mo SV) : Env → Mo (List PyData) := fun ρ => mBind (m ρ) fun x w => match x with
  | .dat (.tuple ds) => some (.ok (enumK k ds), w)
  | _ => none
section
variable {X : Cx} {EA : EAt} {W : WX} {a : Expr} {ma : Env → Mo SV} {pos p : Pos} {elts : List Expr} {kk : Nat} {tp : Pos}
theorem di_enumT (hm : X.mg "enumerate" = none) (ha : DE X EA W a ma) (hg : Gl X "enumerate" := by rfl) (hs : starEach [a] X.env = [(false, eval a X.env)] := by rfl)
    (hs' : starEach (a :: []) X.env = (false, eval a X.env) :: starEach [] X.env := by rfl) : DI X EA W (.Tuple elts kk tp) (.Call (.Name "enumerate" p) [a] [] pos) (mEnumT ma) := by
  obtain ⟨t, q, s⟩ := ha.ex
  refine ⟨_, pi_enumT hg hm (pa_cons q pa_nil hs') hs, fun ι w σ H ρ R S E h => ?_⟩
  refine s ι w σ H ρ _ S E ((Hyp.bind h).imp fun x ι1 w1 H1 s1 h1 V rv => ?_)
  cases x with
  | dat d =>
    cases d with
    | tuple ds =>
      obtain ⟨c, zs, rfl, g, q⟩ := ST.tup rv
      exact ⟨_, _, rfl, g.sq, Hyp.here h1 s1.rel _ (walk_eT (fun M' H' k => (g.go k).sq) q)⟩
    | _ => exact h1.elim
  | _ => exact h1.elim
theorem di_enumK {k : Int} {j : Nat} {p2 kp : Pos} (hm : X.mg "enumerate" = none) (ha : DE X EA W a ma) (hk : decide (-(2 ^ 63) ≤ k ∧ k < 2 ^ 63) = true := by decide) (hg : Gl X "enumerate" := by rfl) (hs' : starEach (a :: []) X.env = (false, eval a X.env) :: starEach [] X.env := by rfl)
    (he : backTo pos (starEach [a] X.env) = (false, eval a X.env) :: backTo pos (starEach [] X.env) := by rfl) (hpl : (backTo pos (starEach [a] X.env)).any (·.1) = false := by rfl) :
    DI X EA W (.Tuple elts kk tp) (.Call (.Name "enumerate" p) [a] [⟨some "start", .Constant (.int k) j p2, kp⟩] pos) (mEnumK k ma) := by
  obtain ⟨t, q, s⟩ := ha.ex
  refine ⟨_, pi_enumK hg hm (pa_cons q pa_nil hs') (pk_cons pe_int pk_nil) he hpl, fun ι w σ H ρ R S E h => ?_⟩
  refine s ι w σ H ρ _ S E ((Hyp.bind h).imp fun x ι1 w1 H1 s1 h1 V rv => ?_)
  cases x with
  | dat d =>
    cases d with
    | tuple ds =>
      obtain ⟨c, zs, rfl, g, q⟩ := ST.tup rv
      have hk' := of_decide_eq_true hk
      exact ⟨_, _, _, rfl, rfl, hk'.1, hk'.2, g.sq, Hyp.here h1 s1.rel _ (walk_eT (fun M' H' k => (g.go k).sq) q)⟩
    | _ => exact h1.elim
  | _ => exact h1.elim
end
end EG


set_option Elab.async false
set_option linter.all false
set_option maxRecDepth 100000
set_option maxHeartbeats 1000000
namespace EG
open PySem PySem.Spec PyProof.Rows L2
/-! ### in a list of data of any depth -/
section
variable {X : Cx} {EA : EAt} {W : WX} {a b : Expr} {ma mb : Env → Mo SV} {pos : Pos} {K : PySem.W.Frag}
theorem os_inD : OpS K (fun x y H Q => rInD K x y H Q) (gInD false) := by
  intro ι w H vx vy x y v Q R rx ry e k
  unfold gInD at e
  cases e1 : toD w x with
  | none => simp [e1] at e
  | some d =>
    cases e2 : toD w y with
    | none => simp [e1, e2] at e
    | some d2 =>
      cases d2 with
      | list es =>
        simp only [e1, e2] at e
        by_cases c : (SeqAt.shaped d && SeqAt.shaped (.list es)) = true
        · rw [if_pos c] at e
          cases e
          simp only [Bool.and_eq_true] at c
          exact ⟨d, es, (rx.p R e1).dp (noDict_of c.1), (ry.p R e2).dp (noDict_of c.2), c.1, c.2, k H (Stp.refl R) _ (Dt.bl _)⟩
        · rw [if_neg c] at e; cases e
      | _ => simp [e1, e2] at e
theorem os_notinD : OpS K (fun x y H Q => rNotInD K x y H Q) (gInD true) := by
  intro ι w H vx vy x y v Q R rx ry e k
  unfold gInD at e
  cases e1 : toD w x with
  | none => simp [e1] at e
  | some d =>
    cases e2 : toD w y with
    | none => simp [e1, e2] at e
    | some d2 =>
      cases d2 with
      | list es =>
        simp only [e1, e2] at e
        by_cases c : (SeqAt.shaped d && SeqAt.shaped (.list es)) = true
        · rw [if_pos c] at e
          cases e
          simp only [Bool.and_eq_true] at c
          exact ⟨d, es, (rx.p R e1).dp (noDict_of c.1), (ry.p R e2).dp (noDict_of c.2), c.1, c.2, k H (Stp.refl R) _ (Dt.bl _)⟩
        · rw [if_neg c] at e; cases e
      | _ => simp [e1, e2] at e
theorem de_inD (hu : X.A.units + 65 < cLine) (ha : DE X EA W a ma) (hb : DE X EA W b mb) (hm : behindInMarks .In b = false := by rfl) : DE X EA W (.Compare a [.In] [b] pos) (mBin ma mb (gInD false)) := de_cmp (op_inD hu) os_inD ha hb hm
theorem dt_inD (hu : X.A.units + 65 < cLine) (ha : DE X EA W a ma) (hb : DE X EA W b mb) (hm : behindInMarks .In b = false := by rfl) : DT X EA W (.Compare a [.In] [b] pos) (mTB (mBin ma mb (gInD false))) := dt_cmp (op_inD hu) os_inD ha hb hm
theorem de_notinD (hu : X.A.units + 65 < cLine) (ha : DE X EA W a ma) (hb : DE X EA W b mb) (hm : behindInMarks .NotIn b = false := by rfl) : DE X EA W (.Compare a [.NotIn] [b] pos) (mBin ma mb (gInD true)) := de_cmp (op_notInD hu) os_notinD ha hb hm
theorem dt_notinD (hu : X.A.units + 65 < cLine) (ha : DE X EA W a ma) (hb : DE X EA W b mb) (hm : behindInMarks .NotIn b = false := by rfl) : DT X EA W (.Compare a [.NotIn] [b] pos) (mTB (mBin ma mb (gInD true))) := dt_cmp (op_notInD hu) os_notinD ha hb hm
end
/-! ### a tuple of texts, a dict of ints that stand at the top of a module -/
def strsK : List Str → List Value → Prop
  | [], [] => True
  | x :: r, v :: s => (∃ t, v = .str x t) ∧ strsK r s
  | _, _ => False
theorem strsK_vals : ∀ {l : List Str} {vs : List Value}, strsK l vs → Vals (l.map V.str) vs
  | [], [], _ => .nil
  | _ :: _, [], h => h.elim
  | [], _ :: _, h => h.elim
  | x :: r, v :: s, h => .cons h.1 (strsK_vals h.2)
theorem DtA.strs {K : PySem.W.Frag} {M : List Addr} {H : Hp} : ∀ l : List Str, DtA K M H (l.map V.str) (l.map PyData.str)
  | [] => .nil
  | x :: r => .cons (.str x) (DtA.strs r)
/-- the global x is this tuple of texts -/
structure TupN (K : PySem.W.Frag) (mg : Str → Option Value) (x : Str) (l : List Str) : Prop where
  ex : ∃ a o its n, mg x = some (.ref a) ∧ K.lookup a = some o ∧ o.cls = .type "tuple" ∧ o.data = .seq its n ∧ its.size ≤ sizeLine ∧ strsK l its.toList
def RowsW (P : Params) : List DictEntry → List (Str × Int) → Prop
  | [], [] => True
  | e :: es, (x, i) :: r => (∃ t u, e.key = .str x t ∧ e.hash = PyData.keyHash P x ∧ e.val = .int i u) ∧ RowsW P es r
  | _, _ => False
structure DicN (P : Params) (K : PySem.W.Frag) (mg : Str → Option Value) (x : Str) (l : List (Str × Int)) : Prop where
  ex : ∃ d es n, mg x = some (.ref d) ∧ K.lookup d = some ⟨.type "dict", none, .dict es n, #[]⟩ ∧ (d == sysModules) = false ∧ RowsW P es.toList l
theorem RowsW.lit {P : Params} : ∀ {es : List DictEntry} {l : List (Str × Int)}, RowsW P es l → PySem.W.KeysLit P es
  | [], [], _ => True.intro
  | _ :: _, [], h => h.elim
  | [], _ :: _, h => h.elim
  | e :: es, (x, i) :: r, h => by
    obtain ⟨⟨t, u, h1, h2, h3⟩, h4⟩ := h
    exact ⟨⟨x, t, h1, h2⟩, RowsW.lit h4⟩
def lookS (z : Str) : List (Str × Int) → Option Int
  | [] => none
  | (x, i) :: r => if x == z then some i else lookS z r
theorem RowsW.find {P : Params} {z : Str} : ∀ {es : List DictEntry} {l : List (Str × Int)}, RowsW P es l → match lookS z l with
    | some i => ∃ e u, es.find? (·.key.isStr z) = some e ∧ e.val = .int i u
    | none => es.find? (·.key.isStr z) = none ∧ es.any (·.refKey) = false
  | [], [], _ => ⟨rfl, rfl⟩
  | _ :: _, [], h => h.elim
  | [], _ :: _, h => h.elim
  | e :: es, (x, i) :: r, h => by
    obtain ⟨⟨t, u, h1, h2, h3⟩, h4⟩ := h
    have ih := RowsW.find (z := z) h4
    have k : e.key.isStr z = (x == z) := by rw [h1]; rfl
    unfold lookS
    by_cases c : (x == z) = true
    · rw [if_pos c]
      exact ⟨e, u, by rw [List.find?_cons_of_pos (by rw [k]; exact c)], h3⟩
    · rw [if_neg c]
      cases q : lookS z r with
      | some j =>
        rw [q] at ih
        obtain ⟨e', u', g1, g2⟩ := ih
        exact ⟨e', u', by rw [List.find?_cons_of_neg (by rw [k]; exact c)]; exact g1, g2⟩
      | none =>
        rw [q] at ih
        refine ⟨by rw [List.find?_cons_of_neg (by rw [k]; exact c)]; exact ih.1, ?_⟩
        rw [List.any_cons, ih.2, Bool.or_false]
        have : e.refKey = (match e.key with | .ref _ => true | _ => false) := by
          unfold DictEntry.refKey
          cases e.key <;> rfl
        rw [this, h1]
theorem nsIn_rows {P : Params} {K : PySem.W.Frag} {d : Addr} {es : Array DictEntry} {n : Nat} {l : List (Str × Int)} (hl : K.lookup d = some ⟨.type "dict", none, .dict es n, #[]⟩) (h : RowsW P es.toList l) (z : Str) :
    ∃ r, PySem.W.nsIn K d z = some r ∧ r.isSome = (lookS z l).isSome ∧ ∀ i, lookS z l = some i → ∃ u, r = some (.int i u) := by
  have f := RowsW.find (z := z) h
  unfold PySem.W.nsIn
  rw [hl]
  cases q : lookS z l with
  | some i =>
    rw [q] at f
    obtain ⟨e, u, g1, g2⟩ := f
    simp only [g1]
    exact ⟨_, rfl, rfl, fun j hj => by cases hj; exact ⟨u, by rw [g2]⟩⟩
  | none =>
    rw [q] at f
    simp only [f.1, f.2, Bool.false_eq_true, if_false]
    exact ⟨_, rfl, rfl, fun j hj => by cases hj⟩
section
variable {X : Cx} {EA : EAt} {W : WX} {a : Expr} {ma : Env → Mo SV} {pos p : Pos} {x : Str} {l : List (Str × Int)}
theorem d_tupN {t : List Str} (T : TupN X.K X.mg x t) (hg : Gl X x := by rfl) (hdb : (x == ("__debug__" : Str)) = false := by decide) : DE X EA W (.Name x pos) (mC (.tuple (t.map .str))) := by
  obtain ⟨a, o, its, n, hm, hl, hc, hd, hz, hv⟩ := T.ex
  exact d_glob (v := .ref a) hm rfl (fun M H => Dt.tup (.inr (.inr ⟨o, its, n, hl, hc, hd, hz, strsK_vals hv⟩)) (DtA.strs t)) hg hdb
def gInW (neg : Bool) (l : List (Str × Int)) : Op1 := fun x _ => match x with
  | .dat (.str z) => some (.dat (.bool (if neg then !(lookS z l).isSome else (lookS z l).isSome)))
  | _ => none
def gIxW (l : List (Str × Int)) : Op1 := fun x _ => match x with
  | .dat (.str z) => (lookS z l).map fun i => .dat (.int i)
  | _ => none
theorem de_inW (D : DicN X.w.params X.K X.mg x l) (ha : DE X EA W a ma) (hg : Gl X x := by rfl) (hdb : (x == ("__debug__" : Str)) = false := by decide) (hm : behindInMarks .In (.Name x p) = false := by rfl) : DE X EA W (.Compare a [.In] [.Name x p] pos) (mUn ma (gInW false l)) := by
  obtain ⟨t, q, s⟩ := ha.ex
  obtain ⟨d, es, n, hm1, hl, hlow, hr⟩ := D.ex
  refine ⟨_, pe_cmpR (op_in_kd ⟨hl, hr.lit, hlow⟩) q (pe_glob (v := .ref d) hg hm1 rfl hdb) hm, fun ι w σ H ρ Q R E h => ?_⟩
  refine s ι w σ H ρ _ R E ((Hyp.bind h).imp fun y ι1 w1 H1 s1 h1 V rv => ?_)
  unfold gInW at h1
  cases y with
  | dat dd =>
    cases dd with
    | str z =>
      cases rv
      obtain ⟨r, g1, g2, g3⟩ := nsIn_rows hl hr z
      refine ⟨z, r, rfl, rfl, g1, ?_⟩
      rw [g2]
      exact Hyp.here h1 s1.rel _ (Dt.bl _)
    | _ => exact h1.elim
  | _ => exact h1.elim
theorem de_notinW (D : DicN X.w.params X.K X.mg x l) (ha : DE X EA W a ma) (hg : Gl X x := by rfl) (hdb : (x == ("__debug__" : Str)) = false := by decide) (hm : behindInMarks .NotIn (.Name x p) = false := by rfl) : DE X EA W (.Compare a [.NotIn] [.Name x p] pos) (mUn ma (gInW true l)) := by
  obtain ⟨t, q, s⟩ := ha.ex
  obtain ⟨d, es, n, hm1, hl, hlow, hr⟩ := D.ex
  refine ⟨_, pe_cmpR (op_notIn_kd ⟨hl, hr.lit, hlow⟩) q (pe_glob (v := .ref d) hg hm1 rfl hdb) hm, fun ι w σ H ρ Q R E h => ?_⟩
  refine s ι w σ H ρ _ R E ((Hyp.bind h).imp fun y ι1 w1 H1 s1 h1 V rv => ?_)
  unfold gInW at h1
  cases y with
  | dat dd =>
    cases dd with
    | str z =>
      cases rv
      obtain ⟨r, g1, g2, g3⟩ := nsIn_rows hl hr z
      refine ⟨z, r, rfl, rfl, g1, ?_⟩
      rw [g2]
      exact Hyp.here h1 s1.rel _ (Dt.bl _)
    | _ => exact h1.elim
  | _ => exact h1.elim
theorem dt_inW (D : DicN X.w.params X.K X.mg x l) (ha : DE X EA W a ma) (hg : Gl X x := by rfl) (hdb : (x == ("__debug__" : Str)) = false := by decide) (hm : behindInMarks .In (.Name x p) = false := by rfl) : DT X EA W (.Compare a [.In] [.Name x p] pos) (mTB (mUn ma (gInW false l))) := by
  obtain ⟨t, q, s⟩ := ha.ex
  obtain ⟨d, es, n, hm1, hl, hlow, hr⟩ := D.ex
  refine ⟨_, pt_cmpR (op_in_kd ⟨hl, hr.lit, hlow⟩) q (pe_glob (v := .ref d) hg hm1 rfl hdb) hm, fun ι w σ H ρ Q R E h => ?_⟩
  refine s ι w σ H ρ _ R E ((Hyp.bind (Hyp.bind h)).imp fun y ι1 w1 H1 s1 h1 V rv => ?_)
  cases y with
  | dat dd =>
    cases dd with
    | str z =>
      cases rv
      obtain ⟨r, g1, g2, g3⟩ := nsIn_rows hl hr z
      refine ⟨z, r, rfl, rfl, g1, _, rfl, ?_⟩
      rw [g2]
      exact Hyp.here (Hyp.here h1 s1.rel) s1.rel
    | _ => exact h1.elim
  | _ => exact h1.elim
theorem dt_notinW (D : DicN X.w.params X.K X.mg x l) (ha : DE X EA W a ma) (hg : Gl X x := by rfl) (hdb : (x == ("__debug__" : Str)) = false := by decide) (hm : behindInMarks .NotIn (.Name x p) = false := by rfl) : DT X EA W (.Compare a [.NotIn] [.Name x p] pos) (mTB (mUn ma (gInW true l))) := by
  obtain ⟨t, q, s⟩ := ha.ex
  obtain ⟨d, es, n, hm1, hl, hlow, hr⟩ := D.ex
  refine ⟨_, pt_cmpR (op_notIn_kd ⟨hl, hr.lit, hlow⟩) q (pe_glob (v := .ref d) hg hm1 rfl hdb) hm, fun ι w σ H ρ Q R E h => ?_⟩
  refine s ι w σ H ρ _ R E ((Hyp.bind (Hyp.bind h)).imp fun y ι1 w1 H1 s1 h1 V rv => ?_)
  cases y with
  | dat dd =>
    cases dd with
    | str z =>
      cases rv
      obtain ⟨r, g1, g2, g3⟩ := nsIn_rows hl hr z
      refine ⟨z, r, rfl, rfl, g1, _, rfl, ?_⟩
      rw [g2]
      exact Hyp.here (Hyp.here h1 s1.rel) s1.rel
    | _ => exact h1.elim
  | _ => exact h1.elim
theorem dt_of (he : DE X EA W a ma) (hw : ∀ whole, isTrue a X.env whole = (do let v ← whole; standAt a.pos; holding [v] (truthy v)) := by intro _; rfl) : DT X EA W a (mTB ma) := dt_val he hw
theorem de_ixW (D : DicN X.w.params X.K X.mg x l) (ha : DE X EA W a ma) (hg : Gl X x := by rfl) (hdb : (x == ("__debug__" : Str)) = false := by decide) (hs : PlainIx a := by exact fun _ _ => rfl) : DE X EA W (.Subscript (.Name x p) a pos) (mUn ma (gIxW l)) := by
  obtain ⟨t, q, s⟩ := ha.ex
  obtain ⟨d, es, n, hm1, hl, hlow, hr⟩ := D.ex
  refine ⟨_, pe_ix ix_kdict (pe_glob (v := .ref d) hg hm1 rfl hdb) q hs, fun ι w σ H ρ Q R E h => ?_⟩
  refine s ι w σ H ρ _ R E ((Hyp.bind h).imp fun y ι1 w1 H1 s1 h1 V rv => ?_)
  unfold gIxW at h1
  cases y with
  | dat dd =>
    cases dd with
    | str z =>
      cases rv
      cases f : lookS z l with
      | none => simp only [f] at h1; exact h1.elim
      | some i =>
        simp only [f] at h1
        obtain ⟨r, g1, g2, g3⟩ := nsIn_rows hl hr z
        obtain ⟨u, rfl⟩ := g3 i f
        exact ⟨d, z, .int i, rfl, rfl, ⟨es, n, _, hl, hr.lit, g1, ⟨u, rfl⟩⟩, Hyp.here h1 s1.rel _ (Dt.int _)⟩
    | _ => exact h1.elim
  | _ => exact h1.elim
end
end EG


set_option Elab.async false
set_option linter.all false
set_option maxRecDepth 100000
set_option maxHeartbeats 1000000
namespace EG
open PySem PySem.Spec PyProof.Rows L2
/-! ### short words for a program's modules -/
theorem ne_nil : ∀ f ∈ ([] : List (PyData → Env → Mo Env)), NoErr f := fun _ h => nomatch h
theorem ne_cons {f : PyData → Env → Mo Env} {fs : List (PyData → Env → Mo Env)} (h : NoErr f) (r : ∀ g ∈ fs, NoErr g) : ∀ g ∈ f :: fs, NoErr g := fun g hg => by
  rcases List.mem_cons.mp hg with rfl | hg
  · exact h
  · exact r g hg
def blkB (N : List Str) (sc scope : Scope) (own : List (Str × Nat)) : Bool :=
  decide (scope.kind = .function) && (scope.names.all (fun y => decide (scope.names.lookup y.1 = some y.2)) && (own.all (fun p => decide (N[p.2]? = some p.1)) &&
    (scope.names.all (fun y => !decide (y.2 = .free) || (decide (sc.names.lookup y.1 = some .cell) || decide (sc.names.lookup y.1 = some .free))) && scope.names.all (fun y => !(decide (y.2 = .local) || decide (y.2 = .cell)) || (decide (y.1 ∈ own.map (·.1)) || !decide (y.1 ∈ N))))))
theorem blk_of {N : List Str} {sc scope : Scope} {own : List (Str × Nat)} (h : blkB N sc scope own = true) : BlkOk N sc scope own := by
  unfold blkB at h
  simp only [Bool.and_eq_true, List.all_eq_true, decide_eq_true_eq, Bool.or_eq_true, Bool.not_eq_true', decide_eq_false_iff_not] at h
  obtain ⟨h1, h2, h3, h4, h5⟩ := h
  refine ⟨h1, h2, h3, fun y hy e => ?_, fun y hy e => ?_⟩
  · rcases h4 y hy with z | z
    · exact absurd e z
    · exact z
  · rcases h5 y hy with z | z
    · have : (decide (y.2 = .local) || decide (y.2 = .cell)) = true := by
        rcases e with e | e <;> simp [e]
      rw [this] at z
      cases z
    · exact z
section
variable {X : Cx} {EA : EAt} {W : WX} {a b : Expr} {ma mb : Env → Mo SV} {pos p : Pos}
abbrev gMin : Op2 := gI fun i j => some (.int (if j < i then j else i))
theorem de_min2 (hc : X.calm = true) (hm : X.mg "min" = none) (ha : DE X EA W a ma) (hb : DE X EA W b mb) (hg : Gl X "min" := by rfl) (he : starEach (a :: [b]) X.env = (false, eval a X.env) :: starEach [b] X.env := by rfl) (he2 : starEach (b :: []) X.env = (false, eval b X.env) :: starEach [] X.env := by rfl)
    (hpl : (backTo pos (starEach [b] X.env)).any (·.1) = false := by rfl) : DE X EA W (.Call (.Name "min" p) [a, b] [] pos) (mBin ma mb gMin) := by
  obtain ⟨ta, pa, sa⟩ := ha.ex
  obtain ⟨tb, pb, sb⟩ := hb.ex
  refine ⟨_, pe_callB (call_min2 hc) hg hm (by decide +kernel) (pa_cons pa (pa_cons pb pa_nil he2) he) (by decide) (by decide) he hpl, fun ι w σ H ρ Q R E h => ?_⟩
  refine two (R := fun x y H2 => ∃ i j, [x, y] = [V.int i, V.int j] ∧ Q (.int (if j < i then j else i)) H2) sa sb R E h fun ι2 w2 H2 vx vy x y s rx ry h2 => ?_
  obtain ⟨i, j, rfl, rfl, q⟩ := (os_I0 (K := X.K) (g := fun i j => V.int (if j < i then j else i)) (f := fun i j => some (.int (if j < i then j else i))) (fun i j d h _ _ => by cases h; exact Dt.int _)).run s.rel rx ry h2
  exact ⟨i, j, rfl, q⟩
end
/-- a class's name -/
structure NmX (K : PySem.W.Frag) (mg : Str → Option Value) (T : Str) (tab : List (Addr × Bool)) : Prop where
  ex : ∃ (v : V) (u : Value), RelV v u ∧ (∀ u', RelV v u' → u' = u) ∧ (mg T = some u ∨ (mg T = none ∧ bootBuiltins T = some u ∧ T ≠ "__name__"))  ∧ ∀ p ∈ tab, ExK K p.1 ∧ PySem.W.kitOne K (.ref p.1) u = some p.2
section
variable {X : Cx} {EA : EAt} {W : WX} {a : Expr} {ma : Env → Mo SV} {pos p : Pos}
theorem de_isN {T : Str} {q0 : Pos} {tab : List (Addr × Bool)} (hm : X.mg "isinstance" = none) (N : NmX X.K X.mg T tab) (ha : DE X EA W a ma) (hg : Gl X "isinstance" := by rfl) (hgT : Gl X T := by rfl) (hdT : (T == ("__debug__" : Str)) = false := by decide)
    (he : starEach (a :: [.Name T q0]) X.env = (false, eval a X.env) :: starEach [.Name T q0] X.env := by rfl) (he2 : starEach (.Name T q0 :: []) X.env = (false, eval (.Name T q0) X.env) :: starEach [] X.env := by rfl) (hpl : (backTo pos (starEach [.Name T q0] X.env)).any (·.1) = false := by rfl) :
    DE X EA W (.Call (.Name "isinstance" p) [a, .Name T q0] [] pos) (mUn ma (gIsE tab)) := by
  obtain ⟨v, u, r, hu, hv, ht⟩ := N.ex
  rcases hv with hv | ⟨h1, h2, h3⟩
  · exact de_isE hm (pe_glob hgT hv r hdT) hu ht ha hg he he2 hpl
  · exact de_isE hm (pe_bltn hgT h1 h2 r h3 hdT) hu ht ha hg he he2 hpl
end
/-- the built-in names that are still so -/
structure Zn (mg : Str → Option Value) : Prop where
  int : mg "int" = none
  len : mg "len" = none
  range : mg "range" = none
  enumerate : mg "enumerate" = none
  repr : mg "repr" = none
  isinstance : mg "isinstance" = none
  bool : mg "bool" = none
  str : mg "str" = none
  tuple : mg "tuple" = none
  list : mg "list" = none
  all : mg "all" = none
  zip : mg "zip" = none
  sorted : mg "sorted" = none
  min : mg "min" = none
abbrev vaE2 (P : Program) (w : World) (K : PySem.W.Frag) (mg : Str → Option Value) (base : Heap) (k : Nat) (x : Str) (C : Addr) (flds : List Str) : Prop := OwnE P w K mg base "ValueError" "ValueError.__new__" "ValueError.__init__" [.type "ValueError", .type "Exception", .type "BaseException", .type "object"] k x C flds
/-- a global int -/
structure IntN (mg : Str → Option Value) (x : Str) (i : Int) : Prop where
  ex : ∃ u, mg x = some u ∧ RelV (.int i) u
theorem d_intN {X : Cx} {EA : EAt} {W : WX} {x : Str} {i : Int} {pos : Pos} (I : IntN X.mg x i) (hg : Gl X x := by rfl) (hdb : (x == ("__debug__" : Str)) = false := by decide) : DE X EA W (.Name x pos) (mC (.int i)) := by
  obtain ⟨u, h1, h2⟩ := I.ex
  exact d_glob h1 h2 (fun M H => Dt.int i) hg hdb
/-- an own exception class that is raised, by its name -/
structure OwnR (P : Program) (w : World) (K : PySem.W.Frag) (mg : Str → Option Value) (base : Heap) (k : Nat) (x : Str) (C : Addr) (flds : List Str) : Prop where
  e : vaE2 P w K mg base k x C flds
  sub : PySem.W.subIn K (.ref C) (.type "BaseException") = some true
  ty : PySem.W.typeIn K (.ref C) = some (.type "type")
theorem ds_raiseO {X : Cx} {W : WX} {e : Expr} {es : List Expr} {ml : Env → Mo (List SV)} {x : Str} {p pos pos2 : Pos} {C : Addr} {k : Nat} {flds : List Str} (tk : Takes X W) (O : OwnR X.prog X.w X.K X.mg X.base k x C flds) (hg : X.A.guards = some []) (hr : Room (k + 1) X.A) (ha : DA X (EAx X.K) W (e :: es) ml)
    (hc : X.calm = true := by rfl) (hz : flds.length ≤ 1000 := by decide) (hgl : Gl X x := by rfl) (hdb : (x == ("__debug__" : Str)) = false := by decide)
    (he : starEach (e :: es) X.env = (false, eval e X.env) :: starEach es X.env := by rfl) (hpl : (backTo pos (starEach es X.env)).any (·.1) = false := by rfl) :
    DS X (EAx X.K) W (.Raise (some (.Call (.Name x p) (e :: es) [] pos)) none pos2) (mRaise C flds ml) := by
  obtain ⟨fI, fd, ps, iC, tI, F1, hb, _⟩ := O.e.ex
  exact ds_raise hc tk O.e.T iC tI O.sub O.ty F1 hg hr hb O.e.mgx ha hz hgl hdb he hpl
/-- x = y = e -/
def mAsg2 (i j : Nat) (m : Env → Mo SV) : Env → Mo Out := fun ρ => mBind (m ρ) fun v => mPure (.nx ((ρ.set i (some v)).set j (some v)))
theorem ds_asg2 {X : Cx} {EA : EAt} {W : WX} {e : Expr} {m : Env → Mo SV} {pos px py : Pos} {i j : Nat} {x y : Str} (hN : X.N.Nodup) (he : DE X EA W e m) (hi : X.N[i]? = some x := by rfl) (hx : Loc X.env.scope x := by first | exact Or.inl rfl | exact Or.inr rfl)
    (hj : X.N[j]? = some y := by rfl) (hy : Loc X.env.scope y := by first | exact Or.inl rfl | exact Or.inr rfl)
    (hf : X.fn x = true ∨ X.env.scope.names.lookup x = some .local := by first | exact .inl rfl | exact .inr rfl | assumption) (hf' : X.fn y = true ∨ X.env.scope.names.lookup y = some .local := by first | exact .inl rfl | exact .inr rfl | assumption)
    (ha : (assignEach [.Name x px, .Name y py] X.env).map (·.2) = [assign (.Name x px) X.env, assign (.Name y py) X.env] := by rfl) (hw : swappedStores [.Name x px, .Name y py] e X.env = pure none := by rfl) :
    DS X EA W (.Assign [.Name x px, .Name y py] e pos) (mAsg2 i j m) := by
  obtain ⟨t, p, s⟩ := he.ex
  refine ⟨_, ps_asg2 p (pg_name hN hi hx hf) (pg_name hN hj hy hf') ha hw, fun ι w σ H ρ D R E h => ?_⟩
  exact s ι w σ H ρ _ R E ((Hyp.bind (h.wE σ)).imp fun v ι1 w1 H1 s1 h1 V rv => Hyp.pure h1 s1.rel _ (((E.stp s1).set rv).set rv))
/-- recursion: so many calls deep -/
def recG (N : List Str) (m : Fn → Env → Mo Out) : Nat → Fn
  | 0 => fun _ => mFail
  | n + 1 => mDef N (m (recG N m n))
theorem OwnF.fail {P : Program} {w : World} {K : PySem.W.Frag} {mg : Str → Option Value} {base : Heap} {EA : EAt} {k : Nat} {x : Str} {n : Nat} {f : Addr} {fd : FuncData} {ps : List Str} (h1 : mg x = some (.ref f)) (h2 : PySem.W.keepIn K (.ref f) = true) (h3 : Binds K fd ps []) : OwnF P w K mg base EA k x n (fun _ => mFail) :=
  ⟨f, fd, ps, FnG.none fun vs H Q E ⟨ι, w, xs, _, _, _, h⟩ => h.elim, h1, h2, h3⟩
/-- .. each call one level up -/
theorem rec_own {P : Program} {w : World} {K : PySem.W.Frag} {mg : Str → Option Value} {base : Heap} {EA : EAt} {x : Str} {n k0 : Nat} {f : Addr} {fd : FuncData} {ps N : List Str} {m : Fn → Env → Mo Out} (h1 : mg x = some (.ref f)) (h2 : PySem.W.keepIn K (.ref f) = true) (h3 : Binds K fd ps [])
    (st : ∀ (k : Nat) (gr : Fn), OwnF P w K mg base EA (k0 + k) x n gr → FnG P w K mg base (k0 + k + 1) f fd ps (spD n K EA (mDef N (m gr)))) : ∀ k, OwnF P w K mg base EA (k0 + k) x n (recG N m k)
  | 0 => OwnF.fail h1 h2 h3
  | k + 1 => ⟨f, fd, ps, st k _ (rec_own h1 h2 h3 st k), h1, h2, h3⟩
end EG


set_option Elab.async false
set_option linter.all false
set_option maxRecDepth 100000
set_option maxHeartbeats 1000000
namespace EG
open PySem PySem.Spec PyProof.Rows L2
/-! ### try: .. except (C, D) as e: caught = e -/
theorem fly_more {B g1 g2 : Heap} {l : List PySem.Env} {a : Addr} {Z : Obj → Prop} (x : HandSPX.FlyingZ B l a Z g1) (k : ∀ b o, g1.get? b = some o → g2.get? b = some o) : HandSPX.FlyingZ B l a Z g2 := by
  obtain ⟨x1, x2, x3, oe, vs, T, oT, ts, y1, y2, y3, y4, y5, y6, y7, y8⟩ := x
  exact ⟨fun b o e => k b o (x1 b o e), x2, Heap.FunFrames.of_keeps (fun b o e _ => ⟨o, k b o e, rfl⟩) x3, oe, vs, T, oT, ts, k _ _ y1, y2, y3, y4, y5, y6, k _ _ y7, y8⟩
section
variable {X : Cx} {pins : List (Addr × Obj)} {σ : L2.St} {H : Hp} {s : Shared}
/-- a caught exception is tracked from now on -/
theorem track {a C dx : Addr} {oe : Obj} {vs : Array Value} (I : Inv X ((a, oe) :: pins) σ H s) (new : X.s_0.heap.get? a = none) (np : ∀ p ∈ X.pn ++ pins, p.1 ≠ a) (hc : oe.cls = .ref C) (hd : oe.dict = some dx) (hv : oe.data = .fields vs) :
    Inv X pins σ (upd H a (exw a C dx)) s := by
  obtain ⟨oa, na, nl, nf, nc⟩ := I.pin (a, oe) (List.mem_append_right _ List.mem_cons_self)
  have oa : s.heap.get? a = some oe := oa
  have na : H a = none := na
  have up : ∀ {b : Addr} {u : HO}, H b = some u → upd H a (exw a C dx) b = some u := fun {b u} e => by rw [upd_ne (ne_of_none e na)]; exact e
  refine ⟨I.ok, I.os, I.bare, ⟨I.base.keep, I.base.slot, fun b o e n x => ?_, I.base.there, fun b xs e => up (I.base.tups b xs e), fun b o u e => up (I.base.frzs b o u e), fun b ps e => ?_⟩, I.loc, I.cell, by rw [upd_ne (Ne.symm nl)]; exact I.free, fun y c e => ?_, fun p hp => ?_, fun b u e => ?_, I.len⟩
  · have nb : b ≠ a := fun z => by rw [z, new] at e; cases e
    rw [upd_ne nb]
    exact I.base.free b o e n x
  · obtain ⟨more, e'⟩ := I.base.tbls b ps e
    exact ⟨more, up e'⟩
  · have nb : c ≠ a := fun z => by
      obtain ⟨v, o, ho, hdv⟩ := I.cell y c e
      rw [z, oa] at ho
      cases ho
      exact nc v hdv
    rw [upd_ne nb]
    exact I.freeC y c e
  · obtain ⟨e1, e2, e3, e4, e5⟩ := I.pin p (by
      rcases List.mem_append.mp hp with z | z
      · exact List.mem_append_left _ z
      · exact List.mem_append_right _ (List.mem_cons_of_mem _ z))
    exact ⟨e1, by rw [upd_ne (np p hp)]; exact e2, e3, e4, e5⟩
  · by_cases hb : b = a
    · subst hb
      rw [upd_same] at e
      cases e
      refine ⟨⟨oe, vs, oa, hc, hd, hv⟩, ⟨oe, oa⟩, fun g1 g2 z k => ?_⟩
      obtain ⟨oe', vs', z1, z2⟩ := z
      exact ⟨oe', vs', k _ z1, z2⟩
    · rw [upd_ne hb] at e
      exact (I.hok b u e).stay (fun _ _ _ q => q) (fun _ q => up q) fun _ _ q => up q
def wKeep (K : PySem.W.Frag) (cs : List Value) (i : Nat) (ts : TS) (D : Ends) : WX := fun cls d σ H => ∃ C dx, cls = .ref C ∧ d = some dx ∧ PySem.W.exmAny K cls cs = some true ∧
  ∀ a, H a = none → ts { nx := fun σ' H' => H' a = none → D.nx (σ'.set i none) (upd H' a (exw a C dx)), rt := fun _ _ => False, bk := fun _ _ => False, ct := fun _ _ => False } (σ.set i (some (.ref a))) H
end
section
variable {X : Cx} {x1 x2 n : Str} {c1 c2 : Value} {i kk : Nat} {body suite : List Stmt} {st : Stmt} {q1 q2 q3 pos' pos : Pos} {tb : WX → TS} {ts : TS}
theorem ld_names {pins : List (Addr × Obj)} {σ : L2.St} {H : Hp} {s : Shared} {x : Str} {c : Value} {E : Value → Shared → Prop} {Q : Value → Shared → Prop} (N : Names X x c) (I : Inv X pins σ H s) (q : Q c s) (p : Pos) : wpAny (model X.prog X.w) X.A (eval (.Name x p) X.env) Q E s := by
  obtain ⟨h1, h2, h3 | ⟨h3, h4, h5⟩⟩ := N
  · exact ld_glob I h1 h3 q h2
  · exact ld_blt I h1 h3 h4 q h5 h2
theorem ps_try_keep (hs : X.stack = X.env :: X.outer) (hf : X.env.frame = some X.env.locals) (hex : X.ex = []) (hN : X.N.Nodup) (hi : X.N[i]? = some n) (hl : X.env.kindOf n = some .local) (n1 : Names X x1 c1) (n2 : Names X x2 c2)
    (hb : ∀ (W : WX) (pn : List (Addr × Obj)) (xe : Value → Shared → Prop), Takes (X.tr pn xe) W → PSs (X.tr pn xe) body (tb W)) (hsu : ∀ (a : Addr) (pn : List (Addr × Obj)), PSs (X.suite a pn) (st :: suite) ts) :
    PS X (.Try body [.ExceptHandler (some (.Tuple [.Name x1 q1, .Name x2 q2] kk q3)) (some n) (st :: suite) pos'] [] [] pos) (fun D σ H => tb (wKeep X.K [c1, c2] i ts D) D σ H) := by
  refine ⟨fun pins s σ H D I h => ?_⟩
  obtain ⟨ok, eok⟩ : ∃ ok : X.Ok, ok = I.ok := ⟨_, rfl⟩
  have frm : X.A.frames = some (X.env :: X.outer) := by rw [ok.frames, hs]
  refine wpAny_Try_except (wpAny_mono ((hb (wKeep X.K [c1, c2] i ts D) (X.pn ++ pins) (fun e z1 => wpAny (model X.prog X.w) X.A (noteFrame e X.env) (fun _ z2 => wpAny (model X.prog X.w) X.A (setFlight e none) (fun _ z3 =>
    wpAny (model X.prog X.w) X.A (handleBy e X.env [.ExceptHandler (some (.Tuple [.Name x1 q1, .Name x2 q2] kk q3)) (some n) (st :: suite) pos']) (SP X pins D) X.xe z3) X.xe z2) X.xe z1) (fun u z xx => ?_)).run [] s σ H D (I.toTry _) h) (fun f z hz => ?_) fun _ _ he => he)
  · obtain ⟨a, B, sI, pins', σ1, H1, cls, d, rfl, J0, stay, up, sky, na, os, ag, C, dx, rfl, rfl, hm, hw⟩ := xx
    have J : Inv X pins σ1 H1 sI := J0.ofTry ok
    have sky1 : Sky B (X.env :: X.outer) a (Zc (.ref C) (some dx)) X.env.locals z.heap := by rw [← hs]; exact sky
    show wpAny (model X.prog X.w) X.A (noteFrame (.ref a) X.env) _ _ _
    refine Sky.land Zc.steady frm hf sky1 fun g fl up1 => ?_
    have J1 : Inv X pins σ1 H1 { z with heap := g } := J.landed stay fl.1 (up.trans up1) os ag
    obtain ⟨oe, vs, oa, oz, od⟩ := fl.there
    have notFrame : ∀ b ∈ frs (X.env :: X.outer), b ≠ a := fun b hb e => by
      obtain ⟨_, o, ho, hno⟩ := fl.2.2.1.mem hb
      rw [e, oa] at ho
      cases ho
      exact hno _ od
    have nl : a ≠ X.env.locals := fun e => notFrame X.env.locals (List.mem_filterMap.mpr ⟨X.env, List.mem_cons_self, hf⟩) e.symm
    have nf : a ∉ X.fs := fun hm => notFrame a (by
      obtain ⟨e, he, q⟩ := List.mem_filterMap.mp hm
      exact List.mem_filterMap.mpr ⟨e, List.mem_cons_of_mem _ he, q⟩) rfl
    have notFs : a ∉ frs X.stack := fun hm => notFrame a (by rw [← hs]; exact hm) rfl
    have notI : sI.heap.get? a = none := by
      cases e : sI.heap.get? a with
      | none => rfl
      | some o =>
        have q := stay a o e notFs
        rw [fl.2.1] at q
        cases q
    have new : X.s_0.heap.get? a = none := by
      cases e : X.s_0.heap.get? a with
      | none => rfl
      | some o =>
        obtain ⟨o', q⟩ := J.base.there a o e (by rw [hex]; simp)
        rw [notI] at q
        cases q
    have np : ∀ p ∈ X.pn ++ pins, p.1 ≠ a := fun p hp e => by
      have q := (J.pin p hp).1
      rw [e, notI] at q
      cases q
    have S1 := J1.suite oa od na nl nf
    refine wpAny_handleBy_cons (codeAny_handlers_test ?_) (by intro q; cases q)
    refine wpAny_Tuple (wpAny_items_cons (ld_names (X := X.suite a ((a, oe) :: (X.pn ++ pins))) n1 S1 ?_ q1))
    refine wpAny_items_cons (ld_names (X := X.suite a ((a, oe) :: (X.pn ++ pins))) n2 S1 ?_ q2)
    refine wpAny_items_nil ⟨by size_fits, ?_⟩
    have kp : ∀ b o, g.get? b = some o → (g.push { cls := .type "tuple", data := .seq [c1, c2].toArray }).get? b = some o := fun _ _ e => Heap.get?_push_of_some _ e
    have typ : PySem.W.Looks (model X.prog X.w) (g.push { cls := .type "tuple", data := .seq [c1, c2].toArray }) (typeOf (.ref a)) (.ref C) := fun A Q E s k q => wpAny_typeOf_ref (k _ _ (kp _ _ oa)) (by rw [oz.1]; exact q)
    refine (PySem.W.exm_tup2 (M := model X.prog X.w) (J1.kIn.keeps kp) typ (Heap.get?_push_size g rfl) hm).here ?_
    refine codeAny_handlers_suite_as (HandSPX.lands_againZ (fly_more fl kp) fun g2 fl2 up2 => ?_)
    have J2 : Inv X pins σ1 H1 { z with heap := g2 } := J.landed stay fl2.1 ((up.trans up1).trans ((Heap.UpToSlots.of_keeps kp).trans up2)) os ag
    obtain ⟨oe2, vs2, oa2, oz2, od2⟩ := fl2.there
    have S2 := J2.suite oa2 od2 na nl nf
    refine store_ok (X := X.suite a ((a, oe2) :: (X.pn ++ pins))) (v := .ref a) S2 hN hi (.inl hl) rfl (fun z5 S5 => ?_) (.inr hl)
    refine wpAny_mono ((hsu a ((a, oe2) :: (X.pn ++ pins))).run [] z5 _ H1 _ S5 (hw a na)) (fun f z6 hz6 => ?_) (fun _ _ e => False.elim e)
    cases f with
    | next =>
      obtain ⟨σ6, H6, S6, q6⟩ := hz6
      have P6 : Inv X ((a, oe2) :: pins) σ6 H6 z6 := (S6.unsuite (q := (a, oe2)) ok).pins_of fun p hp => by
        rcases List.mem_cons.mp hp with e | e
        · rw [e]
          exact S6.pin (a, oe2) (List.mem_append_left _ List.mem_cons_self)
        · exact S6.pin p (List.mem_append_left _ (List.mem_cons_of_mem _ (List.mem_append_right _ e)))
      have na6 : H6 a = none := (P6.pin (a, oe2) (List.mem_append_right _ List.mem_cons_self)).2.1
      exact gone_ok P6 hN hi hl fun z7 J7 => ⟨_, _, track J7 new np oz2.1 oz2.2 od2, q6 na6⟩
    | ret u => exact hz6.elim fun _ e => e.elim fun _ e => e.elim fun _ e => e.2.2.elim
    | brk => exact hz6.elim fun _ e => e.elim fun _ e => e.2.elim
    | cont => exact hz6.elim fun _ e => e.elim fun _ e => e.2.elim
  · cases f with
    | next =>
      obtain ⟨σ2, H2, J2, q⟩ := hz
      exact wpAny_execs_nil ⟨σ2, H2, J2.ofTry ok, q⟩
    | ret u =>
      obtain ⟨v, σ2, H2, J2, r, q⟩ := hz
      exact ⟨v, σ2, H2, J2.ofTry ok, r, q⟩
    | brk =>
      obtain ⟨σ2, H2, J2, q⟩ := hz
      exact ⟨σ2, H2, J2.ofTry ok, q⟩
    | cont =>
      obtain ⟨σ2, H2, J2, q⟩ := hz
      exact ⟨σ2, H2, J2.ofTry ok, q⟩
end
end EG


set_option Elab.async false
set_option linter.all false
set_option maxRecDepth 100000
set_option maxHeartbeats 1000000
namespace EG
open PySem PySem.Spec PyProof.Rows L2
/-! ### a lambda without parameters, handed to a def that calls it in a try -/
section
variable {X : Cx} {pins : List (Addr × Obj)} {σ : L2.St} {H : Hp} {s : Shared}
theorem lam_make {c P : Addr} {params : Arguments} {body : Expr} {scope : Scope} {pos : Pos} {E Q : Value → Shared → Prop} (I : Inv X pins σ H s) (TB : LamX.TabB X.base X.mg c P) (hcode : X.env.code = .ref c) (hT : LamX.TabS H P (X.env.qual ++ "<lambda>")) (hd : defaultsOf params X.env = ([], []))
    (hf : ∀ y ∈ scope.names, y.2 = .free → ∃ c, X.env.cells.lookup y.1 = some c)
    (k : ∀ (f d : Addr) (pm ct : Value) (G : Hp) (z : Shared), Inv X pins σ G z → (∀ b o, b ≠ P → H b = some o → G b = some o) → LamX.TabS G P (X.env.qual ++ "<lambda>") →
      z.heap.get? f = some (PySem.W.kla_obj "<lambda>" (X.env.qual ++ "<lambda>") params body scope (cloFrom X.env.cells scope.names []) pm d ct) → G f = none → f ∉ frs X.stack → G d = some (LamX.CodeO d (X.env.qual ++ "<lambda>")) → Q (.ref f) z) :
    wpAny (model X.prog X.w) X.A (eval (.Lambda params body scope pos) X.env) Q E s := by
  obtain ⟨ps, eP, tri, old⟩ := hT
  have oP : s.heap.get? P = some { cls := .none, data := .fields ps } := I.hok P _ eP
  have far : ∀ f, s.heap.objs.size ≤ f → f ∉ frs X.stack := fun f hf hm => by
    rcases List.mem_cons.mp (I.stkSub _ hm) with e | e
    · exact absurd (Nat.lt_of_lt_of_le (by rw [e]; exact I.lt) hf) (Nat.lt_irrefl _)
    · exact I.nofs hf e
  refine PySem.W.kla_eval hd ?_
  cases hit : codeAmong pos ps.toList with
  | some cv =>
    obtain ⟨d, rfl, ed⟩ := old pos cv hit
    refine PySem.W.kla_makeFunctionHit (mg := X.mg) (c := c) (P := P) (ps := ps) (closure_ok hf) I.ok.glob (I.mod.glob.keeps I.bk) hcode (TB.code.keeps I.bk) oP tri hit (TB.bm.keeps I.bk) fun ct g tk hx hz => ?_
    exact k _ d ((X.mg "__name__").getD .none) ct H _ (I.kept (t' := tk) fun b o e => Heap.get?_push_of_some _ (hx b o e)) (fun _ _ _ e => e) ⟨ps, eP, tri, old⟩ (Heap.get?_push_size _ rfl) (I.hok.fresh hz) (far _ hz) ed
  | none =>
    refine PySem.W.kla_makeFunction (mg := X.mg) (c := c) (P := P) (ps := ps) (closure_ok hf) I.ok.glob (I.mod.glob.keeps I.bk) hcode (TB.code.keeps I.bk) oP tri hit TB.gP (TB.bm.keeps I.bk) fun d ct g tk hx ge lt rc tb => ?_
    obtain ⟨_, oc, vs, t, rfl', oo, od, ov⟩ := rc
    cases rfl'
    have nd : H d = none := I.hok.fresh ge
    have sz : s.heap.objs.size ≤ g.objs.size := Nat.le_trans ge (Nat.le_of_lt lt)
    have J := LamX.inv_table (t' := tk) (q := X.env.qual ++ "<lambda>") (more := #[rawInt pos.line, rawInt pos.col, .ref d]) (h' := g.push (PySem.W.kla_obj "<lambda>" (X.env.qual ++ "<lambda>") params body scope (cloFrom X.env.cells scope.names []) ((X.mg "__name__").getD .none) d ct)) I eP
      (fun b o hb e => Heap.get?_push_of_some _ (hx b o hb e)) (Heap.get?_push_of_some _ tb) ge ⟨oc, vs, t, Heap.get?_push_of_some _ oo, od, ov⟩
    have kept : ∀ b o, b ≠ P → H b = some o → upd (upd H P (.tbl (ps ++ #[rawInt pos.line, rawInt pos.col, .ref d]))) d (LamX.CodeO d (X.env.qual ++ "<lambda>")) b = some o := fun b o hb e => by
      rw [upd_ne (ne_of_none e nd), upd_ne hb]
      exact e
    refine k g.objs.size d ((X.mg "__name__").getD .none) ct _ _ J kept ⟨_, by rw [upd_ne (ne_of_none eP nd), upd_same], by simpa using PySem.TriplesOk_snoc _ _ _ _ tri, fun p' cv hcv => ?_⟩ (Heap.get?_push_size _ rfl) ?_ (far _ sz) upd_same
    · have hcv : codeAmong p' (ps.toList ++ [rawInt pos.line, rawInt pos.col, .ref d]) = some cv := by simpa using hcv
      rcases LamX.among_app _ tri hcv with z | z
      · obtain ⟨d0, e1, e2⟩ := old p' cv z
        exact ⟨d0, e1, kept _ _ (fun y => by rw [y, eP] at e2; exact LamX.codeO_ne _ (Option.some.inj e2).symm) e2⟩
      · exact ⟨d, z, upd_same⟩
    · rw [upd_ne (Nat.ne_of_gt lt), upd_ne (Nat.ne_of_gt (Nat.lt_of_lt_of_le (Heap.lt_size oP) sz))]
      exact I.hok.fresh sz
/-- the lambda is called, in the try of the def that got it -/
theorem lam_act {Ng : List Str} {qg a : Str} {sg : Scope} {g f d : Addr} {cdg pm ct : Value} {params : Arguments} {body : Expr} {scope : Scope} {k i : Nat} {pn : List (Addr × Obj)} {xe : Value → Shared → Prop} {Eg : XK} {W : WX} {tb : XK → TE} {p1 p2 : Pos}
    (I : Inv X pins σ H s) (L : LamX.LamS X.env.scope scope) (hf : s.heap.get? f = some (PySem.W.kla_obj "<lambda>" (X.env.qual ++ "<lambda>") params body scope (cloFrom X.env.cells scope.names []) pm d ct)) (fn : H f = none) (fr : f ∉ frs X.stack)
    (hb : bindArgs (PySem.W.kla_fn "<lambda>" (X.env.qual ++ "<lambda>") params body scope (cloFrom X.env.cells scope.names []) pm (.ref d) ct) ⟨[], []⟩ = pure [])
    (tk : Takes ((cxOf (L2.CX X.prog X.w) X.prog X.w X.K X.mg X.base Ng qg sg g cdg X.A X.stack s H Eg).tr pn xe) W) (hg : X.A.guards = some []) (hr : Room (k + 1) (X.A.deeper (envOfC qg sg s.heap.objs.size g cdg)))
    (hbody : ∀ (A : Around) (outer : List PySem.Env) (s : Shared) (H : Hp) (E : XK), A.guards = some [] → Room k (A.deeper (LamX.lamEnv X scope s.heap.objs.size f d)) → PE (LamX.lamCx X A outer s H E scope f d) body (tb E))
    (hN : Ng[i]? = some a) (hv : Vis sg a) (h1 : (a == ("__debug__" : Str)) = false := by decide) (h2 : (a == ("__classdict__" : Str)) = false := by decide) :
    PE ((cxOf (L2.CX X.prog X.w) X.prog X.w X.K X.mg X.base Ng qg sg g cdg X.A X.stack s H Eg).tr pn xe) (.Call (.Name a p1) [] [] p2)
      (fun σZ HZ Q => σZ[i]? = some (some (.ref f)) ∧ HZ d = some (LamX.CodeO d (X.env.qual ++ "<lambda>")) ∧ tb (fun cls dx H' => W cls dx σZ H') σ HZ Q) := by
  refine ⟨fun pinsZ z σZ HZ Q IZ ⟨g1, g2, g3⟩ => ?_⟩
  refine wpAny_Call_Name_kw (thn ((pe_var (pos := p1) (i := i) hN hv h1 h2).run pinsZ z σZ HZ (fun v G => v = .ref f ∧ G = HZ) IZ ⟨.ref f, g1, rfl, rfl⟩) fun u z1 ⟨v, G, J, r, e1, e2⟩ => ?_)
  rw [e1] at r
  rw [e2] at J
  obtain rfl : u = Value.ref f := r
  have of : z1.heap.get? f = some (PySem.W.kla_obj "<lambda>" (X.env.qual ++ "<lambda>") params body scope (cloFrom X.env.cells scope.names []) pm d ct) := J.base.keep f _ hf fn fr (fun y => nomatch (show f ∈ ([] : List Addr) from y))
  refine PySem.W.callWith_F0 ⟨_, _, _, _, of⟩ (wpAny_call ?_)
  obtain ⟨⟨oc, vs, t, o1, o2, o3⟩, _, _⟩ := J.hok d _ g2
  have run : codeAny (model X.prog X.w) (X.A.deeper (envOfC qg sg s.heap.objs.size g cdg)) (.call (.ref f) ⟨[], []⟩) (CR (L2.CX X.prog X.w) (envOfC qg sg s.heap.objs.size g cdg :: X.stack) X.prog X.w HZ z1 Q (fun cls dx H' => W cls dx σZ H')) z1 := by
    refine PySem.W.kla_callFunE hr.depth of rfl L.co L.gen rfl ⟨d, oc, vs, t, rfl, o1, o2, o3⟩ ?_
    rw [hb]
    refine wpAny_pure (wpAny_newFunctionEnv (fun y hy => (L.own y hy).2) (fun y hy => absurd hy (by simp)) (fun gg ns bl => ⟨J.nolimit.fresh _ bl, ?_⟩) L.kind)
    have kp : ∀ b o, z1.heap.get? b = some o → gg.get? b = some o := fun b o e => bl.extBut b o (Nat.ne_of_lt (Heap.lt_size e)) (Heap.get?_push_of_some _ e)
    have JJ := LamX.lam_start2 (tk := z1.toks + ([] : List (Str × Value)).length) (A := X.A.deeper (envOfC qg sg s.heap.objs.size g cdg)) (outer := envOfC qg sg s.heap.objs.size g cdg :: X.stack) (E := fun cls dx H' => W cls dx σZ H') (scope := scope) (f := f) (c' := d) I L J.env0 hr.hd J.base ns kp
    refine PySem.W.kla_codeExpr (wpAny_mono ((hbody (X.A.deeper (envOfC qg sg s.heap.objs.size g cdg)) _ z1 HZ _ hg (hr.deeper _)).run [] _ _ HZ Q JJ g3) (fun v z2 hq => ?_) fun _ _ hq => hq)
    obtain ⟨v', G', J', rv, q⟩ := hq
    exact ⟨v', G', J'.os, J'.bare, J'.base, J'.hok, rv, q⟩
  refine codeAny_mono run fun r z2 hq => ?_
  match r, hq with
  | .error e, hq => exact tk e z2 (XE.of_call J (fun _ _ _ y => y) hq)
  | .ok (.ret u), hq => exact J.after hq
end
end EG


set_option Elab.async false
set_option linter.all false
set_option maxRecDepth 100000
set_option maxHeartbeats 1000000
namespace EG
open PySem PySem.Spec PyProof.Rows L2
/-! ### f(lambda: e), where f tries the call and keeps what was raised -/
def unpair : PyData → Option (Str × PyData)
  | .tuple [.str f, d] => some (f, d)
  | _ => none
def unpairs : List PyData → Option (List (Str × PyData))
  | [] => some []
  | d :: r => match unpair d, unpairs r with
    | some p, some q => some (p :: q)
    | _, _ => none
theorem unpairs_map : ∀ fs : List (Str × PyData), unpairs (fs.map pairD) = some fs
  | [] => rfl
  | p :: r => by
    show (match unpair (pairD p), unpairs (r.map pairD) with
      | some p, some q => some (p :: q)
      | _, _ => none) = _
    rw [unpairs_map r]
    rfl
/-- what comes back is plain data -/
def endR (n : Nat) : Option (Res Out × Sto) → Option (Res SV × Sto)
  | some (.ok (.rt (.dat d)), w') => some (.ok (.dat d), w'.take n)
  | _ => none
def isTab (w : Sto) (n0 : Nat) (P : Addr) (q : Str) : Bool := match w[n0]? with
  | some (.tab P' q') => decide (P' = P ∧ q' = q)
  | _ => false
theorem isTab_of {w : Sto} {n0 : Nat} {P : Addr} {q : Str} (h : isTab w n0 P q = true) : w[n0]? = some (.tab P q) := by
  unfold isTab at h
  cases e : w[n0]? with
  | none => rw [e] at h; cases h
  | some o =>
    rw [e] at h
    cases o with
    | tab P' q' =>
      obtain ⟨rfl, rfl⟩ := of_decide_eq_true (show decide (P' = P ∧ q' = q) = true from h)
      rfl
    | _ => cases h
def mTry (cs : List Addr) (P : Addr) (n0 : Nat) (q : Str) (ρ1 : Env) (j : Nat) (m : Env → Mo SV) (mR : Env → Mo Out) : Env → Mo SV := fun ρ w =>
  if isTab w n0 P q = true then match m ρ w with
    | some (.err C fs, w1) => if C ∈ cs then match unpairs fs with
        | some l => endR w.length (mR (ρ1.set j (some (.exc (C, l)))) w1)
        | none => none
      else none
    | _ => none
  else none
/-- an expression's reading by what the mirror tells -/
def tSem (K : PySem.W.Frag) (EA : EAt) (W : WX) (m : Env → Mo SV) : TE := fun σ H Q => ∃ ι w ρ, SRel K ι w H ∧ EnvR K ι (mz ι w) H σ ρ ∧ Hyp K EA ι w H (m ρ w) (fun v ι' w' H' => ∀ V, VRel K ι' (mz ι' w') H' V v → Q V H') (fun cls d H' => W cls d σ H')
theorem DE.sem {X : Cx} {EA : EAt} {W : WX} {e : Expr} {m : Env → Mo SV} (h : DE X EA W e m) : PE X e (tSem X.K EA W m) := by
  obtain ⟨t, p, z⟩ := h.ex
  refine ⟨fun pins s σ H Q I ⟨ι, w, ρ, R, E, hy⟩ => p.run pins s σ H Q I (z ι w σ H ρ Q R E hy)⟩
theorem EnvR.hole {K : PySem.W.Frag} {ι : List (List Addr)} {M : List Addr} {H : Hp} {σ : L2.St} {ρ : Env} {i : Nat} {V : Option V} (e : EnvR K ι M H σ ρ) (h : ∀ v, ρ[i]? ≠ some (some v)) : EnvR K ι M H (σ.set i V) ρ := by
  refine ⟨by simp [e.1], fun j x hj => ?_⟩
  by_cases hij : i = j
  · subst hij
    exact absurd hj (h x)
  · rw [List.getElem?_set_ne hij]
    exact e.2 j x hj
/-- what lies in the store's own objects is no code object -/
theorem SRel.kind {K : PySem.W.Frag} {ι : List (List Addr)} {w : Sto} {H : Hp} (R : SRel K ι w H) {b : Addr} (hb : b ∈ mz ι w) : ∃ u, H b = some u ∧ ∀ φ, u ≠ .ext φ := by
  obtain ⟨n, l, o, h1, h2, h3⟩ := of_mz hb
  have q := R.ok n l o h1 h2
  cases o with
  | lst ds =>
    obtain ⟨a, vs, rfl, e, _⟩ := q
    have : b = a := by simpa [footOf] using h3
    subst this
    exact ⟨_, e, fun φ z => nomatch z⟩
  | dic ds =>
    obtain ⟨a, vs, rfl, e, _⟩ := q
    have : b = a := by simpa [footOf] using h3
    subst this
    exact ⟨_, e, fun φ z => nomatch z⟩
  | draw cs gs n =>
    obtain ⟨a, b', c, rfl, e1, _, e3⟩ := q
    have : b = a ∨ b = c := by simpa [footOf] using h3
    rcases this with rfl | rfl
    · exact ⟨_, e1, fun φ z => nomatch z⟩
    · exact ⟨_, e3, fun φ z => nomatch z⟩
  | tab a q' =>
    obtain ⟨ps, rfl, e, _⟩ := q
    have : b = a := by simpa [footOf] using h3
    subst this
    exact ⟨_, e, fun φ z => nomatch z⟩
  | dead => exact absurd (show b ∈ ([] : List Addr) from h3) (by simp)
theorem SRel.tabS {K : PySem.W.Frag} {ι : List (List Addr)} {w : Sto} {H : Hp} {n0 : Nat} {P : Addr} {q : Str} (R : SRel K ι w H) (h : w[n0]? = some (.tab P q)) : ι[n0]? = some [P] ∧ LamX.TabS H P q := by
  obtain ⟨l, hl⟩ : ∃ l, ι[n0]? = some l := by
    have z : n0 < ι.length := by rw [R.len]; exact (List.getElem?_eq_some_iff.mp h).1
    exact ⟨_, List.getElem?_eq_getElem z⟩
  obtain ⟨ps, rfl, e, t, k⟩ := R.ok n0 l _ hl h
  refine ⟨hl, ps, e, t, fun pos cv hc => ?_⟩
  obtain ⟨c, e1, e2, _⟩ := k pos cv hc
  exact ⟨c, e1, e2⟩
/-- the table has grown -/
theorem Stp.tab {K : PySem.W.Frag} {ι : List (List Addr)} {w : Sto} {H G : Hp} {n0 : Nat} {P : Addr} {q : Str} (R : SRel K ι w H) (h : w[n0]? = some (.tab P q)) (k : ∀ b o, b ≠ P → H b = some o → G b = some o) (t : LamX.TabS G P q) : Stp K ι w H ι w G := by
  obtain ⟨hl, _⟩ := R.tabS h
  have ew : w.set n0 (.tab P q) = w := by
    refine List.ext_getElem? fun m => ?_
    by_cases hm : n0 = m
    · subst hm
      rw [List.getElem?_set_self (List.getElem?_eq_some_iff.mp h).1, h]
    · rw [List.getElem?_set_ne hm]
  obtain ⟨ps, eP, tri, cod⟩ := t
  have s := Stp.write (H1 := G) (u := .tab P q) R hl h rfl (fun b x nb e => k b x (fun z => nb (by rw [z]; exact List.mem_cons_self)) e) (fun _ _ _ => .inr True.intro) ⟨ps, rfl, eP, tri, fun pos cv hc => by
    obtain ⟨c, e1, e2⟩ := cod pos cv hc
    refine ⟨c, e1, e2, fun z => ?_⟩
    by_cases hc : c = P
    · rw [hc, eP] at e2
      exact LamX.codeO_ne _ (Option.some.inj e2).symm
    · obtain ⟨u, e3, no⟩ := R.kind z
      have e4 := k c u hc e3
      rw [e2] at e4
      exact no _ (Option.some.inj e4).symm⟩
  rwa [ew] at s
section
variable {X : Cx} {W : WX} {x a fo cv er x1 x2 : Str} {g c P : Addr} {c1 c2 : Value} {k n0 i1 i2 i3 kk k1 k2 j1 j2 : Nat} {st : Stmt} {fd : FuncData} {Ng : List Str} {ps : Arguments} {bd : Expr} {sc : Scope} {m : Env → Mo SV} {mR : Env → Mo Out} {rest : List Stmt} {cs : List Addr}
  {p lp pos p1 p2 p3 p4 p5 p6 p7 p8 p9 q1 q2 q3 r1 r2 r3 r4 r5 u1 u2 : Pos}
def headE (n i1 i2 : Nat) : Env := ((List.replicate n none).set i1 (some (.dat .none))).set i2 (some (.dat .none))
theorem de_told (hg : X.A.guards = some []) (hr : Room (k + 2) X.A) (F : Fun X.K x x st g fd) (S : FnScope Ng [a] (defScope st)) (hm : X.mg x = some (.ref g)) (hk : PySem.W.keepIn X.K (.ref g) = true) (hb : L2.Binds X.K fd [a] []) (TB : LamX.TabB X.base X.mg c P) (hcode : X.env.code = .ref c)
    (L : LamX.LamS X.env.scope sc) (hdef : defaultsOf ps X.env = ([], [])) (hbind : ∀ (q : Str) (cl : List (Str × Addr)) (pm cv ctv : Value), bindArgs (PySem.W.kla_fn "<lambda>" q ps bd sc cl pm cv ctv) ⟨[], []⟩ = pure [])
    (hbody : ∀ (f d : Addr) (A : Around) (outer : List PySem.Env) (s : Shared) (H : Hp) (E : XK), A.guards = some [] → Room k (A.deeper (LamX.lamEnv X sc s.heap.objs.size f d)) → DE (LamX.lamCx X A outer s H E sc f d) (EAx X.K) (fun cls dx _ H => E cls dx H) bd m)
    (hst : defBody st = .Assign [.Tuple [.Name fo p1, .Name cv p2] k1 p3] (.Tuple [.Constant .none j1 u1, .Constant .none j2 u2] k2 p4) p5 :: .Try [.Assign [.Name fo p6] (.Call (.Name a p7) [] [] p8) p9] [.ExceptHandler (some (.Tuple [.Name x1 q1, .Name x2 q2] kk q3)) (some er) [.Assign [.Name cv r1] (.Name er r2) r3] r4] [] [] r5 :: rest)
    (n1 : X.mg x1 = some c1 ∨ (X.mg x1 = none ∧ bootBuiltins x1 = some c1 ∧ x1 ≠ "__name__")) (n2 : X.mg x2 = some c2 ∨ (X.mg x2 = none ∧ bootBuiltins x2 = some c2 ∧ x2 ≠ "__name__")) (hcs : ∀ C ∈ cs, PySem.W.exmAny X.K (.ref C) [c1, c2] = some true)
    (hR : ∀ (cdv : Value) (A : Around) (outer : List PySem.Env) (s : Shared) (H : Hp) (E : XK), A.guards = some [] → Room (k + 1) (A.deeper (envOfC x (defScope st) s.heap.objs.size g cdv)) →
      DSs (cxOf (L2.CX X.prog X.w) X.prog X.w X.K X.mg X.base Ng x (defScope st) g cdv A outer s H E) (EAx X.K) (fun cls d _ H => E cls d H) rest mR)
    (h0 : Ng[0]? = some a) (h1 : Ng[i1]? = some fo) (h2 : Ng[i2]? = some cv) (h3 : Ng[i3]? = some er) (h12 : i1 ≠ i2) (h13 : i3 ≠ i1) (h23 : i3 ≠ i2) (h01 : i1 ≠ 0) (h02 : i2 ≠ 0)
    (la : (defScope st).names.lookup a = some .local) (l1 : (defScope st).names.lookup fo = some .local) (l2 : (defScope st).names.lookup cv = some .local) (l3 : (defScope st).names.lookup er = some .local)
    (g1 : (defScope st).names.lookup x1 = some .globalImplicit) (g2 : (defScope st).names.lookup x2 = some .globalImplicit)
    (hgl : Gl X x := by rfl) (hdb : (x == ("__debug__" : Str)) = false := by decide) (d1 : (x1 == ("__debug__" : Str)) = false := by decide) (d2 : (x2 == ("__debug__" : Str)) = false := by decide)
    (da1 : (a == ("__debug__" : Str)) = false := by decide) (da2 : (a == ("__classdict__" : Str)) = false := by decide) (de1 : (er == ("__debug__" : Str)) = false := by decide) (de2 : (er == ("__classdict__" : Str)) = false := by decide)
    (hw : ∀ (l : Addr) (cd : Value), swappedStores [.Tuple [.Name fo p1, .Name cv p2] k1 p3] (.Tuple [.Constant .none j1 u1, .Constant .none j2 u2] k2 p4) (envOfC x (defScope st) l g cd) = pure none := by exact fun _ _ => rfl)
    (hs : ∀ (l : Addr) (cd : Value), swapsWithSole [.Tuple [.Name fo p1, .Name cv p2] k1 p3] (.Tuple [.Constant .none j1 u1, .Constant .none j2 u2] k2 p4) p5.line (envOfC x (defScope st) l g cd) = pure false := by exact fun _ _ => rfl) :
    DE X (EAx X.K) W (.Call (.Name x p) [.Lambda ps bd sc lp] [] pos) (mTry cs P n0 (X.env.qual ++ "<lambda>") (headE Ng.length i1 i2) i2 m mR) := by
  refine ⟨tSem X.K (EAx X.K) W (mTry cs P n0 (X.env.qual ++ "<lambda>") (headE Ng.length i1 i2) i2 m mR), ⟨fun pins s σ H Q I ⟨ι, w, ρ, R, Er, h⟩ => ?_⟩, fun ι w σ H ρ Q R Er h => ⟨ι, w, ρ, R, Er, h⟩⟩
  obtain ⟨oc, od, kV, doc, pm, an, cdv, ct, osl, rfl, lk, hcd⟩ := F.ex
  unfold mTry at h
  by_cases ht0 : isTab w n0 P (X.env.qual ++ "<lambda>") = true
  · rw [if_pos ht0] at h
    have ht := isTab_of ht0
    obtain ⟨_, tS⟩ := R.tabS ht
    refine wpAny_Call_Name_kw (ld_glob I hgl hm ?_ hdb)
    refine PySem.W.callWith_K (h₀ := X.base) I.mod.kin hk ?_ rfl rfl
    show wpAny _ _ (spliced ((false, eval (.Lambda ps bd sc lp) X.env) :: backTo pos (starEach [] X.env))) _ _ s
    refine Calls.spliced_cons (lam_make I TB hcode tS hdef (L.has I.ok) fun f d pml ctl G z J kept tG off fno ffr cod => ?_)
    refine Calls.spliced_nil ⟨J.kIn, ?_⟩
    have s1 := Stp.tab R ht kept tG
    have hy := Hyp.on h s1
    have Er1 := Er.stp s1
    have run : codeAny (model X.prog X.w) X.A (.call (.ref g) ⟨[.ref f], []⟩) (CR (L2.CX X.prog X.w) X.stack X.prog X.w G z Q (fun _ _ _ => False)) z := by
      refine LamX.run_ofS (k := k + 1) (N := Ng) (ps := [a]) (us := [.ref f]) (vs := [.ref f]) lk hcd S hr J.env0 (hb z [.ref f] J.kIn rfl) (.cons rfl .nil) rfl fun hr2 => ?_
      obtain ⟨tR, pR, zR⟩ := (hR cdv X.A X.stack z G (fun _ _ _ => False) hg hr2).ex
      rw [hst]
      have N1 : Names (cxOf (L2.CX X.prog X.w) X.prog X.w X.K X.mg X.base Ng x (defScope st) g cdv X.A X.stack z G (fun _ _ _ => False)) x1 c1 := ⟨g1, d1, n1⟩
      have N2 : Names (cxOf (L2.CX X.prog X.w) X.prog X.w X.K X.mg X.base Ng x (defScope st) g cdv X.A X.stack z G (fun _ _ _ => False)) x2 c2 := ⟨g2, d2, n2⟩
      refine ⟨_, pss_cons (ps_asg (pe_tup (pa_cons pe_non (pa_cons pe_non pa_nil))) (pg_tup (n := 2) rfl (pgs_cons (pg_name (i := i1) S.nd h1 (.inl l1) (.inr l1)) (pgs_cons (pg_name (i := i2) S.nd h2 (.inl l2) (.inr l2)) pgs_nil))) (hs _ _) (hw _ _))
        (pss_cons (ps_try_keep (i := i3) rfl rfl rfl S.nd h3 l3 N1 N2
          (fun W pn xe tk => pss_one (ps_set (i := i1) S.nd h1 (.inl l1) (lam_act (i := 0) (tb := fun E => tSem X.K (EAx X.K) (fun cls dx _ H => E cls dx H) m) J L off fno ffr (hbind _ _ _ _ _) tk hg hr2 (fun A outer s H E ga ra => (hbody f d A outer s H E ga ra).sem) h0 (.inl la) da1 da2) rfl (.inr l1)))
          (fun a pn => pss_one (ps_set (i := i2) S.nd h2 (.inl l2) (pe_var (i := i3) h3 (.inl l3) de1 de2) rfl (.inr l2)))) pR), ?_⟩
      refine ⟨show 2 ≤ sizeLine from by decide, fun pt hpt => ⟨pt, [.non, .non], rfl, .inl (.inl upd_same), rfl, .non, [.non], rfl, .non, [], rfl, rfl, ?_⟩⟩
      have s0 : Stp X.K ι w G ι w (upd G pt (.tup [.non, .non])) := Stp.new s1.rel hpt
      have s1 := s1.trans s0
      have hy := hy.on s0
      have Er1 := Er.stp s1
      have cod : upd G pt (.tup [.non, .non]) d = some (LamX.CodeO d (X.env.qual ++ "<lambda>")) := by rw [upd_ne (ne_of_none cod hpt)]; exact cod
      have hs0 : (((L2.start Ng [V.ref f]).set i1 (some .non)).set i2 (some .non))[0]? = some (some (V.ref f)) := by
        rw [List.getElem?_set_ne h02, List.getElem?_set_ne h01]
        rfl
      have hl3 : i3 < Ng.length := (List.getElem?_eq_some_iff.mp h3).1
      have hls : (L2.start Ng [V.ref f]).length = Ng.length := by
        simp [L2.start]
        omega
      refine ⟨hs0, cod, ι, w, ρ, s1.rel, Er1, ?_⟩
      cases em : m ρ w with
      | none => rw [em] at hy; exact hy.elim
      | some o =>
        obtain ⟨r, w1⟩ := o
        rw [em] at hy
        cases r with
        | ok v => exact hy.elim
        | err C fs =>
          by_cases hC : C ∈ cs
          · have hy : Hyp X.K (EAx X.K) ι w (upd G pt (.tup [.non, .non])) (if C ∈ cs then match unpairs fs with
              | some l => endR w.length (mR ((headE Ng.length i1 i2).set i2 (some (SV.exc (C, l)))) w1)
              | none => none
              else none) _ _ := hy
            rw [if_pos hC] at hy
            intro ι2 H2 cls dx s2 ea
            obtain ⟨dd, gs, fl, rfl, rfl, e3, nM, rfl, e5, e6⟩ := ea
            rw [unpairs_map] at hy
            refine ⟨C, dd, rfl, rfl, hcs C hC, fun aa na => ?_⟩
            refine ⟨.ref aa, List.getElem?_set_self (by simp only [List.length_set]; omega), fun na' => ?_⟩
            have s3 : Stp X.K ι2 w1 H2 ι2 w1 (upd H2 aa (exw aa C dd)) := Stp.new s2.rel na
            have base : EnvR X.K ι2 (mz ι2 w1) (upd H2 aa (exw aa C dd)) (L2.start Ng [V.ref f]) (List.replicate Ng.length none) := by
              refine ⟨by simp [hls], fun i v hv => ?_⟩
              rw [List.getElem?_replicate] at hv
              split at hv <;> cases hv
            have no1 : ∀ v, (headE Ng.length i1 i2)[i3]? ≠ some (some v) := fun v hv => by
              unfold headE at hv
              rw [List.getElem?_set_ne (Ne.symm h23), List.getElem?_set_ne (Ne.symm h13), List.getElem?_replicate] at hv
              split at hv <;> cases hv
            have no2 : ∀ v, ((headE Ng.length i1 i2).set i2 (some (SV.exc (C, fl))))[i3]? ≠ some (some v) := fun v hv => by
              rw [List.getElem?_set_ne (Ne.symm h23)] at hv
              exact no1 v hv
            have vx : VRel X.K ι2 (mz ι2 w1) (upd H2 aa (exw aa C dd)) (.ref aa) (.exc (C, fl)) :=
              ⟨aa, dd, gs, rfl, .inr upd_same, fun y => s2.rel.ne y na rfl, .inr (by rw [upd_ne (ne_of_none e3 na)]; exact e3), nM, e5, e6.go s3.go⟩
            have Er4 := ((((base.set (i := i1) (V := .non) (v := .dat .none) Dt.non).set (i := i2) (V := .non) (v := .dat .none) Dt.non).hole (i := i3) (V := some (.ref aa)) no1).set (i := i2) vx).hole (i := i3) (V := none) no2
            refine zR ι2 w1 _ _ ((headE Ng.length i1 i2).set i2 (some (SV.exc (C, fl)))) _ s3.rel Er4 ?_
            have hy : Hyp X.K (EAx X.K) ι w (upd G pt (.tup [.non, .non])) (endR w.length (mR ((headE Ng.length i1 i2).set i2 (some (SV.exc (C, fl)))) w1)) (fun v ι' w' H' => ∀ V, VRel X.K ι' (mz ι' w') H' V v → Q V H') _ := hy
            cases eR : mR ((headE Ng.length i1 i2).set i2 (some (SV.exc (C, fl)))) w1 with
            | none => rw [eR] at hy; exact hy.elim
            | some o =>
              obtain ⟨r, w3⟩ := o
              rw [eR] at hy
              cases r with
              | err _ _ => exact hy.elim
              | ok o =>
                cases o with
                | rt v =>
                  cases v with
                  | dat dt =>
                    intro ι3 H3 s4 V rv
                    have s5 := (s2.trans s3).trans s4
                    have c5 := s5.cut
                    have d5 := Dt.cut s5.rel s5.pre rv
                    rw [R.len] at c5 d5
                    exact hy ι H3 c5 V d5
                  | _ => exact hy.elim
                | _ => exact hy.elim
          · have hy : Hyp X.K (EAx X.K) ι w (upd G pt (.tup [.non, .non])) (if C ∈ cs then match unpairs fs with
              | some l => endR w.length (mR ((headE Ng.length i1 i2).set i2 (some (SV.exc (C, l)))) w1)
              | none => none
              else none) (fun v ι' w' H' => ∀ V, VRel X.K ι' (mz ι' w') H' V v → Q V H') (fun cls d H' => W cls d σ H') := hy
            rw [if_neg hC] at hy
            exact hy.elim
    refine wpAny_call (codeAny_mono run fun r z2 hq => ?_)
    match r, hq with
    | .error e, hq =>
      obtain ⟨_, _, _, _, _, _, _, _, _, _, _, _, bad⟩ := hq
      exact bad.elim
    | .ok (.ret u), hq => exact J.after hq
  · rw [if_neg ht0] at h
    exact h.elim
end
end EG


set_option Elab.async false
set_option linter.all false
set_option maxRecDepth 100000
set_option maxHeartbeats 1000000
namespace EG
open PySem PySem.Spec PyProof.Rows L2
/-! ### x is None -/
def isNo : SV → Option Bool
  | .dat .none => some true
  | .dat _ => some false
  | .exc _ => some false
  | .obj _ => some false
  | .scr _ => some false
  | _ => none
def gIsNo : Op2 := fun x y _ => match y with
  | .dat .none => (isNo x).map fun b => .dat (.bool b)
  | _ => none
theorem VRel.isNo {K : PySem.W.Frag} {ι : List (List Addr)} {M : List Addr} {H : Hp} {v : V} {x : SV} {b : Bool} (h : VRel K ι M H v x) (e : isNo x = some b) : decide (v = .non) = b := by
  cases x with
  | dat d =>
    have q := Dt.p h
    cases d with
    | none => cases e; cases q; rfl
    | bool _ => cases e; cases q; rfl
    | int _ => cases e; cases q; rfl
    | str _ => cases e; cases q; rfl
    | list _ => cases e; obtain ⟨_, _, rfl, _⟩ := q; rfl
    | tuple _ => cases e; obtain ⟨_, _, rfl, _⟩ := q; rfl
    | dict _ => cases e; obtain ⟨_, _, rfl, _⟩ := q; rfl
  | exc c => cases e; obtain ⟨_, _, _, rfl, _⟩ := h; rfl
  | obj n => cases e; obtain ⟨_, _, _, rfl⟩ := h; rfl
  | scr ns => cases e; obtain ⟨_, rfl, _⟩ := h; rfl
  | excs _ => cases e
  | drg _ => cases e
theorem os_isNo {K : PySem.W.Frag} : OpS K (fun x y H Q => y = .non ∧ Q (.bl (decide (x = .non))) H) gIsNo := by
  intro ι w H vx vy x y v Q R rx ry e k
  cases y with
  | dat d =>
    cases d with
    | none =>
      cases ry
      have e : (EG.isNo x).map (fun b => SV.dat (.bool b)) = some v := e
      cases hb : EG.isNo x with
      | none => rw [hb] at e; cases e
      | some b =>
        rw [hb] at e
        cases e
        rw [rx.isNo hb]
        exact ⟨rfl, k _ (Stp.refl R) _ (Dt.bl b)⟩
    | _ => cases e
  | _ => cases e
theorem dt_isNo {X : Cx} {EA : EAt} {W : WX} {a : Expr} {ma : Env → Mo SV} {j : Nat} {p pos : Pos} (ha : DE X EA W a ma) : DT X EA W (.Compare a [.Is] [.Constant .none j p] pos) (mTB (mBin ma (mC .none) gIsNo)) := dt_cmp op_isN os_isNo ha d_non
/-! ### the law's own call, where errors may fly and a table of code objects changes -/
def tabH (K : PySem.W.Frag) (a t : Addr) (vs : List Value) (ns : List Int) : Hp := upd (scrH K a vs ns) t (.tbl #[])
theorem tabH_at {K : PySem.W.Frag} {a t b : Addr} {vs : List Value} {ns : List Int} {u : HO} (h : tabH K a t vs ns b = some u) : (b = t ∧ u = .tbl #[]) ∨ (b ≠ t ∧ b = a ∧ K.lookup a = none ∧ u = .frz { cls := .type "list", data := .seq vs.toArray } (.lst (ns.map V.int))) := by
  unfold tabH at h
  by_cases e : b = t
  · subst e
    rw [upd_same] at h
    exact .inl ⟨rfl, (Option.some.inj h).symm⟩
  · rw [upd_ne e] at h
    exact .inr ⟨e, scrH_at h⟩
theorem law_fromT {P : PySem.Program} {w : World} {K : PySem.W.Frag} {mg mb : Str → Option Value} {k : Nat} {fa a t ct : Addr} {fd : FuncData} {x q : Str} {g : Fn} {s : Shared} {vs : List Value} {ns : List Int} {EA : EAt}
    (KX : K.In s.heap) (n1 : s.heap.Ns mainGlobals mg) (n2 : s.heap.Ns builtinsNs mb) (n3 : ∀ x : Str, x ≠ "__name__" → mb x = bootBuiltins x) (lim : s.heap.NoLimit) (gens : s.gens = #[]) (oa : s.heap.get? a = some { cls := .type "list", data := .seq vs.toArray }) (hin : IntsAre vs ns) (len : ns.length ≤ sizeLine)
    (ot : s.heap.get? t = some { cls := .none, data := .fields #[] }) (nt : K.lookup t = none) (hct : PySem.W.codeHdIn K ct t = true)
    (bmain : ∃ (bm : Addr) (ob : Obj), mg "__builtins__" = some (.ref bm) ∧ bm ≠ builtinsNs ∧ s.heap.get? bm = some ob ∧ ob.cls = .type "module" ∧ ob.dict = some builtinsNs ∧ ob.data = .plain)
    (room : Room k callerA) (F : ∀ base : Heap, K.In base → base.Ns mainGlobals mg → LamX.TabB base mg ct t → FnG P w K mg base k fa fd [x] (spD 1 K EA g)) (bnd : ∀ (s : Shared) (u : Value), BindsTo s fd ⟨[u], []⟩ [(x, u)]) (ans : ∃ w', g [.scr ns] [.tab t q] = some (.ok (.dat (.bool true)), w')) :
    codeAny (model P w) callerA (.call (.ref fa) ⟨[.ref a], []⟩) (fun r s' => r = .ok (.ret (.bool true)) ∧ OldK s.heap s'.heap ∧ s'.os = s.os ∧ AllBare s'.gens) s := by
  have vi := vals_ints hin
  have at_ : a ≠ t := fun z => by rw [z, ot] at oa; cases oa
  obtain ⟨H, eH⟩ : ∃ H, H = tabH K a t vs ns := ⟨_, rfl⟩
  have at1 : ∀ {b u}, H b = some u → (b = t ∧ u = .tbl #[]) ∨ (b ≠ t ∧ b = a ∧ K.lookup a = none ∧ u = .frz { cls := .type "list", data := .seq vs.toArray } (.lst (ns.map V.int))) := fun {b u} h => tabH_at (by rw [← eH]; exact h)
  have Ht : H t = some (.tbl #[]) := by rw [eH]; exact upd_same
  have script : SL K [t] H a (ns.map V.int) := by
    cases hk : K.lookup a with
    | some o =>
      have e := KX a o hk
      rw [oa] at e
      cases e
      exact .inr (.inr ⟨_, vs.toArray, _, hk, rfl, rfl, rfl, by rw [List.size_toArray, hin.length]; exact len, by simpa using vi⟩)
    | none =>
      refine .inl ⟨.inr ⟨{ cls := .type "list", data := .seq vs.toArray }, ?_⟩, by simpa using at_⟩
      rw [eH]
      unfold tabH scrH
      rw [hk, upd_ne at_]
      exact upd_same
  have none_of : ∀ {b : Addr} {o : Obj}, s.heap.get? b = some o → b ≠ t → (b = a → K.lookup a ≠ none ∨ o.data ≠ .seq vs.toArray) → H b = none := fun {b o} e nb h => by
    cases q : H b with
    | none => rfl
    | some u =>
      rcases at1 q with ⟨e1, _⟩ | ⟨_, e1, e2, _⟩
      · exact absurd e1 nb
      · rcases h e1 with z | z
        · exact absurd e2 z
        · rw [e1, oa] at e
          cases e
          exact absurd rfl z
  have nsT : ∀ {b : Addr} {m : Str → Option Value}, s.heap.Ns b m → b ≠ t := fun {b m} ⟨o, es, ep, e, d, _⟩ z => by
    rw [z, ot] at e
    cases e
    cases d
  have keepNs : ∀ {b : Addr} {m : Str → Option Value}, s.heap.Ns b m → (hidT s.heap H).Ns b m := fun {b m} h => by
    have nb := nsT h
    obtain ⟨o, es, ep, e, d, r⟩ := h
    exact ⟨o, es, ep, hidT_get e (none_of e nb fun _ => .inr (by rw [d]; exact fun z => nomatch z)), d, r⟩
  have inB : K.In (hidT s.heap H) := fun b o e => hidT_get (KX b o e) (none_of (KX b o e) (fun z => by rw [z, nt] at e; cases e) fun z => .inl (by rw [← z, e]; exact fun y => nomatch y))
  have tb : LamX.TabB (hidT s.heap H) mg ct t := by
    refine ⟨PySem.W.codeHd_of_K inB hct, ?_, fun z => nsT n1 z⟩
    obtain ⟨bm, ob, b1, b2, b3, b4, b5, b6⟩ := bmain
    have m1 : bm ≠ mainGlobals := fun z => by
      obtain ⟨o, es, ep, e, d, _⟩ := n1
      rw [← z, b3] at e
      cases e
      rw [b6] at d
      cases d
    have m2 : bm ≠ t := fun z => by
      rw [z, ot] at b3
      cases b3
      cases b6
    exact ⟨bm, ob, b1, b2, m1, m2, hidT_get b3 (none_of b3 m2 fun _ => .inr (by rw [b6]; exact fun z => nomatch z)), b4, b5, b6⟩
  have hok : HOk P w H s.heap := fun b u h => by
    rcases at1 h with ⟨rfl, rfl⟩ | ⟨_, rfl, _, rfl⟩
    · exact ot
    · exact ⟨oa, by rw [List.length_map]; exact len, vs, _, vi, oa⟩
  have e0 : Env0 P w K mg (hidT s.heap H) callerA [] s H := {
    frames := rfl
    mod := ⟨inB, keepNs n1, ⟨mb, keepNs n2, n3⟩, by obtain ⟨mc, q1, q2⟩ := lim; exact ⟨mc, keepNs q1, q2⟩⟩
    bs := fun _ _ e => of_hidT e
    bsz := Nat.le_of_eq (hidT_size _ _)
    funs := trivial
    frf := fun b hb => nomatch hb
    hok := hok
    bare := .of_eq gens }
  have start : spD 1 K EA g [V.ref a] H (fun v _ => v = .bl true) (fun _ _ _ => False) := by
    obtain ⟨w', ans⟩ := ans
    have r0 : SRel K [[t]] [.tab t q] H := by
      refine ⟨rfl, fun n l o h1 h2 => ?_, by simp [mz, footOf]⟩
      match n, h1, h2 with
      | 0, h1, h2 =>
        cases h1
        cases h2
        exact ⟨#[], rfl, Ht, True.intro, fun pos cv hc => by simp [codeAmong] at hc⟩
      | n + 1, h1, _ => simp at h1
    refine ⟨[[t]], [.tab t q], [.scr ns], r0, .cons ⟨a, rfl, script⟩ .nil, rfl, ?_⟩
    rw [ans]
    intro ι' H' _ V r
    cases r
    rfl
  have run := (F _ inB (keepNs n1) tb).run callerA [] s H ⟨[.ref a], []⟩ [.ref a] [.ref a] _ _ rfl room e0 (bnd s (.ref a)) (.cons rfl .nil) start
  refine codeAny_mono run fun r s' h => ?_
  match r, h with
  | .error e, h =>
    obtain ⟨_, _, _, _, _, _, _, _, _, _, _, _, z⟩ := h
    exact z.elim
  | .ok (.ret u), h =>
    obtain ⟨v, H', os, bare, un, hok', r', rfl⟩ := h
    obtain rfl : u = Value.bool true := r'
    have key : ∀ b o, b ≠ t → s.heap.get? b = some o → s'.heap.get? b = some o := fun b o nb e => by
      cases q : H b with
      | none => exact un.keep b o e q (fun z => nomatch z) (by simp)
      | some u =>
        rcases at1 q with ⟨e1, _⟩ | ⟨_, e1, _, e2⟩
        · exact absurd e1 nb
        · rw [e2] at q
          have y := hok' b _ (un.frzs b _ _ q)
          rw [e1, oa] at e
          cases e
          exact y.1
    obtain ⟨more, em⟩ := un.tbls t #[] Ht
    have grown : s'.heap.get? t = some { cls := .none, data := .fields (#[] ++ more) } := hok' t _ em
    refine ⟨rfl, ⟨fun b o e => ?_, fun b o e => ?_⟩, os, bare⟩
    · by_cases hb : b = t
      · rw [hb] at e ⊢
        rw [ot] at e
        cases e
        exact .inr (.inl ⟨((PySem.W.codeHd_of_K KX hct).tab ot).isCodeTable, rfl, #[], more, rfl, grown⟩)
      · exact .inl (key b o hb e)
    · by_cases hb : b = t
      · rw [hb]
        exact ⟨_, grown⟩
      · exact ⟨o, key b o hb e⟩
theorem law_endT {l : PySem.W.OpenLaw} {n k : Nat} {q : PySem.Program} {loose : List Str} {XP : (Str → Option Value) → Heap → Prop} {YP : World → Heap → Prop} {d : DefRec} {K : Params → PySem.W.Frag} {x tx qx : Str} {EA : PySem.W.Frag → EAt}
    (most : l.most = some n) (fits : n ≤ sizeLine) (plain : d.params.defaults = []) (room : Room k callerA) (hY : ∀ (w : World) (h : Heap), YP w h → (K w.params).In h)
    (rec : ((recsOf q).find? (fun e => e.name == tx)).isSome = true)
    (F : ∀ (w : World) (mg : Str → Option Value) (fa : Addr) (h : Heap), (K w.params).In h → h.Ns mainGlobals mg → mg d.name = some (.ref fa) →
      ∃ (fd : FuncData) (g : Fn) (ct t : Addr), PySem.W.tabIn (K w.params) tx = some (ct, t) ∧ (K w.params).lookup t = none ∧ PySem.W.codeHdIn (K w.params) ct t = true ∧ (∀ (s : Shared) (u : Value), BindsTo s fd ⟨[u], []⟩ [(x, u)]) ∧
        (∀ base : Heap, (K w.params).In base → base.Ns mainGlobals mg → LamX.TabB base mg ct t → FnG l.prog w (K w.params) mg base k fa fd [x] (spD 1 (K w.params) (EA (K w.params)) g)) ∧ ∀ ns : List Int, ns.length ≤ n → ∃ w', g [.scr ns] [.tab t qx] = some (.ok (.dat (.bool true)), w')) :
    PySem.W.WalkO q loose XP YP l.row.toRowW d [] (fun f vs => PySem.call f vs) := by
  refine Att.attach_call most plain fun w s0 s mg mb fa o pm cd doc a vs ns G Y ho hd hcd hmg hobj hints hlen hg => ?_
  obtain ⟨fd, g, ct, t, ht, nt, hct, b, f, ans⟩ := F w mg fa _ (hY w _ Y) G.T.g hmg
  obtain ⟨dr, hr⟩ := Option.isSome_iff_exists.mp rec
  obtain ⟨_, ot⟩ := PySem.W.tab_of G.T (hY w _ Y) hr ht
  exact law_fromT (hY w _ Y) G.T.g G.T.b G.T.builtins G.T.nolimit hg hobj hints (Nat.le_trans hlen fits) ot nt hct G.T.bmain room f b (ans ns hlen)
end EG


set_option Elab.async false
set_option linter.all false
set_option maxRecDepth 100000
set_option maxHeartbeats 4000000
namespace EG
open PySem PySem.Spec PyProof.Rows L2
/-! ### a def whose code object is known -/
section
variable {P : Program} {w : World} {K : PySem.W.Frag} {mg : Str → Option Value} {base : Heap} {EA : EAt}
theorem fnG_ofC {k : Nat} {f : Addr} {x qual : Str} {st : Stmt} {fd : FuncData} {N ps : List Str} {sp : Sp} (F : Fun K x qual st f fd) (S : FnScope N ps (defScope st)) (len : ∀ vs H Q E, sp vs H Q E → vs.length = ps.length)
    (hbody : ∀ (cdv : Value) (A : Around) (outer : List PySem.Env) (s : Shared) (H : Hp) (vs : List V) (Q : VK) (E : XK), fd.code = cdv → A.guards = some [] → Room k (A.deeper (envOfC qual (defScope st) s.heap.objs.size f cdv)) → sp vs H Q E →
      ∃ t, PSs (cxOf (L2.CX P w) P w K mg base N qual (defScope st) f cdv A outer s H E) (defBody st) t ∧ t { nx := fun _ H' => Q .non H', rt := Q } (start N vs) H) : FnG P w K mg base (k + 1) f fd ps sp := by
  obtain ⟨o1, o2, o3, o4, o5, o6, cdv, o7, o8, rfl, look, code⟩ := F.ex
  refine ⟨len, fun A outer s H args us vs Q E hg hr e0 hb r hsp => ?_⟩
  have kept : ∀ b o, base.get? b = some o → s.heap.get? b = some o := fun b o e => (e0.bs b o e).1
  have KX : K.In s.heap := e0.mod.kin.keeps kept
  refine codeAny_call_function hr.depth (KX _ _ look) rfl S.co S.gen rfl (PySem.W.codeRec_of KX code) (hb _ _ _ _ ?_)
  refine wpAny_newFunctionEnv_cells S.kind (fun y hy => ?kind) fun env he s1 x => ?body
  case kind =>
    rcases S.par y.1 (List.of_mem_zip hy).1 with q | q
    · exact .inl q
    · exact .inr ⟨q, PySem.W.cellsFrom_some _ _ _ (.inl q)⟩
  case body =>
    subst he
    refine ⟨(e0.mod.nolimit.keeps kept).keeps x.toInCall.keep, codeAny_func ?_⟩
    obtain ⟨t, ht, hq⟩ := hbody cdv A outer s H vs Q E rfl hg (hr.deeper _) hsp
    refine wpAny_mono (ht.run [] s1 (start N vs) H _ (inv_start (CX := L2.CX P w) (E := E) S hr.hd e0 (len _ _ _ _ hsp) r x) hq) (fun fl z hs => ?_) fun _ _ hs => hs
    cases fl with
    | ret u =>
      obtain ⟨v, _, G, J, rv, q⟩ := hs
      exact ⟨v, G, J.os, J.bare, J.base, J.hok, rv, q⟩
    | next =>
      obtain ⟨_, G, J, q⟩ := hs
      exact ⟨.non, G, J.os, J.bare, J.base, J.hok, rfl, q⟩
    | brk => exact hs.elim fun _ y => y.elim fun _ y => False.elim y.2
    | cont => exact hs.elim fun _ y => y.elim fun _ y => False.elim y.2
theorem fnDC {k : Nat} {f : Addr} {x qual : Str} {st : Stmt} {fd : FuncData} {N ps : List Str} {m : Env → Mo Out} (hEA : EGo EA) (F : Fun K x qual st f fd) (S : FnScope N ps (defScope st))
    (hbody : ∀ (cdv : Value) (A : Around) (outer : List PySem.Env) (s : Shared) (H : Hp) (E : XK), fd.code = cdv → A.guards = some [] → Room k (A.deeper (envOfC qual (defScope st) s.heap.objs.size f cdv)) →
      DSs (cxOf (L2.CX P w) P w K mg base N qual (defScope st) f cdv A outer s H E) EA (fun cls d _ H => E cls d H) (defBody st) m) : FnG P w K mg base (k + 1) f fd ps (spD ps.length K EA (mDef N m)) := by
  refine fnG_ofC F S (spD_len rfl) fun cdv A outer s H vs Q E hc hg hr hsp => ?_
  obtain ⟨t, p, z⟩ := (hbody cdv A outer s H E hc hg hr).ex
  obtain ⟨ι, w0, xs, R, r, e, h⟩ := hsp
  refine ⟨t, p, z ι w0 _ H (startE N xs) _ R (start_rel r) ?_⟩
  have h : Hyp K EA ι w0 H (endO w0.length (m (startE N xs) w0)) (fun v ι' w' H' => ∀ V, VRel K ι' (mz ι' w') H' V v → Q V H') E := h
  cases q : m (startE N xs) w0 with
  | none => rw [q] at h; exact h.elim
  | some o =>
    obtain ⟨o, w1⟩ := o
    rw [q] at h
    have cut : ∀ {κ G}, Stp K ι w0 H κ w1 G → Stp K ι w0 H ι (w1.take w0.length) G := fun {κ G} s => by
      have := s.cut
      rwa [R.len] at this
    cases o with
    | err c fs =>
      refine fun κ G cls d s ea _ => h ι G cls d (cut s) (hEA _ _ _ _ _ _ _ _ (Go.less fun b hb => ?_) ea)
      have sub := (s.rel.cut s.pre).2
      rw [R.len] at sub
      exact sub.subset hb
    | ok o =>
      cases o with
      | rt v =>
        cases v with
        | dat d =>
          intro κ G s V rv
          have rv := Dt.cut s.rel s.pre rv
          rw [R.len] at rv
          exact h ι G (cut s) V rv
        | obj n => exact fun κ G s V rv => h κ G s V rv
        | scr n => exact fun κ G s V rv => h κ G s V rv
        | exc n => exact fun κ G s V rv => h κ G s V rv
        | excs n => exact fun κ G s V rv => h κ G s V rv
        | drg n => exact fun κ G s V rv => h κ G s V rv
      | nx ρ => exact fun κ G s _ _ => h ι G (cut s) _ Dt.non
      | bk ρ => exact h.elim
      | ct ρ => exact h.elim
end
end EG


set_option Elab.async false
set_option linter.all false
set_option maxRecDepth 100000
set_option maxHeartbeats 1000000
namespace EG
namespace K03
open PySem PySem.Spec PyProof.Rows L2 LamX
def topS (i : Nat) : Stmt := PySem.Challenge.pw_idlewishes_k03_whole_wishes.main.body.getD i (.Pass ⟨0, 0, 0, 0⟩)
structure Cs where
  wish : Addr
  path : Addr
  tab : Addr
def wants : List (Str × Int) := [("true", 0), ("false", 0), ("mark", 1), ("no", 1), ("and", 2), ("or", 2), ("next", 1), ("till", 2), ("ever", 1), ("always", 1)]
def mis_whole : Env → Mo Out := (mRet (mAndV (mUn (mV 0) (gIsi "int")) (mNotV (mUn (mV 0) (gIsi "bool")))))
def gis_whole : Fn := mDef ["value"] (mis_whole)
abbrev sis_whole : Stmt := topS 11
theorem scis_whole : FnScope ["value"] ["value"] (defScope sis_whole) := ⟨rfl, rfl, rfl, by decide +kernel, rfl, by decide +kernel, by decide +kernel⟩
def mis_number : Env → Mo Out := (mRet (mAndV (mCall gis_whole (mCons (mV 0) mNil)) (mChain (mV 1) (mV 0) (mV 2) gLe gLe)))
def gis_number : Fn := mDef ["value", "least", "most"] (mis_number)
abbrev sis_number : Stmt := topS 12
theorem scis_number : FnScope ["value", "least", "most"] ["value", "least", "most"] (defScope sis_number) := ⟨rfl, rfl, rfl, by decide +kernel, rfl, by decide +kernel, by decide +kernel⟩
def m_has_form : Env → Mo Out := (mSeq (mIfS (mOr (mNot (mTB (mUn (mV 0) (gIsi "tuple")))) (mTB (mBin (mV 0) (mTup mNil) gEq))) (mRet (mC (.bool false))) mSkip)
  (mSeq (mAsg 1 (mBin (mV 0) (mC (.int 0)) gIx))
  (mSeq (mIfS (mOr (mNot (mTB (mUn (mV 1) (gIsi "str")))) (mTB (mUn (mV 1) (gInW true wants)))) (mRet (mC (.bool false))) mSkip)
  (mSeq (mIfS (mTB (mBin (mUn (mV 0) gLen) (mBin (mC (.int 1)) (mUn (mV 1) (gIxW wants)) gAdd) gNe)) (mRet (mC (.bool false))) mSkip)
  (mRet (mOrV (mBin (mV 1) (mC (.str "mark")) gNe) (mCall gis_number (mCons (mBin (mV 0) (mC (.int 1)) gIx) (mCons (mC (.int 0)) (mCons (mC (.int 3)) mNil))))))))))
def g_has_form : Fn := mDef ["part", "word"] (m_has_form)
abbrev s_has_form : Stmt := topS 32
theorem sc_has_form : FnScope ["part", "word"] ["part"] (defScope s_has_form) := ⟨rfl, rfl, rfl, by decide +kernel, rfl, by decide +kernel, by decide +kernel⟩
def m_within : Env → Mo Out := (mSeq (mIfS (mTB (mBin (mBin (mV 1) (mC (.int 0)) gIx) (mC (.str "mark")) gEq)) (mRet (mLst mNil)) mSkip)
  (mRet (mLc (mEnumK 1 (mCut (mV 1) (mPart (mC (.int 1))) mNoP)) [2, 3] (mSetT [(mSet 2), (mSet 3)]) mYes (mTup (mCons (mBin (mV 0) (mTup (mCons (mV 2) mNil)) gCat) (mCons (mV 3) mNil))))))
def g_within : Fn := mDef ["path", "part", "place", "inner"] (m_within)
abbrev s_within : Stmt := topS 31
theorem sc_within : FnScope ["path", "part", "place", "inner"] ["path", "part"] (defScope s_within) := ⟨rfl, rfl, rfl, by decide +kernel, rfl, by decide +kernel, by decide +kernel⟩
def bneed_wish0 (c : Cs) : Env → Mo Out := (mSeq (mAsgG (mPop (mV 3)) (mSetT [(mSet 4), (mSet 5)]))
  (mSeq (mIfS (mNot (mTB (mCall g_has_form (mCons (mV 5) mNil)))) (mRaise c.wish ["path"] (mCons (mV 4) mNil)) mSkip)
  (mSeq (mAugI 1 (· + ·) (mC (.int 1)))
  (mSeq (mIfS (mTB (mBin (mBin (mV 5) (mC (.int 0)) gIx) (mC (.tuple (List.map PyData.str ["next", "till", "ever", "always"]))) (gIn false))) (mAugI 2 (· + ·) (mC (.int 1))) mSkip)
  (mSeq (mIfS (mOr (mTB (mBin (mV 1) (mC (.int 12)) gGt)) (mTB (mBin (mV 2) (mC (.int 5)) gGt))) (mRaise c.wish ["path"] (mCons (mTup mNil) mNil)) mSkip)
  (mExt 3 (mUn (mCall g_within (mCons (mV 4) (mCons (mV 5) mNil))) gRevL)))))))
def mneed_wish (c : Cs) : Env → Mo Out := (mSeq (mAsg2 1 2 (mC (.int 0)))
  (mSeq (mAsg 3 (mLstO (mCons (mTup (mCons (mTup mNil) (mCons (mV 0) mNil))) mNil)))
  (mSeq (mWhile 100 (mTr (mV 3)) (bneed_wish0 c))
  (mRet (mV 0)))))
def gneed_wish (c : Cs) : Fn := mDef ["wish", "many", "timed", "waiting", "path", "part"] (mneed_wish c)
abbrev sneed_wish : Stmt := topS 18
theorem scneed_wish : FnScope ["wish", "many", "timed", "waiting", "path", "part"] ["wish"] (defScope sneed_wish) := ⟨rfl, rfl, rfl, by decide +kernel, rfl, by decide +kernel, by decide +kernel⟩
def bis_path0 : Env → Mo Out := (mSeq (mIfS (mOr (mTB (mBin (mBin (mV 2) (mC (.int 0)) gIx) (mC (.str "mark")) gEq)) (mNot (mTB (mCall gis_number (mCons (mV 3) (mCons (mC (.int 1)) (mCons (mBin (mUn (mV 2) gLen) (mC (.int 1)) gSub) mNil))))))) (mRet (mC (.bool false))) mSkip)
  (mAsg 2 (mBin (mV 2) (mV 3) gIx)))
def mis_path : Env → Mo Out := (mSeq (mIfS (mNot (mTB (mUn (mV 1) (gIsi "tuple")))) (mRet (mC (.bool false))) mSkip)
  (mSeq (mAsg 2 (mV 0))
  (mSeq (mFor (mItemsT (mV 1)) (mSet 3) (bis_path0))
  (mRet (mC (.bool true))))))
def gis_path : Fn := mDef ["wish", "value", "part", "place"] (mis_path)
abbrev sis_path : Stmt := topS 27
theorem scis_path : FnScope ["wish", "value", "part", "place"] ["wish", "value"] (defScope sis_path) := ⟨rfl, rfl, rfl, by decide +kernel, rfl, by decide +kernel, by decide +kernel⟩
def mneed_path (c : Cs) : Env → Mo Out := (mSeq (mDrop (mCall (gneed_wish c) (mCons (mV 0) mNil)))
  (mSeq (mIfS (mNot (mTB (mCall gis_path (mCons (mV 0) (mCons (mV 1) mNil))))) (mRaise c.path ["value"] (mCons (mV 1) mNil)) mSkip)
  (mRet (mV 1))))
def gneed_path (c : Cs) : Fn := mDef ["wish", "path"] (mneed_path c)
abbrev sneed_path : Stmt := topS 19
theorem scneed_path : FnScope ["wish", "path"] ["wish", "path"] (defScope sneed_path) := ⟨rfl, rfl, rfl, by decide +kernel, rfl, by decide +kernel, by decide +kernel⟩
def bwalked0 : Env → Mo Out := (mSeq (mAsgG (mPop (mV 2)) (mSetT [(mSet 3), (mSet 4)]))
  (mSeq (mDrop (mApp (mV 1) (mTup (mCons (mV 3) (mCons (mV 4) mNil)))))
  (mExt 2 (mUn (mCall g_within (mCons (mV 3) (mCons (mV 4) mNil))) gRevL))))
def mwalked : Env → Mo Out := (mSeq (mAsg 1 (mLstO mNil))
  (mSeq (mAsg 2 (mLstO (mCons (mTup (mCons (mTup mNil) (mCons (mV 0) mNil))) mNil)))
  (mSeq (mWhile 100 (mTr (mV 2)) (bwalked0))
  (mRet (mV 1)))))
def gwalked : Fn := mDef ["wish", "found", "waiting", "path", "part"] (mwalked)
abbrev swalked : Stmt := topS 29
theorem scwalked : FnScope ["wish", "found", "waiting", "path", "part"] ["wish"] (defScope swalked) := ⟨rfl, rfl, rfl, by decide +kernel, rfl, by decide +kernel, by decide +kernel⟩
def mpaths (c : Cs) : Env → Mo Out := (mSeq (mDrop (mCall (gneed_wish c) (mCons (mV 0) mNil)))
  (mRet (mUn (mLc (mItemsL (mCall gwalked (mCons (mV 0) mNil))) [1, 2] (mSetT [(mSet 1), (mSet 2)]) mYes (mV 1)) gTuple)))
def gpaths (c : Cs) : Fn := mDef ["wish", "path", "_"] (mpaths c)
abbrev spaths : Stmt := topS 20
theorem scpaths : FnScope ["wish", "path", "_"] ["wish"] (defScope spaths) := ⟨rfl, rfl, rfl, by decide +kernel, rfl, by decide +kernel, by decide +kernel⟩
def bpart_at0 (c : Cs) : Env → Mo Out := (mAsg 2 (mBin (mV 2) (mV 3) gIx))
def mpart_at (c : Cs) : Env → Mo Out := (mSeq (mDrop (mCall (gneed_path c) (mCons (mV 0) (mCons (mV 1) mNil))))
  (mSeq (mAsg 2 (mV 0))
  (mSeq (mFor (mItemsT (mV 1)) (mSet 3) (bpart_at0 c))
  (mRet (mV 2)))))
def gpart_at (c : Cs) : Fn := mDef ["wish", "path", "part", "place"] (mpart_at c)
abbrev spart_at : Stmt := topS 21
theorem scpart_at : FnScope ["wish", "path", "part", "place"] ["wish", "path"] (defScope spart_at) := ⟨rfl, rfl, rfl, by decide +kernel, rfl, by decide +kernel, by decide +kernel⟩
def mput_at (gr : Fn) : Env → Mo Out := (mSeq (mIfS (mTB (mBin (mV 1) (mTup mNil) gEq)) (mRet (mV 2)) mSkip)
  (mSeq (mAsg 3 (mBin (mV 1) (mC (.int 0)) gIx))
  (mSeq (mAsg 4 (mCall gr (mCons (mBin (mV 0) (mV 3) gIx) (mCons (mCut (mV 1) (mPart (mC (.int 1))) mNoP) (mCons (mV 2) mNil)))))
  (mRet (mBin (mBin (mCut (mV 0) mNoP (mPart (mV 3))) (mTup (mCons (mV 4) mNil)) gCat) (mCut (mV 0) (mPart (mBin (mV 3) (mC (.int 1)) gAdd)) mNoP) gCat)))))
abbrev sput_at : Stmt := topS 30
theorem scput_at : FnScope ["wish", "path", "part", "place", "inner"] ["wish", "path", "part"] (defScope sput_at) := ⟨rfl, rfl, rfl, by decide +kernel, rfl, by decide +kernel, by decide +kernel⟩
def mreplaced (c : Cs) : Env → Mo Out := (mSeq (mDrop (mCall (gneed_path c) (mCons (mV 0) (mCons (mV 1) mNil))))
  (mSeq (mDrop (mCall (gneed_wish c) (mCons (mV 2) mNil)))
  (mRet (mCall (gneed_wish c) (mCons (mCall (recG ["wish", "path", "part", "place", "inner"] (mput_at) 24) (mCons (mV 0) (mCons (mV 1) (mCons (mV 2) mNil)))) mNil)))))
def greplaced (c : Cs) : Fn := mDef ["wish", "path", "part"] (mreplaced c)
abbrev sreplaced : Stmt := topS 22
theorem screplaced : FnScope ["wish", "path", "part"] ["wish", "path", "part"] (defScope sreplaced) := ⟨rfl, rfl, rfl, by decide +kernel, rfl, by decide +kernel, by decide +kernel⟩
def bis_plain0 (c : Cs) : Env → Mo Out := (mSeq (mIfS (mTB (mBin (mBin (mV 3) (mC (.int 0)) gIx) (mC (.str "no")) gEq)) (mAugI 2 (· + ·) (mC (.int 1))) mSkip)
  (mAsg 3 (mBin (mV 3) (mV 4) gIx)))
def mis_plain (c : Cs) : Env → Mo Out := (mSeq (mDrop (mCall (gneed_path c) (mCons (mV 0) (mCons (mV 1) mNil))))
  (mSeq (mAsg 2 (mC (.int 0)))
  (mSeq (mAsg 3 (mV 0))
  (mSeq (mFor (mItemsT (mV 1)) (mSet 4) (bis_plain0 c))
  (mRet (mBin (mBin (mV 2) (mC (.int 2)) gMod) (mC (.int 0)) gEq))))))
def gis_plain (c : Cs) : Fn := mDef ["wish", "path", "around", "part", "place"] (mis_plain c)
abbrev sis_plain : Stmt := topS 23
theorem scis_plain : FnScope ["wish", "path", "around", "part", "place"] ["wish", "path"] (defScope sis_plain) := ⟨rfl, rfl, rfl, by decide +kernel, rfl, by decide +kernel, by decide +kernel⟩
def mworst (c : Cs) : Env → Mo Out := (mSeq (mIfS (mTB (mCall (gis_plain c) (mCons (mV 0) (mCons (mV 1) mNil)))) (mRet (mTup (mCons (mC (.str "false")) mNil))) mSkip)
  (mRet (mTup (mCons (mC (.str "true")) mNil))))
def gworst (c : Cs) : Fn := mDef ["wish", "path"] (mworst c)
abbrev sworst : Stmt := topS 24
theorem scworst : FnScope ["wish", "path"] ["wish", "path"] (defScope sworst) := ⟨rfl, rfl, rfl, by decide +kernel, rfl, by decide +kernel, by decide +kernel⟩
def mhardened (c : Cs) : Env → Mo Out := (mRet (mCall (recG ["wish", "path", "part", "place", "inner"] (mput_at) 24) (mCons (mV 0) (mCons (mV 1) (mCons (mCall (gworst c) (mCons (mV 0) (mCons (mV 1) mNil))) mNil)))))
def ghardened (c : Cs) : Fn := mDef ["wish", "path"] (mhardened c)
abbrev shardened : Stmt := topS 25
theorem schardened : FnScope ["wish", "path"] ["wish", "path"] (defScope shardened) := ⟨rfl, rfl, rfl, by decide +kernel, rfl, by decide +kernel, by decide +kernel⟩
def bunlike_timed0 : Env → Mo Out := (mIfS (mAnd (mTB (mBin (mBin (mV 3) (mC (.int 0)) gIx) (mC (.tuple (List.map PyData.str ["next", "till", "ever", "always"]))) (gIn false))) (mTB (mBin (mV 3) (mV 1) (gInD true)))) (mDrop (mApp (mV 1) (mV 3))) mSkip)
def munlike_timed : Env → Mo Out := (mSeq (mAsg 1 (mLstO mNil))
  (mSeq (mFor (mItemsL (mCall gwalked (mCons (mV 0) mNil))) (mSetT [(mSet 2), (mSet 3)]) (bunlike_timed0))
  (mRet (mUn (mV 1) gTuple))))
def gunlike_timed : Fn := mDef ["wish", "found", "_", "part"] (munlike_timed)
abbrev sunlike_timed : Stmt := topS 28
theorem scunlike_timed : FnScope ["wish", "found", "_", "part"] ["wish"] (defScope sunlike_timed) := ⟨rfl, rfl, rfl, by decide +kernel, rfl, by decide +kernel, by decide +kernel⟩
def mtimed_parts (c : Cs) : Env → Mo Out := (mRet (mCall gunlike_timed (mCons (mCall (gneed_wish c) (mCons (mV 0) mNil)) mNil)))
def gtimed_parts (c : Cs) : Fn := mDef ["wish"] (mtimed_parts c)
abbrev stimed_parts : Stmt := topS 26
theorem sctimed_parts : FnScope ["wish"] ["wish"] (defScope stimed_parts) := ⟨rfl, rfl, rfl, by decide +kernel, rfl, by decide +kernel, by decide +kernel⟩
def msoftened (c : Cs) : Env → Mo Out := (mSeq (mIfS (mTB (mCall (gis_plain c) (mCons (mV 0) (mCons (mV 1) mNil)))) (mRet (mCall (recG ["wish", "path", "part", "place", "inner"] (mput_at) 24) (mCons (mV 0) (mCons (mV 1) (mCons (mTup (mCons (mC (.str "true")) mNil)) mNil))))) mSkip)
  (mRet (mCall (recG ["wish", "path", "part", "place", "inner"] (mput_at) 24) (mCons (mV 0) (mCons (mV 1) (mCons (mTup (mCons (mC (.str "false")) mNil)) mNil))))))
def gsoftened (c : Cs) : Fn := mDef ["wish", "path"] (msoftened c)
abbrev ssoftened : Stmt := topS 34
theorem scsoftened : FnScope ["wish", "path"] ["wish", "path"] (defScope ssoftened) := ⟨rfl, rfl, rfl, by decide +kernel, rfl, by decide +kernel, by decide +kernel⟩
def m_law_mixed : Env → Mo Out := (mSeq (mAsg 2 (mBin (mBin (mBin (mUn (mBin (mBin (mV 0) (mBin (mC (.int 1)) (mBin (mC (.int 2)) (mV 1) gMul) gAdd) gMul) (mC (.int 48271)) gMul) gInt) (mC (.int 2147483647)) gMod) (mBin (mBin (mC (.int 7919)) (mV 1) gMul) (mV 1) gMul) gAdd) (mBin (mC (.int 104729)) (mV 1) gMul) gAdd))
  (mRet (mBin (mBin (mUn (mBin (mV 2) (mC (.int 69621)) gMul) gInt) (mC (.int 2147483629)) gMod) (mC (.int 7)) gFdiv)))
def g_law_mixed : Fn := mDef ["cell", "n", "blend"] (m_law_mixed)
abbrev s_law_mixed : Stmt := topS 36
theorem sc_law_mixed : FnScope ["cell", "n", "blend"] ["cell", "n"] (defScope s_law_mixed) := ⟨rfl, rfl, rfl, by decide +kernel, rfl, by decide +kernel, by decide +kernel⟩
def b_law_folded0 : Env → Mo Out := (mSti (mBin (mUn (mBin (mBin (mBin (mV 1) (mBin (mUn (mV 2) gInt) (mC (.int 64)) gMod) gIx) (mC (.int 48271)) gMul) (mV 3) gAdd) gInt) (mC (.int 2147483647)) gMod) (mV 1) (mBin (mUn (mV 2) gInt) (mC (.int 64)) gMod))
def b_law_folded1 : Env → Mo Out := (mSti (mBin (mUn (mBin (mBin (mV 1) (mV 2) gIx) (mBin (mBin (mV 1) (mBin (mV 2) (mC (.int 1)) gSub) gIx) (mC (.int 16807)) gMul) gAdd) gInt) (mC (.int 2147483647)) gMod) (mV 1) (mV 2))
def m_law_folded : Env → Mo Out := (mSeq (mAsg 1 (mLcO (mRange1 (mC (.int 64))) [2] (mSet 2) mYes (mBin (mC (.int 17)) (mV 2) gAdd)))
  (mSeq (mFor (mEnum (mV 0)) (mSetT [(mSet 2), (mSet 3)]) (b_law_folded0))
  (mSeq (mFor (mRange2 (mC (.int 1)) (mC (.int 64))) (mSet 2) (b_law_folded1))
  (mRet (mV 1)))))
def g_law_folded : Fn := mDef ["script", "found", "n", "cell"] (m_law_folded)
abbrev s_law_folded : Stmt := topS 37
theorem sc_law_folded : FnScope ["script", "found", "n", "cell"] ["script"] (defScope s_law_folded) := ⟨rfl, rfl, rfl, by decide +kernel, rfl, by decide +kernel, by decide +kernel⟩
def m_law_draw : Env → Mo Out := (mSeq (mAsg 2 (mUn (mV 0) gSpot))
  (mSeq (mSpotS (mV 0) (mBin (mV 2) (mC (.int 1)) gAdd))
  (mSeq (mIfS (mTB (mBin (mUn (mV 0) gGreat) (mLst mNil) gNe)) (mSeq (mAsg 3 (mUn (mV 0) gGreat))
  (mSeq (mAsg 4 (mBin (mUn (mV 2) gInt) (mUn (mV 3) gLen) gMod))
  (mSeq (mAsg 5 (mBin (mV 3) (mV 4) gIx))
  (mIfS (mTB (mBin (mV 5) (mC (.int 0)) gGt)) (mSeq (mGreatS (mBin (mV 5) (mV 1) gFdiv) (mV 3) (mV 4))
  (mRet (mBin (mUn (mV 5) gInt) (mV 1) gMod))) mSkip)))) mSkip)
  (mSeq (mAsg 3 (mUn (mV 0) gCells))
  (mRet (mBin (mUn (mCall g_law_mixed (mCons (mCall g_law_mixed (mCons (mBin (mBin (mV 3) (mBin (mUn (mV 2) gInt) (mC (.int 64)) gMod) gIx) (mBin (mC (.int 31)) (mBin (mV 2) (mC (.int 64)) gFdiv) gMul) gAdd) (mCons (mV 2) mNil))) (mCons (mBin (mV 2) (mC (.int 7)) gAdd) mNil))) gInt) (mV 1) gMod))))))
def g_law_draw : Fn := mDef ["m", "limit", "n", "lot", "here", "cell"] (m_law_draw)
abbrev s_law_draw : Stmt := topS 38
theorem sc_law_draw : FnScope ["m", "limit", "n", "lot", "here", "cell"] ["m", "limit"] (defScope s_law_draw) := ⟨rfl, rfl, rfl, by decide +kernel, rfl, by decide +kernel, by decide +kernel⟩
def m_law_begun : Env → Mo Out := (mSeq (mAsg 1 (mDisp [Sum.inr "cells", Sum.inr "great", Sum.inr "spot"] (mCons (mCall g_law_folded (mCons (mV 0) mNil)) (mCons (mLst mNil) (mCons (mC (.int 0)) mNil)))))
  (mSeq (mBeg 1 (mLcO (mItemsL (mV 0)) [2] (mSet 2) mYes (mIf (mTB (mBin (mV 2) (mBin (mC (.int 10)) (mC (.int 18)) gPow) gGe)) (mV 2) (mC (.int 0)))))
  (mRet (mV 1))))
def g_law_begun : Fn := mDef ["script", "m", "cell"] (m_law_begun)
abbrev s_law_begun : Stmt := topS 39
theorem sc_law_begun : FnScope ["script", "m", "cell"] ["script"] (defScope s_law_begun) := ⟨rfl, rfl, rfl, by decide +kernel, rfl, by decide +kernel, by decide +kernel⟩
def m_law_like : Env → Mo Out := (mRet (mBin (mUn (mV 0) gRepr) (mUn (mV 1) gRepr) gEq))
def g_law_like : Fn := mDef ["got", "due"] (m_law_like)
abbrev s_law_like : Stmt := topS 40
theorem sc_law_like : FnScope ["got", "due"] ["got", "due"] (defScope s_law_like) := ⟨rfl, rfl, rfl, by decide +kernel, rfl, by decide +kernel, by decide +kernel⟩
def m_law_hope (gr : Fn) : Env → Mo Out := (mSeq (mAsg 3 (mCall g_law_draw (mCons (mV 0) (mCons (mC (.int 10)) mNil))))
  (mSeq (mIfS (mOr (mTB (mBin (mV 1) (mC (.int 2)) gLt)) (mTB (mBin (mV 3) (mC (.int 2)) gLt))) (mSeq (mAsg 4 (mCall g_law_draw (mCons (mV 0) (mCons (mC (.int 5)) mNil))))
  (mRet (mIf (mTB (mBin (mV 4) (mC (.int 2)) gLt)) (mTup (mCons (mC (.str "mark")) (mCons (mCall g_law_draw (mCons (mV 0) (mCons (mC (.int 2)) mNil))) mNil))) (mBin (mLst (mCons (mTup (mCons (mC (.str "mark")) (mCons (mC (.int 2)) mNil))) (mCons (mTup (mCons (mC (.str "true")) mNil)) (mCons (mTup (mCons (mC (.str "false")) mNil)) mNil)))) (mBin (mV 4) (mC (.int 2)) gSub) gIx)))) mSkip)
  (mSeq (mIfS (mOr (mTB (mBin (mV 3) (mC (.int 4)) gLt)) (mTB (mBin (mV 2) (mC (.int 0)) gEq))) (mSeq (mIfS (mOr (mTB (mBin (mV 1) (mC (.int 3)) gLt)) (mTB (mBin (mV 3) (mC (.int 2)) gEq))) (mRet (mTup (mCons (mC (.str "no")) (mCons (mCall gr (mCons (mV 0) (mCons (mBin (mV 1) (mC (.int 1)) gSub) (mCons (mV 2) mNil)))) mNil)))) mSkip)
  (mSeq (mAsg 5 (mBin (mC (.int 1)) (mCall g_law_draw (mCons (mV 0) (mCons (mBin (mV 1) (mC (.int 2)) gSub) mNil))) gAdd))
  (mSeq (mAsg 6 (mCall gr (mCons (mV 0) (mCons (mV 5) (mCons (mBin (mV 2) (mC (.int 2)) gFdiv) mNil)))))
  (mRet (mTup (mCons (mBin (mLst (mCons (mC (.str "and")) (mCons (mC (.str "or")) mNil))) (mCall g_law_draw (mCons (mV 0) (mCons (mC (.int 2)) mNil))) gIx) (mCons (mV 6) (mCons (mCall gr (mCons (mV 0) (mCons (mBin (mBin (mV 1) (mC (.int 1)) gSub) (mV 5) gSub) (mCons (mBin (mV 2) (mBin (mV 2) (mC (.int 2)) gFdiv) gSub) mNil)))) mNil)))))))) mSkip)
  (mSeq (mIfS (mAnd (mTB (mBin (mV 1) (mC (.int 2)) gGt)) (mTB (mBin (mV 3) (mC (.int 6)) gLt))) (mSeq (mAsg 5 (mBin (mC (.int 1)) (mCall g_law_draw (mCons (mV 0) (mCons (mBin (mV 1) (mC (.int 2)) gSub) mNil))) gAdd))
  (mSeq (mAsg 6 (mCall gr (mCons (mV 0) (mCons (mV 5) (mCons (mBin (mBin (mV 2) (mC (.int 1)) gSub) (mC (.int 2)) gFdiv) mNil)))))
  (mRet (mTup (mCons (mC (.str "till")) (mCons (mV 6) (mCons (mCall gr (mCons (mV 0) (mCons (mBin (mBin (mV 1) (mC (.int 1)) gSub) (mV 5) gSub) (mCons (mBin (mBin (mV 2) (mC (.int 1)) gSub) (mBin (mBin (mV 2) (mC (.int 1)) gSub) (mC (.int 2)) gFdiv) gSub) mNil)))) mNil))))))) mSkip)
  (mRet (mTup (mCons (mBin (mLst (mCons (mC (.str "next")) (mCons (mC (.str "ever")) (mCons (mC (.str "always")) mNil)))) (mCall g_law_draw (mCons (mV 0) (mCons (mC (.int 3)) mNil))) gIx) (mCons (mCall gr (mCons (mV 0) (mCons (mBin (mV 1) (mC (.int 1)) gSub) (mCons (mBin (mV 2) (mC (.int 1)) gSub) mNil)))) mNil))))))))
abbrev s_law_hope : Stmt := topS 41
theorem sc_law_hope : FnScope ["m", "left", "timed", "pick", "leaf", "size", "near"] ["m", "left", "timed"] (defScope s_law_hope) := ⟨rfl, rfl, rfl, by decide +kernel, rfl, by decide +kernel, by decide +kernel⟩
def b_law_pieces0 (gr : Fn) : Env → Mo Out := (mIfS (mTB (mBin (mBin (mV 0) (mC (.int 0)) gIx) (mC (.str "mark")) gNe)) (mAsg 1 (mBin (mV 1) (mLc (mItemsL (mCall gr (mCons (mBin (mV 0) (mV 2) gIx) mNil))) [3, 4] (mSetT [(mSet 3), (mSet 4)]) mYes (mTup (mCons (mBin (mTup (mCons (mV 2) mNil)) (mV 3) gCat) (mCons (mV 4) mNil)))) gCat)) mSkip)
def m_law_pieces (gr : Fn) : Env → Mo Out := (mSeq (mAsg 1 (mLst (mCons (mTup (mCons (mTup mNil) (mCons (mV 0) mNil))) mNil)))
  (mSeq (mFor (mRange2 (mC (.int 1)) (mUn (mV 0) gLen)) (mSet 2) (b_law_pieces0 gr))
  (mRet (mV 1))))
abbrev s_law_pieces : Stmt := topS 42
theorem sc_law_pieces : FnScope ["hope", "found", "place", "path", "part"] ["hope"] (defScope s_law_pieces) := ⟨rfl, rfl, rfl, by decide +kernel, rfl, by decide +kernel, by decide +kernel⟩
def m_law_with (gr : Fn) : Env → Mo Out := (mSeq (mIfS (mTB (mBin (mV 1) (mTup mNil) gEq)) (mRet (mV 2)) mSkip)
  (mSeq (mAsg 3 (mBin (mV 1) (mC (.int 0)) gIx))
  (mRet (mBin (mBin (mCut (mV 0) mNoP (mPart (mV 3))) (mTup (mCons (mCall gr (mCons (mBin (mV 0) (mV 3) gIx) (mCons (mCut (mV 1) (mPart (mC (.int 1))) mNoP) (mCons (mV 2) mNil)))) mNil)) gCat) (mCut (mV 0) (mPart (mBin (mV 3) (mC (.int 1)) gAdd)) mNoP) gCat))))
abbrev s_law_with : Stmt := topS 43
theorem sc_law_with : FnScope ["hope", "path", "part", "place"] ["hope", "path", "part"] (defScope s_law_with) := ⟨rfl, rfl, rfl, by decide +kernel, rfl, by decide +kernel, by decide +kernel⟩
def b_law_is_even0 : Env → Mo Out := (mSeq (mAsg 2 (mBin (mV 2) (mUn (mBin (mBin (mV 0) (mC (.int 0)) gIx) (mC (.str "no")) gEq) gInt) gAdd))
  (mAsg 0 (mBin (mV 0) (mV 3) gIx)))
def m_law_is_even : Env → Mo Out := (mSeq (mAsg 2 (mC (.int 0)))
  (mSeq (mFor (mItemsT (mV 1)) (mSet 3) (b_law_is_even0))
  (mRet (mBin (mBin (mUn (mV 2) gInt) (mC (.int 2)) gMod) (mC (.int 0)) gEq))))
def g_law_is_even : Fn := mDef ["hope", "path", "count", "place"] (m_law_is_even)
abbrev s_law_is_even : Stmt := topS 44
theorem sc_law_is_even : FnScope ["hope", "path", "count", "place"] ["hope", "path"] (defScope s_law_is_even) := ⟨rfl, rfl, rfl, by decide +kernel, rfl, by decide +kernel, by decide +kernel⟩
def b_law_timed0 : Env → Mo Out := (mIfS (mAnd (mTB (mBin (mBin (mV 3) (mC (.int 0)) gIx) (mTup (mCons (mC (.str "next")) (mCons (mC (.str "till")) (mCons (mC (.str "ever")) (mCons (mC (.str "always")) mNil))))) (gIn false))) (mTB (mBin (mV 3) (mV 1) (gInD true)))) (mDrop (mApp (mV 1) (mV 3))) mSkip)
def m_law_timed : Env → Mo Out := (mSeq (mAsg 1 (mLstO mNil))
  (mSeq (mFor (mItemsL (mCall (recG ["hope", "found", "place", "path", "part"] (m_law_pieces) 24) (mCons (mV 0) mNil))) (mSetT [(mSet 2), (mSet 3)]) (b_law_timed0))
  (mRet (mV 1))))
def g_law_timed : Fn := mDef ["hope", "found", "path", "part"] (m_law_timed)
abbrev s_law_timed : Stmt := topS 45
theorem sc_law_timed : FnScope ["hope", "found", "path", "part"] ["hope"] (defScope s_law_timed) := ⟨rfl, rfl, rfl, by decide +kernel, rfl, by decide +kernel, by decide +kernel⟩
def m_law_told (c : Cs) : Env → Mo Out := (mSeq (mIfS (mTB (mBin (mV 2) (mC .none) gIsNo)) (mRet (mLst (mCons (mV 1) mNil))) mSkip)
  (mSeq (mAsg 3 (mIf (mTB (mUn (mV 2) (gIsE [(c.wish, false)]))) (mLst (mCons (mTup (mCons (mC (.str "great")) (mCons (mUn (mV 2) (gFld [] "most")) mNil))) mNil)) (mLst mNil)))
  (mSeq (mAsg 3 (mIf (mTB (mUn (mV 2) (gIsE [(c.wish, false)]))) (mBin (mV 3) (mLst (mCons (mTup (mCons (mC (.str "machine")) (mCons (mUn (mV 2) (gFld [c.wish] "path")) mNil))) mNil)) gCat) (mV 3)))
  (mSeq (mAsg 3 (mIf (mTB (mUn (mV 2) (gIsE [(c.wish, true)]))) (mBin (mV 3) (mLst (mCons (mTup (mCons (mC (.str "wish")) (mCons (mUn (mV 2) (gFld [c.wish] "path")) mNil))) mNil)) gCat) (mV 3)))
  (mSeq (mAsg 3 (mIf (mTB (mUn (mV 2) (gIsE [(c.wish, false)]))) (mBin (mV 3) (mLst (mCons (mTup (mCons (mC (.str "path")) (mCons (mUn (mV 2) (gFld [] "value")) mNil))) mNil)) gCat) (mV 3)))
  (mSeq (mAsg 3 (mIf (mTB (mUn (mV 2) (gIsE [(c.wish, false)]))) (mBin (mV 3) (mLst (mCons (mTup (mCons (mC (.str "run")) (mCons (mUn (mV 2) (gFld [] "value")) mNil))) mNil)) gCat) (mV 3)))
  (mSeq (mAsg 3 (mIf (mTB (mUn (mV 2) (gIsE [(c.wish, false)]))) (mBin (mV 3) (mLst (mCons (mTup (mCons (mC (.str "number")) (mCons (mUn (mV 2) (gFld [] "value")) mNil))) mNil)) gCat) (mV 3)))
  (mSeq (mAsg 3 (mIf (mTB (mUn (mV 2) (gIsE [(c.wish, false)]))) (mBin (mV 3) (mLst (mCons (mTup (mCons (mC (.str "paper")) (mCons (mUn (mV 2) (gFld [] "word")) mNil))) mNil)) gCat) (mV 3)))
  (mRet (mIf (mTB (mBin (mUn (mV 3) gLen) (mC (.int 1)) gEq)) (mBin (mV 3) (mC (.int 0)) gIx) (mTup (mCons (mC (.str "other")) mNil))))))))))))
abbrev s_law_told : Stmt := topS 46
theorem sc_law_told : FnScope ["call", "found", "caught", "said", "error"] ["call"] (defScope s_law_told) := ⟨rfl, rfl, rfl, by decide +kernel, rfl, by decide +kernel, by decide +kernel⟩
/-- the law's word for a call that is refused -/
def mTold (c : Cs) (m : Env → Mo SV) : Env → Mo SV := mTry [c.wish] c.tab 0 "_law_right.<locals>.<lambda>" (headE 5 1 2) 2 m (m_law_told c)
def m_law_right (c : Cs) : Env → Mo Out := (mSeq (mAsg 3 (mCall g_law_is_even (mCons (mV 0) (mCons (mV 1) mNil))))
  (mSeq (mAsg 4 (mIf (mTB (mV 3)) (mLst (mCons (mTup (mCons (mC (.str "false")) mNil)) (mCons (mTup (mCons (mC (.str "true")) mNil)) mNil))) (mLst (mCons (mTup (mCons (mC (.str "true")) mNil)) (mCons (mTup (mCons (mC (.str "false")) mNil)) mNil)))))
  (mSeq (mAsg 5 (mBin (mLc (mItemsL (mCall (recG ["hope", "found", "place", "path", "part"] (m_law_pieces) 24) (mCons (mV 0) mNil))) [12, 13] (mSetT [(mSet 12), (mSet 13)]) (mTB (mBin (mV 12) (mV 1) gEq)) (mV 13)) (mC (.int 0)) gIx))
  (mSeq (mAsg 6 (mLst (mCons (mCall (gpart_at c) (mCons (mV 0) (mCons (mV 1) mNil))) (mCons (mCall (gis_plain c) (mCons (mV 0) (mCons (mV 1) mNil))) (mCons (mCall (gworst c) (mCons (mV 0) (mCons (mV 1) mNil))) (mCons (mCall (ghardened c) (mCons (mV 0) (mCons (mV 1) mNil))) (mCons (mCall (gsoftened c) (mCons (mV 0) (mCons (mV 1) mNil))) mNil)))))))
  (mSeq (mAsg 7 (mLst (mCons (mV 5) (mCons (mV 3) (mCons (mBin (mV 4) (mC (.int 0)) gIx) (mCons (mCall (recG ["hope", "path", "part", "place"] (m_law_with) 24) (mCons (mV 0) (mCons (mV 1) (mCons (mBin (mV 4) (mC (.int 0)) gIx) mNil)))) (mCons (mCall (recG ["hope", "path", "part", "place"] (m_law_with) 24) (mCons (mV 0) (mCons (mV 1) (mCons (mBin (mV 4) (mC (.int 1)) gIx) mNil)))) mNil)))))))
  (mSeq (mIfS (mNot (mTB (mCall g_law_like (mCons (mV 6) (mCons (mV 7) mNil))))) (mRet (mC (.bool false))) mSkip)
  (mSeq (mAsg 8 (mCall (recG ["hope", "path", "part", "place"] (m_law_with) 24) (mCons (mV 0) (mCons (mV 1) (mCons (mV 2) mNil)))))
  (mSeq (mAsg 9 (mLc (mItemsL (mCall (recG ["hope", "found", "place", "path", "part"] (m_law_pieces) 24) (mCons (mV 8) mNil))) [12, 13] (mSetT [(mSet 12), (mSet 13)]) mYes (mBin (mV 13) (mC (.int 0)) gIx)))
  (mSeq (mAsg 10 (mLc (mItemsL (mV 9)) [11] (mSet 11) (mTB (mBin (mV 11) (mTup (mCons (mC (.str "next")) (mCons (mC (.str "till")) (mCons (mC (.str "ever")) (mCons (mC (.str "always")) mNil))))) (gIn false))) (mV 11)))
  (mSeq (mIfS (mOr (mTB (mBin (mUn (mV 9) gLen) (mC (.int 12)) gGt)) (mTB (mBin (mUn (mV 10) gLen) (mC (.int 5)) gGt))) (mRet (mBin (mTold c (mCall (greplaced c) (mCons (mV 0) (mCons (mV 1) (mCons (mV 2) mNil))))) (mTup (mCons (mC (.str "wish")) (mCons (mTup mNil) mNil))) gEq)) mSkip)
  (mRet (mCall g_law_like (mCons (mLst (mCons (mCall (greplaced c) (mCons (mV 0) (mCons (mV 1) (mCons (mV 2) mNil)))) (mCons (mCall (greplaced c) (mCons (mV 0) (mCons (mV 1) (mCons (mV 2) mNil)))) mNil))) (mCons (mLst (mCons (mV 8) (mCons (mV 8) mNil))) mNil))))))))))))))
def g_law_right (c : Cs) : Fn := mDef ["hope", "path", "part", "is_so", "constants", "here", "said", "due", "far", "words", "timed", "word", "way", "own"] (m_law_right c)
abbrev s_law_right : Stmt := topS 47
theorem sc_law_right : FnScope ["hope", "path", "part", "is_so", "constants", "here", "said", "due", "far", "words", "timed", "word", "way", "own"] ["hope", "path", "part"] (defScope s_law_right) := ⟨rfl, rfl, rfl, by decide +kernel, rfl, by decide +kernel, by decide +kernel⟩
def blaw0 (c : Cs) : Env → Mo Out := (mSeq (mAsgG (mTup (mCons (mCall (recG ["m", "left", "timed", "pick", "leaf", "size", "near"] (m_law_hope) 13) (mCons (mV 1) (mCons (mBin (mLst (mCons (mC (.int 12)) (mCons (mC (.int 6)) mNil))) (mCall g_law_draw (mCons (mV 1) (mCons (mC (.int 2)) mNil))) gIx) (mCons (mC (.int 5)) mNil)))) (mCons (mCall (recG ["m", "left", "timed", "pick", "leaf", "size", "near"] (m_law_hope) 13) (mCons (mV 1) (mCons (mBin (mLst (mCons (mC (.int 2)) (mCons (mC (.int 8)) mNil))) (mCall g_law_draw (mCons (mV 1) (mCons (mC (.int 2)) mNil))) gIx) (mCons (mC (.int 3)) mNil)))) mNil))) (mSetT [(mSet 3), (mSet 7)]))
  (mSeq (mPar 8 9 (mCons (mUn (mLst (mCons (mV 3) (mCons (mV 7) mNil))) gRepr) (mCons (mCall (recG ["hope", "found", "place", "path", "part"] (m_law_pieces) 24) (mCons (mV 3) mNil)) mNil)))
  (mSeq (mAsg 4 (mLst (mCons (mCall (gpaths c) (mCons (mV 3) mNil)) (mCons (mCall (gpaths c) (mCons (mV 3) mNil)) (mCons (mCall (gtimed_parts c) (mCons (mV 3) mNil)) (mCons (mCall (gtimed_parts c) (mCons (mV 3) mNil)) mNil))))))
  (mSeq (mPar 5 10 (mCons (mUn (mLc (mItemsL (mV 9)) [11, 12] (mSetT [(mSet 11), (mSet 12)]) mYes (mV 11)) gTuple) (mCons (mUn (mCall g_law_timed (mCons (mV 3) mNil)) gTuple) mNil)))
  (mSeq (mIfS (mNot (mTB (mCall g_law_like (mCons (mV 4) (mCons (mLst (mCons (mV 5) (mCons (mV 5) (mCons (mV 10) (mCons (mV 10) mNil))))) mNil))))) (mRet (mC (.bool false))) mSkip)
  (mIfS (mOr (mTB (mBin (mLc (mItemsT (mV 5)) [11] (mSet 11) (mNot (mTB (mCall (g_law_right c) (mCons (mV 3) (mCons (mV 11) (mCons (mV 7) mNil)))))) (mV 11)) (mLst mNil) gNe)) (mTB (mBin (mUn (mLst (mCons (mV 3) (mCons (mV 7) mNil))) gRepr) (mV 8) gNe))) (mRet (mC (.bool false))) mSkip))))))
def mlaw (c : Cs) : Env → Mo Out := (mSeq (mAsg 1 (mCall g_law_begun (mCons (mV 0) mNil)))
  (mSeq (mFor (mRange1 (mC (.int 7))) (mSet 2) (blaw0 c))
  (mSeq (mAsg 3 (mTup (mCons (mC (.str "no")) (mCons (mTup (mCons (mC (.str "and")) (mCons (mTup (mCons (mC (.str "no")) (mCons (mTup (mCons (mC (.str "mark")) (mCons (mC (.int 1)) mNil))) mNil))) (mCons (mTup (mCons (mC (.str "ever")) (mCons (mTup (mCons (mC (.str "no")) (mCons (mTup (mCons (mC (.str "mark")) (mCons (mC (.int 1)) mNil))) mNil))) mNil))) mNil)))) mNil))))
  (mSeq (mAsg 4 (mLst (mCons (mCall (gpaths c) (mCons (mV 3) mNil)) (mCons (mCall (gis_plain c) (mCons (mV 3) (mCons (mTup (mCons (mC (.int 1)) (mCons (mC (.int 1)) mNil))) mNil))) (mCons (mCall (gis_plain c) (mCons (mV 3) (mCons (mTup (mCons (mC (.int 1)) (mCons (mC (.int 1)) (mCons (mC (.int 1)) mNil)))) mNil))) (mCons (mCall (gis_plain c) (mCons (mV 3) (mCons (mTup (mCons (mC (.int 1)) (mCons (mC (.int 2)) (mCons (mC (.int 1)) (mCons (mC (.int 1)) mNil))))) mNil))) mNil))))))
  (mSeq (mAsg 5 (mTup (mCons (mTup mNil) (mCons (mTup (mCons (mC (.int 1)) mNil)) (mCons (mTup (mCons (mC (.int 1)) (mCons (mC (.int 1)) mNil))) (mCons (mTup (mCons (mC (.int 1)) (mCons (mC (.int 1)) (mCons (mC (.int 1)) mNil)))) (mCons (mTup (mCons (mC (.int 1)) (mCons (mC (.int 2)) mNil))) (mCons (mTup (mCons (mC (.int 1)) (mCons (mC (.int 2)) (mCons (mC (.int 1)) mNil)))) (mCons (mTup (mCons (mC (.int 1)) (mCons (mC (.int 2)) (mCons (mC (.int 1)) (mCons (mC (.int 1)) mNil))))) mNil)))))))))
  (mSeq (mIfS (mTB (mBin (mBin (mV 4) (mLst (mCons (mCall (gis_plain c) (mCons (mV 3) (mCons (mTup mNil) mNil))) mNil)) gCat) (mLst (mCons (mV 5) (mCons (mC (.bool false)) (mCons (mC (.bool true)) (mCons (mC (.bool true)) (mCons (mC (.bool true)) mNil)))))) gNe)) (mRet (mC (.bool false))) mSkip)
  (mSeq (mAsg 6 (mTup (mCons (mC (.str "no")) (mCons (mTup (mCons (mC (.str "and")) (mCons (mTup (mCons (mC (.str "no")) (mCons (mTup (mCons (mC (.str "mark")) (mCons (mC (.int 1)) mNil))) mNil))) (mCons (mTup (mCons (mC (.str "true")) mNil)) mNil)))) mNil))))
  (mRet (mAndV (mBin (mCall (ghardened c) (mCons (mV 3) (mCons (mTup (mCons (mC (.int 1)) (mCons (mC (.int 2)) mNil))) mNil))) (mV 6) gEq) (mBin (mCall (ghardened c) (mCons (mV 3) (mCons (mTup mNil) mNil))) (mTup (mCons (mC (.str "false")) mNil)) gEq))))))))))
def glaw (c : Cs) : Fn := mDef ["script", "m", "turn", "hope", "said", "ways", "far", "part", "kept_so", "some", "timed", "path", "own"] (mlaw c)
abbrev slaw : Stmt := topS 48
theorem sclaw : FnScope ["script", "m", "turn", "hope", "said", "ways", "far", "part", "kept_so", "some", "timed", "path", "own"] ["script"] (defScope slaw) := ⟨rfl, rfl, rfl, by decide +kernel, rfl, by decide +kernel, by decide +kernel⟩
section
variable {P : Program} {w : World} {K : PySem.W.Frag} {mg : Str → Option Value} {base : Heap} {f : Addr}
theorem dis_whole  (z : Zn mg) (cdv : Value) (A : Around) (outer : List PySem.Env) (s : Shared) (H : Hp) (E : XK) (hg0 : A.guards = some []) (hr : Room 0 (A.deeper (envOfC "is_whole" (defScope sis_whole) s.heap.objs.size f cdv))) :
    DSs (cxOf (L2.CX P w) P w K mg base ["value"] "is_whole" (defScope sis_whole) f cdv A outer s H E) (EAx K) (fun cls d _ H => E cls d H) (defBody sis_whole) (mis_whole) := by
  have hg : (cxOf (L2.CX P w) P w K mg base ["value"] "is_whole" (defScope sis_whole) f cdv A outer s H E).A.guards = some [] := hg0
  have hu : (cxOf (L2.CX P w) P w K mg base ["value"] "is_whole" (defScope sis_whole) f cdv A outer s H E).A.units + 64 < cLine := hr.units
  have hu65 : (cxOf (L2.CX P w) P w K mg base ["value"] "is_whole" (defScope sis_whole) f cdv A outer s H E).A.units + 65 < cLine := by have := hr.un; show (A.deeper _).units + 65 < cLine; omega
  have hu1 : (cxOf (L2.CX P w) P w K mg base ["value"] "is_whole" (defScope sis_whole) f cdv A outer s H E).A.units + 1 < cLine := hu_of hr
  have hp : PassesOwn (model P w) (cxOf (L2.CX P w) P w K mg base ["value"] "is_whole" (defScope sis_whole) f cdv A outer s H E).A (cxOf (L2.CX P w) P w K mg base ["value"] "is_whole" (defScope sis_whole) f cdv A outer s H E).env (cxOf (L2.CX P w) P w K mg base ["value"] "is_whole" (defScope sis_whole) f cdv A outer s H E).xe := passes_of rfl
  have tk : Takes (cxOf (L2.CX P w) P w K mg base ["value"] "is_whole" (defScope sis_whole) f cdv A outer s H E) (fun cls d _ H => E cls d H) := takes_of rfl rfl rfl rfl
  have nd := scis_whole.nd
  skip
  skip
  exact (dss_one (ds_ret (de_and (de_isi (by decide) z.isinstance z.int (by decide +kernel) (dv 0)) (de_one (de_not (de_isi (by decide) z.isinstance z.bool (by decide +kernel) (dv 0)))))))
theorem dis_number  (Fis_whole : OwnF P w K mg base (EAx K) 1 "is_whole" 1 gis_whole) (z : Zn mg) (cdv : Value) (A : Around) (outer : List PySem.Env) (s : Shared) (H : Hp) (E : XK) (hg0 : A.guards = some []) (hr : Room 1 (A.deeper (envOfC "is_number" (defScope sis_number) s.heap.objs.size f cdv))) :
    DSs (cxOf (L2.CX P w) P w K mg base ["value", "least", "most"] "is_number" (defScope sis_number) f cdv A outer s H E) (EAx K) (fun cls d _ H => E cls d H) (defBody sis_number) (mis_number) := by
  have hg : (cxOf (L2.CX P w) P w K mg base ["value", "least", "most"] "is_number" (defScope sis_number) f cdv A outer s H E).A.guards = some [] := hg0
  have hu : (cxOf (L2.CX P w) P w K mg base ["value", "least", "most"] "is_number" (defScope sis_number) f cdv A outer s H E).A.units + 64 < cLine := hr.units
  have hu65 : (cxOf (L2.CX P w) P w K mg base ["value", "least", "most"] "is_number" (defScope sis_number) f cdv A outer s H E).A.units + 65 < cLine := by have := hr.un; show (A.deeper _).units + 65 < cLine; omega
  have hu1 : (cxOf (L2.CX P w) P w K mg base ["value", "least", "most"] "is_number" (defScope sis_number) f cdv A outer s H E).A.units + 1 < cLine := hu_of hr
  have hp : PassesOwn (model P w) (cxOf (L2.CX P w) P w K mg base ["value", "least", "most"] "is_number" (defScope sis_number) f cdv A outer s H E).A (cxOf (L2.CX P w) P w K mg base ["value", "least", "most"] "is_number" (defScope sis_number) f cdv A outer s H E).env (cxOf (L2.CX P w) P w K mg base ["value", "least", "most"] "is_number" (defScope sis_number) f cdv A outer s H E).xe := passes_of rfl
  have tk : Takes (cxOf (L2.CX P w) P w K mg base ["value", "least", "most"] "is_number" (defScope sis_number) f cdv A outer s H E) (fun cls d _ H => E cls d H) := takes_of rfl rfl rfl rfl
  have nd := scis_number.nd
  skip
  skip
  exact (dss_one (ds_ret (de_and (de_own Fis_whole hg (hr.mono (by decide)) tk (da_cons (dv 0) da_nil) (LenM.cons LenM.nil)) (de_one (de_lele (dv 1) (dv 0) (dv 2))))))
theorem d_has_form  (Fis_number : OwnF P w K mg base (EAx K) 2 "is_number" 3 gis_number) (IMOST_MARK : IntN mg "MOST_MARK" 3) (DWANTS : DicN w.params K mg "WANTS" wants) (z : Zn mg) (cdv : Value) (A : Around) (outer : List PySem.Env) (s : Shared) (H : Hp) (E : XK) (hg0 : A.guards = some []) (hr : Room 2 (A.deeper (envOfC "_has_form" (defScope s_has_form) s.heap.objs.size f cdv))) :
    DSs (cxOf (L2.CX P w) P w K mg base ["part", "word"] "_has_form" (defScope s_has_form) f cdv A outer s H E) (EAx K) (fun cls d _ H => E cls d H) (defBody s_has_form) (m_has_form) := by
  have hg : (cxOf (L2.CX P w) P w K mg base ["part", "word"] "_has_form" (defScope s_has_form) f cdv A outer s H E).A.guards = some [] := hg0
  have hu : (cxOf (L2.CX P w) P w K mg base ["part", "word"] "_has_form" (defScope s_has_form) f cdv A outer s H E).A.units + 64 < cLine := hr.units
  have hu65 : (cxOf (L2.CX P w) P w K mg base ["part", "word"] "_has_form" (defScope s_has_form) f cdv A outer s H E).A.units + 65 < cLine := by have := hr.un; show (A.deeper _).units + 65 < cLine; omega
  have hu1 : (cxOf (L2.CX P w) P w K mg base ["part", "word"] "_has_form" (defScope s_has_form) f cdv A outer s H E).A.units + 1 < cLine := hu_of hr
  have hp : PassesOwn (model P w) (cxOf (L2.CX P w) P w K mg base ["part", "word"] "_has_form" (defScope s_has_form) f cdv A outer s H E).A (cxOf (L2.CX P w) P w K mg base ["part", "word"] "_has_form" (defScope s_has_form) f cdv A outer s H E).env (cxOf (L2.CX P w) P w K mg base ["part", "word"] "_has_form" (defScope s_has_form) f cdv A outer s H E).xe := passes_of rfl
  have tk : Takes (cxOf (L2.CX P w) P w K mg base ["part", "word"] "_has_form" (defScope s_has_form) f cdv A outer s H E) (fun cls d _ H => E cls d H) := takes_of rfl rfl rfl rfl
  have nd := sc_has_form.nd
  skip
  skip
  exact (dss_cons (ds_if (dt_w (dw_or (dt_not (dt_val (de_isi (by decide) z.isinstance z.tuple (by decide +kernel) (dv 0)))) (dw_or1 (dt_eq hu (dv 0) (de_tup da_nil))))) (dss_one (ds_ret d_bl)) dss_nil)
    (dss_cons (ds_asg (i := 1) nd (de_ix (dv 0) d_int))
    (dss_cons (ds_if (dt_w (dw_or (dt_not (dt_val (de_isi (by decide) z.isinstance z.str (by decide +kernel) (dv 1)))) (dw_or1 (dt_notinW DWANTS (dv 1))))) (dss_one (ds_ret d_bl)) dss_nil)
    (dss_cons (ds_if (dt_ne hu (de_b1 call_len un_len z.len (by decide +kernel) (dv 0)) (de_add d_int (de_ixW DWANTS (dv 1)))) (dss_one (ds_ret d_bl)) dss_nil)
    (dss_one (ds_ret (de_or (de_ne hu (dv 1) d_str) (de_one (de_own Fis_number hg (hr.mono (by decide)) tk (da_cons (de_ix (dv 0) d_int) (da_cons d_int (da_cons (d_intN IMOST_MARK) da_nil))) (LenM.cons (LenM.cons (LenM.cons LenM.nil))))))))))))
theorem d_within  (z : Zn mg) (cdv : Value) (A : Around) (outer : List PySem.Env) (s : Shared) (H : Hp) (E : XK) (hg0 : A.guards = some []) (hr : Room 0 (A.deeper (envOfC "_within" (defScope s_within) s.heap.objs.size f cdv))) :
    DSs (cxOf (L2.CX P w) P w K mg base ["path", "part", "place", "inner"] "_within" (defScope s_within) f cdv A outer s H E) (EAx K) (fun cls d _ H => E cls d H) (defBody s_within) (m_within) := by
  have hg : (cxOf (L2.CX P w) P w K mg base ["path", "part", "place", "inner"] "_within" (defScope s_within) f cdv A outer s H E).A.guards = some [] := hg0
  have hu : (cxOf (L2.CX P w) P w K mg base ["path", "part", "place", "inner"] "_within" (defScope s_within) f cdv A outer s H E).A.units + 64 < cLine := hr.units
  have hu65 : (cxOf (L2.CX P w) P w K mg base ["path", "part", "place", "inner"] "_within" (defScope s_within) f cdv A outer s H E).A.units + 65 < cLine := by have := hr.un; show (A.deeper _).units + 65 < cLine; omega
  have hu1 : (cxOf (L2.CX P w) P w K mg base ["path", "part", "place", "inner"] "_within" (defScope s_within) f cdv A outer s H E).A.units + 1 < cLine := hu_of hr
  have hp : PassesOwn (model P w) (cxOf (L2.CX P w) P w K mg base ["path", "part", "place", "inner"] "_within" (defScope s_within) f cdv A outer s H E).A (cxOf (L2.CX P w) P w K mg base ["path", "part", "place", "inner"] "_within" (defScope s_within) f cdv A outer s H E).env (cxOf (L2.CX P w) P w K mg base ["path", "part", "place", "inner"] "_within" (defScope s_within) f cdv A outer s H E).xe := passes_of rfl
  have tk : Takes (cxOf (L2.CX P w) P w K mg base ["path", "part", "place", "inner"] "_within" (defScope s_within) f cdv A outer s H E) (fun cls d _ H => E cls d H) := takes_of rfl rfl rfl rfl
  have nd := sc_within.nd
  skip
  skip
  exact (dss_cons (ds_if (dt_eq hu (de_ix (dv 1) d_int) d_str) (dss_one (ds_ret (de_lst da_nil))) dss_nil)
    (dss_one (ds_ret (de_lc (own := [("place", 2), ("inner", 3)]) rfl nd (di_enumK z.enumerate (de_cut (dv 1) (do_some d_int) do_none)) (blk_of (by rfl)) (fun _ _ _ _ _ => (dg_tup rfl (dgs_cons (dg_name (i := 2) nd) (dgs_cons (dg_name (i := 3) nd) dgs_nil)))) (fun _ _ _ _ _ => dts_nil) (fun _ _ _ _ _ => (de_tup (da_cons (de_cat (dv 0) (de_tup (da_cons (dv 2) da_nil))) (da_cons (dv 3) da_nil)))) (by decide)))))
theorem dneed_wish (c : Cs)  (F_has_form : OwnF P w K mg base (EAx K) 3 "_has_form" 1 g_has_form) (F_within : OwnF P w K mg base (EAx K) 1 "_within" 2 g_within) (RBadWish : OwnR P w K mg base 1 "BadWish" c.wish ["path"]) (IMOST_PARTS : IntN mg "MOST_PARTS" 12) (IMOST_TIMED : IntN mg "MOST_TIMED" 5) (TTIMED : TupN K mg "TIMED" ["next", "till", "ever", "always"]) (z : Zn mg) (cdv : Value) (A : Around) (outer : List PySem.Env) (s : Shared) (H : Hp) (E : XK) (hg0 : A.guards = some []) (hr : Room 3 (A.deeper (envOfC "need_wish" (defScope sneed_wish) s.heap.objs.size f cdv))) :
    DSs (cxOf (L2.CX P w) P w K mg base ["wish", "many", "timed", "waiting", "path", "part"] "need_wish" (defScope sneed_wish) f cdv A outer s H E) (EAx K) (fun cls d _ H => E cls d H) (defBody sneed_wish) (mneed_wish c) := by
  have hg : (cxOf (L2.CX P w) P w K mg base ["wish", "many", "timed", "waiting", "path", "part"] "need_wish" (defScope sneed_wish) f cdv A outer s H E).A.guards = some [] := hg0
  have hu : (cxOf (L2.CX P w) P w K mg base ["wish", "many", "timed", "waiting", "path", "part"] "need_wish" (defScope sneed_wish) f cdv A outer s H E).A.units + 64 < cLine := hr.units
  have hu65 : (cxOf (L2.CX P w) P w K mg base ["wish", "many", "timed", "waiting", "path", "part"] "need_wish" (defScope sneed_wish) f cdv A outer s H E).A.units + 65 < cLine := by have := hr.un; show (A.deeper _).units + 65 < cLine; omega
  have hu1 : (cxOf (L2.CX P w) P w K mg base ["wish", "many", "timed", "waiting", "path", "part"] "need_wish" (defScope sneed_wish) f cdv A outer s H E).A.units + 1 < cLine := hu_of hr
  have hp : PassesOwn (model P w) (cxOf (L2.CX P w) P w K mg base ["wish", "many", "timed", "waiting", "path", "part"] "need_wish" (defScope sneed_wish) f cdv A outer s H E).A (cxOf (L2.CX P w) P w K mg base ["wish", "many", "timed", "waiting", "path", "part"] "need_wish" (defScope sneed_wish) f cdv A outer s H E).env (cxOf (L2.CX P w) P w K mg base ["wish", "many", "timed", "waiting", "path", "part"] "need_wish" (defScope sneed_wish) f cdv A outer s H E).xe := passes_of rfl
  have tk : Takes (cxOf (L2.CX P w) P w K mg base ["wish", "many", "timed", "waiting", "path", "part"] "need_wish" (defScope sneed_wish) f cdv A outer s H E) (fun cls d _ H => E cls d H) := takes_of rfl rfl rfl rfl
  have nd := scneed_wish.nd
  skip
  skip
  exact (dss_cons (ds_asg2 (i := 1) (j := 2) nd d_int)
    (dss_cons (ds_asg (i := 3) nd (de_lstO (da_cons (de_tup (da_cons (de_tup da_nil) (da_cons (dv 0) da_nil))) da_nil)))
    (dss_cons (ds_while 100 hp (dt_tr (dv 3)) (dss_cons (ds_asgG (de_pop (dv 3)) (dg_tup rfl (dgs_cons (dg_name (i := 4) nd) (dgs_cons (dg_name (i := 5) nd) dgs_nil))) (ne := (NoErr.tup (ne_cons (NoErr.name 4) (ne_cons (NoErr.name 5) ne_nil)))))
    (dss_cons (ds_if (dt_not (dt_val (de_own F_has_form hg (hr.mono (by decide)) tk (da_cons (dv 5) da_nil) (LenM.cons LenM.nil)))) (dss_one (ds_raiseO (flds := ["path"]) tk RBadWish hg (hr.mono (by decide)) (da_cons (dv 4) da_nil))) dss_nil)
    (dss_cons (ds_augAdd (i := 1) nd d_int)
    (dss_cons (ds_if (dt_in (de_ix (dv 5) d_int) (d_tupN TTIMED)) (dss_one (ds_augAdd (i := 2) nd d_int)) dss_nil)
    (dss_cons (ds_if (dt_w (dw_or (dt_gt (dv 1) (d_intN IMOST_PARTS)) (dw_or1 (dt_gt (dv 2) (d_intN IMOST_TIMED))))) (dss_one (ds_raiseO (flds := ["path"]) tk RBadWish hg (hr.mono (by decide)) (da_cons (de_tup da_nil) da_nil))) dss_nil)
    (dss_one (ds_ext (i := 3) nd (de_revL (de_own F_within hg (hr.mono (by decide)) tk (da_cons (dv 4) (da_cons (dv 5) da_nil)) (LenM.cons (LenM.cons LenM.nil))))))))))))
    (dss_one (ds_ret (dv 0))))))
theorem dis_path  (Fis_number : OwnF P w K mg base (EAx K) 2 "is_number" 3 gis_number) (z : Zn mg) (cdv : Value) (A : Around) (outer : List PySem.Env) (s : Shared) (H : Hp) (E : XK) (hg0 : A.guards = some []) (hr : Room 2 (A.deeper (envOfC "is_path" (defScope sis_path) s.heap.objs.size f cdv))) :
    DSs (cxOf (L2.CX P w) P w K mg base ["wish", "value", "part", "place"] "is_path" (defScope sis_path) f cdv A outer s H E) (EAx K) (fun cls d _ H => E cls d H) (defBody sis_path) (mis_path) := by
  have hg : (cxOf (L2.CX P w) P w K mg base ["wish", "value", "part", "place"] "is_path" (defScope sis_path) f cdv A outer s H E).A.guards = some [] := hg0
  have hu : (cxOf (L2.CX P w) P w K mg base ["wish", "value", "part", "place"] "is_path" (defScope sis_path) f cdv A outer s H E).A.units + 64 < cLine := hr.units
  have hu65 : (cxOf (L2.CX P w) P w K mg base ["wish", "value", "part", "place"] "is_path" (defScope sis_path) f cdv A outer s H E).A.units + 65 < cLine := by have := hr.un; show (A.deeper _).units + 65 < cLine; omega
  have hu1 : (cxOf (L2.CX P w) P w K mg base ["wish", "value", "part", "place"] "is_path" (defScope sis_path) f cdv A outer s H E).A.units + 1 < cLine := hu_of hr
  have hp : PassesOwn (model P w) (cxOf (L2.CX P w) P w K mg base ["wish", "value", "part", "place"] "is_path" (defScope sis_path) f cdv A outer s H E).A (cxOf (L2.CX P w) P w K mg base ["wish", "value", "part", "place"] "is_path" (defScope sis_path) f cdv A outer s H E).env (cxOf (L2.CX P w) P w K mg base ["wish", "value", "part", "place"] "is_path" (defScope sis_path) f cdv A outer s H E).xe := passes_of rfl
  have tk : Takes (cxOf (L2.CX P w) P w K mg base ["wish", "value", "part", "place"] "is_path" (defScope sis_path) f cdv A outer s H E) (fun cls d _ H => E cls d H) := takes_of rfl rfl rfl rfl
  have nd := scis_path.nd
  skip
  skip
  exact (dss_cons (ds_if (dt_not (dt_val (de_isi (by decide) z.isinstance z.tuple (by decide +kernel) (dv 1)))) (dss_one (ds_ret d_bl)) dss_nil)
    (dss_cons (ds_asg (i := 2) nd (dv 0))
    (dss_cons (ds_for hp rfl (di_tup (dv 1)) (dg_name (i := 3) nd) (dss_cons (ds_if (dt_w (dw_or (dt_eq hu (de_ix (dv 2) d_int) d_str) (dw_or1 (dt_not (dt_val (de_own Fis_number hg (hr.mono (by decide)) tk (da_cons (dv 3) (da_cons d_int (da_cons (de_sub (de_b1 call_len un_len z.len (by decide +kernel) (dv 2)) d_int) da_nil))) (LenM.cons (LenM.cons (LenM.cons LenM.nil))))))))) (dss_one (ds_ret d_bl)) dss_nil)
    (dss_one (ds_asg (i := 2) nd (de_ix (dv 2) (dv 3))))) (NoErr.name 3))
    (dss_one (ds_ret d_bl)))))
theorem dneed_path (c : Cs)  (Fneed_wish : OwnF P w K mg base (EAx K) 4 "need_wish" 1 (gneed_wish c)) (Fis_path : OwnF P w K mg base (EAx K) 3 "is_path" 2 gis_path) (RBadPath : OwnR P w K mg base 1 "BadPath" c.path ["value"]) (z : Zn mg) (cdv : Value) (A : Around) (outer : List PySem.Env) (s : Shared) (H : Hp) (E : XK) (hg0 : A.guards = some []) (hr : Room 4 (A.deeper (envOfC "need_path" (defScope sneed_path) s.heap.objs.size f cdv))) :
    DSs (cxOf (L2.CX P w) P w K mg base ["wish", "path"] "need_path" (defScope sneed_path) f cdv A outer s H E) (EAx K) (fun cls d _ H => E cls d H) (defBody sneed_path) (mneed_path c) := by
  have hg : (cxOf (L2.CX P w) P w K mg base ["wish", "path"] "need_path" (defScope sneed_path) f cdv A outer s H E).A.guards = some [] := hg0
  have hu : (cxOf (L2.CX P w) P w K mg base ["wish", "path"] "need_path" (defScope sneed_path) f cdv A outer s H E).A.units + 64 < cLine := hr.units
  have hu65 : (cxOf (L2.CX P w) P w K mg base ["wish", "path"] "need_path" (defScope sneed_path) f cdv A outer s H E).A.units + 65 < cLine := by have := hr.un; show (A.deeper _).units + 65 < cLine; omega
  have hu1 : (cxOf (L2.CX P w) P w K mg base ["wish", "path"] "need_path" (defScope sneed_path) f cdv A outer s H E).A.units + 1 < cLine := hu_of hr
  have hp : PassesOwn (model P w) (cxOf (L2.CX P w) P w K mg base ["wish", "path"] "need_path" (defScope sneed_path) f cdv A outer s H E).A (cxOf (L2.CX P w) P w K mg base ["wish", "path"] "need_path" (defScope sneed_path) f cdv A outer s H E).env (cxOf (L2.CX P w) P w K mg base ["wish", "path"] "need_path" (defScope sneed_path) f cdv A outer s H E).xe := passes_of rfl
  have tk : Takes (cxOf (L2.CX P w) P w K mg base ["wish", "path"] "need_path" (defScope sneed_path) f cdv A outer s H E) (fun cls d _ H => E cls d H) := takes_of rfl rfl rfl rfl
  have nd := scneed_path.nd
  skip
  skip
  exact (dss_cons (ds_drop (de_own Fneed_wish hg (hr.mono (by decide)) tk (da_cons (dv 0) da_nil) (LenM.cons LenM.nil)))
    (dss_cons (ds_if (dt_not (dt_val (de_own Fis_path hg (hr.mono (by decide)) tk (da_cons (dv 0) (da_cons (dv 1) da_nil)) (LenM.cons (LenM.cons LenM.nil))))) (dss_one (ds_raiseO (flds := ["value"]) tk RBadPath hg (hr.mono (by decide)) (da_cons (dv 1) da_nil))) dss_nil)
    (dss_one (ds_ret (dv 1)))))
theorem dwalked  (F_within : OwnF P w K mg base (EAx K) 1 "_within" 2 g_within) (z : Zn mg) (cdv : Value) (A : Around) (outer : List PySem.Env) (s : Shared) (H : Hp) (E : XK) (hg0 : A.guards = some []) (hr : Room 1 (A.deeper (envOfC "walked" (defScope swalked) s.heap.objs.size f cdv))) :
    DSs (cxOf (L2.CX P w) P w K mg base ["wish", "found", "waiting", "path", "part"] "walked" (defScope swalked) f cdv A outer s H E) (EAx K) (fun cls d _ H => E cls d H) (defBody swalked) (mwalked) := by
  have hg : (cxOf (L2.CX P w) P w K mg base ["wish", "found", "waiting", "path", "part"] "walked" (defScope swalked) f cdv A outer s H E).A.guards = some [] := hg0
  have hu : (cxOf (L2.CX P w) P w K mg base ["wish", "found", "waiting", "path", "part"] "walked" (defScope swalked) f cdv A outer s H E).A.units + 64 < cLine := hr.units
  have hu65 : (cxOf (L2.CX P w) P w K mg base ["wish", "found", "waiting", "path", "part"] "walked" (defScope swalked) f cdv A outer s H E).A.units + 65 < cLine := by have := hr.un; show (A.deeper _).units + 65 < cLine; omega
  have hu1 : (cxOf (L2.CX P w) P w K mg base ["wish", "found", "waiting", "path", "part"] "walked" (defScope swalked) f cdv A outer s H E).A.units + 1 < cLine := hu_of hr
  have hp : PassesOwn (model P w) (cxOf (L2.CX P w) P w K mg base ["wish", "found", "waiting", "path", "part"] "walked" (defScope swalked) f cdv A outer s H E).A (cxOf (L2.CX P w) P w K mg base ["wish", "found", "waiting", "path", "part"] "walked" (defScope swalked) f cdv A outer s H E).env (cxOf (L2.CX P w) P w K mg base ["wish", "found", "waiting", "path", "part"] "walked" (defScope swalked) f cdv A outer s H E).xe := passes_of rfl
  have tk : Takes (cxOf (L2.CX P w) P w K mg base ["wish", "found", "waiting", "path", "part"] "walked" (defScope swalked) f cdv A outer s H E) (fun cls d _ H => E cls d H) := takes_of rfl rfl rfl rfl
  have nd := scwalked.nd
  skip
  skip
  exact (dss_cons (ds_asg (i := 1) nd (de_lstO da_nil))
    (dss_cons (ds_asg (i := 2) nd (de_lstO (da_cons (de_tup (da_cons (de_tup da_nil) (da_cons (dv 0) da_nil))) da_nil)))
    (dss_cons (ds_while 100 hp (dt_tr (dv 2)) (dss_cons (ds_asgG (de_pop (dv 2)) (dg_tup rfl (dgs_cons (dg_name (i := 3) nd) (dgs_cons (dg_name (i := 4) nd) dgs_nil))) (ne := (NoErr.tup (ne_cons (NoErr.name 3) (ne_cons (NoErr.name 4) ne_nil)))))
    (dss_cons (ds_drop (de_app (dv 1) (de_tup (da_cons (dv 3) (da_cons (dv 4) da_nil)))))
    (dss_one (ds_ext (i := 2) nd (de_revL (de_own F_within hg (hr.mono (by decide)) tk (da_cons (dv 3) (da_cons (dv 4) da_nil)) (LenM.cons (LenM.cons LenM.nil)))))))))
    (dss_one (ds_ret (dv 1))))))
theorem dpaths (c : Cs)  (Fneed_wish : OwnF P w K mg base (EAx K) 4 "need_wish" 1 (gneed_wish c)) (Fwalked : OwnF P w K mg base (EAx K) 2 "walked" 1 gwalked) (z : Zn mg) (cdv : Value) (A : Around) (outer : List PySem.Env) (s : Shared) (H : Hp) (E : XK) (hg0 : A.guards = some []) (hr : Room 4 (A.deeper (envOfC "paths" (defScope spaths) s.heap.objs.size f cdv))) :
    DSs (cxOf (L2.CX P w) P w K mg base ["wish", "path", "_"] "paths" (defScope spaths) f cdv A outer s H E) (EAx K) (fun cls d _ H => E cls d H) (defBody spaths) (mpaths c) := by
  have hg : (cxOf (L2.CX P w) P w K mg base ["wish", "path", "_"] "paths" (defScope spaths) f cdv A outer s H E).A.guards = some [] := hg0
  have hu : (cxOf (L2.CX P w) P w K mg base ["wish", "path", "_"] "paths" (defScope spaths) f cdv A outer s H E).A.units + 64 < cLine := hr.units
  have hu65 : (cxOf (L2.CX P w) P w K mg base ["wish", "path", "_"] "paths" (defScope spaths) f cdv A outer s H E).A.units + 65 < cLine := by have := hr.un; show (A.deeper _).units + 65 < cLine; omega
  have hu1 : (cxOf (L2.CX P w) P w K mg base ["wish", "path", "_"] "paths" (defScope spaths) f cdv A outer s H E).A.units + 1 < cLine := hu_of hr
  have hp : PassesOwn (model P w) (cxOf (L2.CX P w) P w K mg base ["wish", "path", "_"] "paths" (defScope spaths) f cdv A outer s H E).A (cxOf (L2.CX P w) P w K mg base ["wish", "path", "_"] "paths" (defScope spaths) f cdv A outer s H E).env (cxOf (L2.CX P w) P w K mg base ["wish", "path", "_"] "paths" (defScope spaths) f cdv A outer s H E).xe := passes_of rfl
  have tk : Takes (cxOf (L2.CX P w) P w K mg base ["wish", "path", "_"] "paths" (defScope spaths) f cdv A outer s H E) (fun cls d _ H => E cls d H) := takes_of rfl rfl rfl rfl
  have nd := scpaths.nd
  skip
  skip
  exact (dss_cons (ds_drop (de_own Fneed_wish hg (hr.mono (by decide)) tk (da_cons (dv 0) da_nil) (LenM.cons LenM.nil)))
    (dss_one (ds_ret (de_t1 call_tuple_of un_tuple z.tuple (by decide +kernel) (de_lc (own := [("path", 1), ("_", 2)]) rfl nd (di_list (de_own Fwalked hg (hr.mono (by decide)) tk (da_cons (dv 0) da_nil) (LenM.cons LenM.nil))) (blk_of (by rfl)) (fun _ _ _ _ _ => (dg_tup rfl (dgs_cons (dg_name (i := 1) nd) (dgs_cons (dg_name (i := 2) nd) dgs_nil)))) (fun _ _ _ _ _ => dts_nil) (fun _ _ _ _ _ => (dv 1)) (by decide))))))
theorem dpart_at (c : Cs)  (Fneed_path : OwnF P w K mg base (EAx K) 5 "need_path" 2 (gneed_path c)) (z : Zn mg) (cdv : Value) (A : Around) (outer : List PySem.Env) (s : Shared) (H : Hp) (E : XK) (hg0 : A.guards = some []) (hr : Room 5 (A.deeper (envOfC "part_at" (defScope spart_at) s.heap.objs.size f cdv))) :
    DSs (cxOf (L2.CX P w) P w K mg base ["wish", "path", "part", "place"] "part_at" (defScope spart_at) f cdv A outer s H E) (EAx K) (fun cls d _ H => E cls d H) (defBody spart_at) (mpart_at c) := by
  have hg : (cxOf (L2.CX P w) P w K mg base ["wish", "path", "part", "place"] "part_at" (defScope spart_at) f cdv A outer s H E).A.guards = some [] := hg0
  have hu : (cxOf (L2.CX P w) P w K mg base ["wish", "path", "part", "place"] "part_at" (defScope spart_at) f cdv A outer s H E).A.units + 64 < cLine := hr.units
  have hu65 : (cxOf (L2.CX P w) P w K mg base ["wish", "path", "part", "place"] "part_at" (defScope spart_at) f cdv A outer s H E).A.units + 65 < cLine := by have := hr.un; show (A.deeper _).units + 65 < cLine; omega
  have hu1 : (cxOf (L2.CX P w) P w K mg base ["wish", "path", "part", "place"] "part_at" (defScope spart_at) f cdv A outer s H E).A.units + 1 < cLine := hu_of hr
  have hp : PassesOwn (model P w) (cxOf (L2.CX P w) P w K mg base ["wish", "path", "part", "place"] "part_at" (defScope spart_at) f cdv A outer s H E).A (cxOf (L2.CX P w) P w K mg base ["wish", "path", "part", "place"] "part_at" (defScope spart_at) f cdv A outer s H E).env (cxOf (L2.CX P w) P w K mg base ["wish", "path", "part", "place"] "part_at" (defScope spart_at) f cdv A outer s H E).xe := passes_of rfl
  have tk : Takes (cxOf (L2.CX P w) P w K mg base ["wish", "path", "part", "place"] "part_at" (defScope spart_at) f cdv A outer s H E) (fun cls d _ H => E cls d H) := takes_of rfl rfl rfl rfl
  have nd := scpart_at.nd
  skip
  skip
  exact (dss_cons (ds_drop (de_own Fneed_path hg (hr.mono (by decide)) tk (da_cons (dv 0) (da_cons (dv 1) da_nil)) (LenM.cons (LenM.cons LenM.nil))))
    (dss_cons (ds_asg (i := 2) nd (dv 0))
    (dss_cons (ds_for hp rfl (di_tup (dv 1)) (dg_name (i := 3) nd) (dss_one (ds_asg (i := 2) nd (de_ix (dv 2) (dv 3)))) (NoErr.name 3))
    (dss_one (ds_ret (dv 2))))))
theorem dput_at (gr : Fn) (k : Nat)  (Fput_at : OwnF P w K mg base (EAx K) (0 + k) "put_at" 3 gr) (z : Zn mg) (cdv : Value) (A : Around) (outer : List PySem.Env) (s : Shared) (H : Hp) (E : XK) (hg0 : A.guards = some []) (hr : Room (0 + k) (A.deeper (envOfC "put_at" (defScope sput_at) s.heap.objs.size f cdv))) :
    DSs (cxOf (L2.CX P w) P w K mg base ["wish", "path", "part", "place", "inner"] "put_at" (defScope sput_at) f cdv A outer s H E) (EAx K) (fun cls d _ H => E cls d H) (defBody sput_at) (mput_at gr) := by
  have hg : (cxOf (L2.CX P w) P w K mg base ["wish", "path", "part", "place", "inner"] "put_at" (defScope sput_at) f cdv A outer s H E).A.guards = some [] := hg0
  have hu : (cxOf (L2.CX P w) P w K mg base ["wish", "path", "part", "place", "inner"] "put_at" (defScope sput_at) f cdv A outer s H E).A.units + 64 < cLine := hr.units
  have hu65 : (cxOf (L2.CX P w) P w K mg base ["wish", "path", "part", "place", "inner"] "put_at" (defScope sput_at) f cdv A outer s H E).A.units + 65 < cLine := by have := hr.un; show (A.deeper _).units + 65 < cLine; omega
  have hu1 : (cxOf (L2.CX P w) P w K mg base ["wish", "path", "part", "place", "inner"] "put_at" (defScope sput_at) f cdv A outer s H E).A.units + 1 < cLine := hu_of hr
  have hp : PassesOwn (model P w) (cxOf (L2.CX P w) P w K mg base ["wish", "path", "part", "place", "inner"] "put_at" (defScope sput_at) f cdv A outer s H E).A (cxOf (L2.CX P w) P w K mg base ["wish", "path", "part", "place", "inner"] "put_at" (defScope sput_at) f cdv A outer s H E).env (cxOf (L2.CX P w) P w K mg base ["wish", "path", "part", "place", "inner"] "put_at" (defScope sput_at) f cdv A outer s H E).xe := passes_of rfl
  have tk : Takes (cxOf (L2.CX P w) P w K mg base ["wish", "path", "part", "place", "inner"] "put_at" (defScope sput_at) f cdv A outer s H E) (fun cls d _ H => E cls d H) := takes_of rfl rfl rfl rfl
  have nd := scput_at.nd
  skip
  skip
  exact (dss_cons (ds_if (dt_eq hu (dv 1) (de_tup da_nil)) (dss_one (ds_ret (dv 2))) dss_nil)
    (dss_cons (ds_asg (i := 3) nd (de_ix (dv 1) d_int))
    (dss_cons (ds_asg (i := 4) nd (de_own Fput_at hg (hr.mono (Nat.le_refl _)) tk (da_cons (de_ix (dv 0) (dv 3)) (da_cons (de_cut (dv 1) (do_some d_int) do_none) (da_cons (dv 2) da_nil))) (LenM.cons (LenM.cons (LenM.cons LenM.nil)))))
    (dss_one (ds_ret (de_cat (de_cat (de_cut (dv 0) do_none (do_some (dv 3))) (de_tup (da_cons (dv 4) da_nil))) (de_cut (dv 0) (do_some (de_add (dv 3) d_int)) do_none)))))))
theorem dreplaced (c : Cs)  (Fneed_path : OwnF P w K mg base (EAx K) 5 "need_path" 2 (gneed_path c)) (Fneed_wish : OwnF P w K mg base (EAx K) 4 "need_wish" 1 (gneed_wish c)) (Fput_at : OwnF P w K mg base (EAx K) 24 "put_at" 3 (recG ["wish", "path", "part", "place", "inner"] (mput_at) 24)) (z : Zn mg) (cdv : Value) (A : Around) (outer : List PySem.Env) (s : Shared) (H : Hp) (E : XK) (hg0 : A.guards = some []) (hr : Room 24 (A.deeper (envOfC "replaced" (defScope sreplaced) s.heap.objs.size f cdv))) :
    DSs (cxOf (L2.CX P w) P w K mg base ["wish", "path", "part"] "replaced" (defScope sreplaced) f cdv A outer s H E) (EAx K) (fun cls d _ H => E cls d H) (defBody sreplaced) (mreplaced c) := by
  have hg : (cxOf (L2.CX P w) P w K mg base ["wish", "path", "part"] "replaced" (defScope sreplaced) f cdv A outer s H E).A.guards = some [] := hg0
  have hu : (cxOf (L2.CX P w) P w K mg base ["wish", "path", "part"] "replaced" (defScope sreplaced) f cdv A outer s H E).A.units + 64 < cLine := hr.units
  have hu65 : (cxOf (L2.CX P w) P w K mg base ["wish", "path", "part"] "replaced" (defScope sreplaced) f cdv A outer s H E).A.units + 65 < cLine := by have := hr.un; show (A.deeper _).units + 65 < cLine; omega
  have hu1 : (cxOf (L2.CX P w) P w K mg base ["wish", "path", "part"] "replaced" (defScope sreplaced) f cdv A outer s H E).A.units + 1 < cLine := hu_of hr
  have hp : PassesOwn (model P w) (cxOf (L2.CX P w) P w K mg base ["wish", "path", "part"] "replaced" (defScope sreplaced) f cdv A outer s H E).A (cxOf (L2.CX P w) P w K mg base ["wish", "path", "part"] "replaced" (defScope sreplaced) f cdv A outer s H E).env (cxOf (L2.CX P w) P w K mg base ["wish", "path", "part"] "replaced" (defScope sreplaced) f cdv A outer s H E).xe := passes_of rfl
  have tk : Takes (cxOf (L2.CX P w) P w K mg base ["wish", "path", "part"] "replaced" (defScope sreplaced) f cdv A outer s H E) (fun cls d _ H => E cls d H) := takes_of rfl rfl rfl rfl
  have nd := screplaced.nd
  skip
  skip
  exact (dss_cons (ds_drop (de_own Fneed_path hg (hr.mono (by decide)) tk (da_cons (dv 0) (da_cons (dv 1) da_nil)) (LenM.cons (LenM.cons LenM.nil))))
    (dss_cons (ds_drop (de_own Fneed_wish hg (hr.mono (by decide)) tk (da_cons (dv 2) da_nil) (LenM.cons LenM.nil)))
    (dss_one (ds_ret (de_own Fneed_wish hg (hr.mono (by decide)) tk (da_cons (de_own Fput_at hg (hr.mono (by decide)) tk (da_cons (dv 0) (da_cons (dv 1) (da_cons (dv 2) da_nil))) (LenM.cons (LenM.cons (LenM.cons LenM.nil)))) da_nil) (LenM.cons LenM.nil))))))
theorem dis_plain (c : Cs)  (Fneed_path : OwnF P w K mg base (EAx K) 5 "need_path" 2 (gneed_path c)) (z : Zn mg) (cdv : Value) (A : Around) (outer : List PySem.Env) (s : Shared) (H : Hp) (E : XK) (hg0 : A.guards = some []) (hr : Room 5 (A.deeper (envOfC "is_plain" (defScope sis_plain) s.heap.objs.size f cdv))) :
    DSs (cxOf (L2.CX P w) P w K mg base ["wish", "path", "around", "part", "place"] "is_plain" (defScope sis_plain) f cdv A outer s H E) (EAx K) (fun cls d _ H => E cls d H) (defBody sis_plain) (mis_plain c) := by
  have hg : (cxOf (L2.CX P w) P w K mg base ["wish", "path", "around", "part", "place"] "is_plain" (defScope sis_plain) f cdv A outer s H E).A.guards = some [] := hg0
  have hu : (cxOf (L2.CX P w) P w K mg base ["wish", "path", "around", "part", "place"] "is_plain" (defScope sis_plain) f cdv A outer s H E).A.units + 64 < cLine := hr.units
  have hu65 : (cxOf (L2.CX P w) P w K mg base ["wish", "path", "around", "part", "place"] "is_plain" (defScope sis_plain) f cdv A outer s H E).A.units + 65 < cLine := by have := hr.un; show (A.deeper _).units + 65 < cLine; omega
  have hu1 : (cxOf (L2.CX P w) P w K mg base ["wish", "path", "around", "part", "place"] "is_plain" (defScope sis_plain) f cdv A outer s H E).A.units + 1 < cLine := hu_of hr
  have hp : PassesOwn (model P w) (cxOf (L2.CX P w) P w K mg base ["wish", "path", "around", "part", "place"] "is_plain" (defScope sis_plain) f cdv A outer s H E).A (cxOf (L2.CX P w) P w K mg base ["wish", "path", "around", "part", "place"] "is_plain" (defScope sis_plain) f cdv A outer s H E).env (cxOf (L2.CX P w) P w K mg base ["wish", "path", "around", "part", "place"] "is_plain" (defScope sis_plain) f cdv A outer s H E).xe := passes_of rfl
  have tk : Takes (cxOf (L2.CX P w) P w K mg base ["wish", "path", "around", "part", "place"] "is_plain" (defScope sis_plain) f cdv A outer s H E) (fun cls d _ H => E cls d H) := takes_of rfl rfl rfl rfl
  have nd := scis_plain.nd
  skip
  skip
  exact (dss_cons (ds_drop (de_own Fneed_path hg (hr.mono (by decide)) tk (da_cons (dv 0) (da_cons (dv 1) da_nil)) (LenM.cons (LenM.cons LenM.nil))))
    (dss_cons (ds_asg (i := 2) nd d_int)
    (dss_cons (ds_asg (i := 3) nd (dv 0))
    (dss_cons (ds_for hp rfl (di_tup (dv 1)) (dg_name (i := 4) nd) (dss_cons (ds_if (dt_eq hu (de_ix (dv 3) d_int) d_str) (dss_one (ds_augAdd (i := 2) nd d_int)) dss_nil)
    (dss_one (ds_asg (i := 3) nd (de_ix (dv 3) (dv 4))))) (NoErr.name 4))
    (dss_one (ds_ret (de_eq hu (de_mod (dv 2) d_int) d_int)))))))
theorem dworst (c : Cs)  (Fis_plain : OwnF P w K mg base (EAx K) 6 "is_plain" 2 (gis_plain c)) (z : Zn mg) (cdv : Value) (A : Around) (outer : List PySem.Env) (s : Shared) (H : Hp) (E : XK) (hg0 : A.guards = some []) (hr : Room 6 (A.deeper (envOfC "worst" (defScope sworst) s.heap.objs.size f cdv))) :
    DSs (cxOf (L2.CX P w) P w K mg base ["wish", "path"] "worst" (defScope sworst) f cdv A outer s H E) (EAx K) (fun cls d _ H => E cls d H) (defBody sworst) (mworst c) := by
  have hg : (cxOf (L2.CX P w) P w K mg base ["wish", "path"] "worst" (defScope sworst) f cdv A outer s H E).A.guards = some [] := hg0
  have hu : (cxOf (L2.CX P w) P w K mg base ["wish", "path"] "worst" (defScope sworst) f cdv A outer s H E).A.units + 64 < cLine := hr.units
  have hu65 : (cxOf (L2.CX P w) P w K mg base ["wish", "path"] "worst" (defScope sworst) f cdv A outer s H E).A.units + 65 < cLine := by have := hr.un; show (A.deeper _).units + 65 < cLine; omega
  have hu1 : (cxOf (L2.CX P w) P w K mg base ["wish", "path"] "worst" (defScope sworst) f cdv A outer s H E).A.units + 1 < cLine := hu_of hr
  have hp : PassesOwn (model P w) (cxOf (L2.CX P w) P w K mg base ["wish", "path"] "worst" (defScope sworst) f cdv A outer s H E).A (cxOf (L2.CX P w) P w K mg base ["wish", "path"] "worst" (defScope sworst) f cdv A outer s H E).env (cxOf (L2.CX P w) P w K mg base ["wish", "path"] "worst" (defScope sworst) f cdv A outer s H E).xe := passes_of rfl
  have tk : Takes (cxOf (L2.CX P w) P w K mg base ["wish", "path"] "worst" (defScope sworst) f cdv A outer s H E) (fun cls d _ H => E cls d H) := takes_of rfl rfl rfl rfl
  have nd := scworst.nd
  skip
  skip
  exact (dss_cons (ds_if (dt_val (de_own Fis_plain hg (hr.mono (by decide)) tk (da_cons (dv 0) (da_cons (dv 1) da_nil)) (LenM.cons (LenM.cons LenM.nil)))) (dss_one (ds_ret (de_tup (da_cons d_str da_nil)))) dss_nil)
    (dss_one (ds_ret (de_tup (da_cons d_str da_nil)))))
theorem dhardened (c : Cs)  (Fput_at : OwnF P w K mg base (EAx K) 24 "put_at" 3 (recG ["wish", "path", "part", "place", "inner"] (mput_at) 24)) (Fworst : OwnF P w K mg base (EAx K) 7 "worst" 2 (gworst c)) (z : Zn mg) (cdv : Value) (A : Around) (outer : List PySem.Env) (s : Shared) (H : Hp) (E : XK) (hg0 : A.guards = some []) (hr : Room 24 (A.deeper (envOfC "hardened" (defScope shardened) s.heap.objs.size f cdv))) :
    DSs (cxOf (L2.CX P w) P w K mg base ["wish", "path"] "hardened" (defScope shardened) f cdv A outer s H E) (EAx K) (fun cls d _ H => E cls d H) (defBody shardened) (mhardened c) := by
  have hg : (cxOf (L2.CX P w) P w K mg base ["wish", "path"] "hardened" (defScope shardened) f cdv A outer s H E).A.guards = some [] := hg0
  have hu : (cxOf (L2.CX P w) P w K mg base ["wish", "path"] "hardened" (defScope shardened) f cdv A outer s H E).A.units + 64 < cLine := hr.units
  have hu65 : (cxOf (L2.CX P w) P w K mg base ["wish", "path"] "hardened" (defScope shardened) f cdv A outer s H E).A.units + 65 < cLine := by have := hr.un; show (A.deeper _).units + 65 < cLine; omega
  have hu1 : (cxOf (L2.CX P w) P w K mg base ["wish", "path"] "hardened" (defScope shardened) f cdv A outer s H E).A.units + 1 < cLine := hu_of hr
  have hp : PassesOwn (model P w) (cxOf (L2.CX P w) P w K mg base ["wish", "path"] "hardened" (defScope shardened) f cdv A outer s H E).A (cxOf (L2.CX P w) P w K mg base ["wish", "path"] "hardened" (defScope shardened) f cdv A outer s H E).env (cxOf (L2.CX P w) P w K mg base ["wish", "path"] "hardened" (defScope shardened) f cdv A outer s H E).xe := passes_of rfl
  have tk : Takes (cxOf (L2.CX P w) P w K mg base ["wish", "path"] "hardened" (defScope shardened) f cdv A outer s H E) (fun cls d _ H => E cls d H) := takes_of rfl rfl rfl rfl
  have nd := schardened.nd
  skip
  skip
  exact (dss_one (ds_ret (de_own Fput_at hg (hr.mono (by decide)) tk (da_cons (dv 0) (da_cons (dv 1) (da_cons (de_own Fworst hg (hr.mono (by decide)) tk (da_cons (dv 0) (da_cons (dv 1) da_nil)) (LenM.cons (LenM.cons LenM.nil))) da_nil))) (LenM.cons (LenM.cons (LenM.cons LenM.nil))))))
theorem dunlike_timed  (Fwalked : OwnF P w K mg base (EAx K) 2 "walked" 1 gwalked) (TTIMED : TupN K mg "TIMED" ["next", "till", "ever", "always"]) (z : Zn mg) (cdv : Value) (A : Around) (outer : List PySem.Env) (s : Shared) (H : Hp) (E : XK) (hg0 : A.guards = some []) (hr : Room 2 (A.deeper (envOfC "unlike_timed" (defScope sunlike_timed) s.heap.objs.size f cdv))) :
    DSs (cxOf (L2.CX P w) P w K mg base ["wish", "found", "_", "part"] "unlike_timed" (defScope sunlike_timed) f cdv A outer s H E) (EAx K) (fun cls d _ H => E cls d H) (defBody sunlike_timed) (munlike_timed) := by
  have hg : (cxOf (L2.CX P w) P w K mg base ["wish", "found", "_", "part"] "unlike_timed" (defScope sunlike_timed) f cdv A outer s H E).A.guards = some [] := hg0
  have hu : (cxOf (L2.CX P w) P w K mg base ["wish", "found", "_", "part"] "unlike_timed" (defScope sunlike_timed) f cdv A outer s H E).A.units + 64 < cLine := hr.units
  have hu65 : (cxOf (L2.CX P w) P w K mg base ["wish", "found", "_", "part"] "unlike_timed" (defScope sunlike_timed) f cdv A outer s H E).A.units + 65 < cLine := by have := hr.un; show (A.deeper _).units + 65 < cLine; omega
  have hu1 : (cxOf (L2.CX P w) P w K mg base ["wish", "found", "_", "part"] "unlike_timed" (defScope sunlike_timed) f cdv A outer s H E).A.units + 1 < cLine := hu_of hr
  have hp : PassesOwn (model P w) (cxOf (L2.CX P w) P w K mg base ["wish", "found", "_", "part"] "unlike_timed" (defScope sunlike_timed) f cdv A outer s H E).A (cxOf (L2.CX P w) P w K mg base ["wish", "found", "_", "part"] "unlike_timed" (defScope sunlike_timed) f cdv A outer s H E).env (cxOf (L2.CX P w) P w K mg base ["wish", "found", "_", "part"] "unlike_timed" (defScope sunlike_timed) f cdv A outer s H E).xe := passes_of rfl
  have tk : Takes (cxOf (L2.CX P w) P w K mg base ["wish", "found", "_", "part"] "unlike_timed" (defScope sunlike_timed) f cdv A outer s H E) (fun cls d _ H => E cls d H) := takes_of rfl rfl rfl rfl
  have nd := scunlike_timed.nd
  skip
  skip
  exact (dss_cons (ds_asg (i := 1) nd (de_lstO da_nil))
    (dss_cons (ds_for hp rfl (di_list (de_own Fwalked hg (hr.mono (by decide)) tk (da_cons (dv 0) da_nil) (LenM.cons LenM.nil))) (dg_tup rfl (dgs_cons (dg_name (i := 2) nd) (dgs_cons (dg_name (i := 3) nd) dgs_nil))) (dss_one (ds_if (dt_w (dw_and (dt_in (de_ix (dv 3) d_int) (d_tupN TTIMED)) (dw_and1 (dt_notinD hu65 (dv 3) (dv 1))))) (dss_one (ds_drop (de_app (dv 1) (dv 3)))) dss_nil)) (NoErr.tup (ne_cons (NoErr.name 2) (ne_cons (NoErr.name 3) ne_nil))))
    (dss_one (ds_ret (de_t1 call_tuple_of un_tuple z.tuple (by decide +kernel) (dv 1))))))
theorem dtimed_parts (c : Cs)  (Funlike_timed : OwnF P w K mg base (EAx K) 3 "unlike_timed" 1 gunlike_timed) (Fneed_wish : OwnF P w K mg base (EAx K) 4 "need_wish" 1 (gneed_wish c)) (z : Zn mg) (cdv : Value) (A : Around) (outer : List PySem.Env) (s : Shared) (H : Hp) (E : XK) (hg0 : A.guards = some []) (hr : Room 4 (A.deeper (envOfC "timed_parts" (defScope stimed_parts) s.heap.objs.size f cdv))) :
    DSs (cxOf (L2.CX P w) P w K mg base ["wish"] "timed_parts" (defScope stimed_parts) f cdv A outer s H E) (EAx K) (fun cls d _ H => E cls d H) (defBody stimed_parts) (mtimed_parts c) := by
  have hg : (cxOf (L2.CX P w) P w K mg base ["wish"] "timed_parts" (defScope stimed_parts) f cdv A outer s H E).A.guards = some [] := hg0
  have hu : (cxOf (L2.CX P w) P w K mg base ["wish"] "timed_parts" (defScope stimed_parts) f cdv A outer s H E).A.units + 64 < cLine := hr.units
  have hu65 : (cxOf (L2.CX P w) P w K mg base ["wish"] "timed_parts" (defScope stimed_parts) f cdv A outer s H E).A.units + 65 < cLine := by have := hr.un; show (A.deeper _).units + 65 < cLine; omega
  have hu1 : (cxOf (L2.CX P w) P w K mg base ["wish"] "timed_parts" (defScope stimed_parts) f cdv A outer s H E).A.units + 1 < cLine := hu_of hr
  have hp : PassesOwn (model P w) (cxOf (L2.CX P w) P w K mg base ["wish"] "timed_parts" (defScope stimed_parts) f cdv A outer s H E).A (cxOf (L2.CX P w) P w K mg base ["wish"] "timed_parts" (defScope stimed_parts) f cdv A outer s H E).env (cxOf (L2.CX P w) P w K mg base ["wish"] "timed_parts" (defScope stimed_parts) f cdv A outer s H E).xe := passes_of rfl
  have tk : Takes (cxOf (L2.CX P w) P w K mg base ["wish"] "timed_parts" (defScope stimed_parts) f cdv A outer s H E) (fun cls d _ H => E cls d H) := takes_of rfl rfl rfl rfl
  have nd := sctimed_parts.nd
  skip
  skip
  exact (dss_one (ds_ret (de_own Funlike_timed hg (hr.mono (by decide)) tk (da_cons (de_own Fneed_wish hg (hr.mono (by decide)) tk (da_cons (dv 0) da_nil) (LenM.cons LenM.nil)) da_nil) (LenM.cons LenM.nil))))
theorem dsoftened (c : Cs)  (Fis_plain : OwnF P w K mg base (EAx K) 6 "is_plain" 2 (gis_plain c)) (Fput_at : OwnF P w K mg base (EAx K) 24 "put_at" 3 (recG ["wish", "path", "part", "place", "inner"] (mput_at) 24)) (z : Zn mg) (cdv : Value) (A : Around) (outer : List PySem.Env) (s : Shared) (H : Hp) (E : XK) (hg0 : A.guards = some []) (hr : Room 24 (A.deeper (envOfC "softened" (defScope ssoftened) s.heap.objs.size f cdv))) :
    DSs (cxOf (L2.CX P w) P w K mg base ["wish", "path"] "softened" (defScope ssoftened) f cdv A outer s H E) (EAx K) (fun cls d _ H => E cls d H) (defBody ssoftened) (msoftened c) := by
  have hg : (cxOf (L2.CX P w) P w K mg base ["wish", "path"] "softened" (defScope ssoftened) f cdv A outer s H E).A.guards = some [] := hg0
  have hu : (cxOf (L2.CX P w) P w K mg base ["wish", "path"] "softened" (defScope ssoftened) f cdv A outer s H E).A.units + 64 < cLine := hr.units
  have hu65 : (cxOf (L2.CX P w) P w K mg base ["wish", "path"] "softened" (defScope ssoftened) f cdv A outer s H E).A.units + 65 < cLine := by have := hr.un; show (A.deeper _).units + 65 < cLine; omega
  have hu1 : (cxOf (L2.CX P w) P w K mg base ["wish", "path"] "softened" (defScope ssoftened) f cdv A outer s H E).A.units + 1 < cLine := hu_of hr
  have hp : PassesOwn (model P w) (cxOf (L2.CX P w) P w K mg base ["wish", "path"] "softened" (defScope ssoftened) f cdv A outer s H E).A (cxOf (L2.CX P w) P w K mg base ["wish", "path"] "softened" (defScope ssoftened) f cdv A outer s H E).env (cxOf (L2.CX P w) P w K mg base ["wish", "path"] "softened" (defScope ssoftened) f cdv A outer s H E).xe := passes_of rfl
  have tk : Takes (cxOf (L2.CX P w) P w K mg base ["wish", "path"] "softened" (defScope ssoftened) f cdv A outer s H E) (fun cls d _ H => E cls d H) := takes_of rfl rfl rfl rfl
  have nd := scsoftened.nd
  skip
  skip
  exact (dss_cons (ds_if (dt_val (de_own Fis_plain hg (hr.mono (by decide)) tk (da_cons (dv 0) (da_cons (dv 1) da_nil)) (LenM.cons (LenM.cons LenM.nil)))) (dss_one (ds_ret (de_own Fput_at hg (hr.mono (by decide)) tk (da_cons (dv 0) (da_cons (dv 1) (da_cons (de_tup (da_cons d_str da_nil)) da_nil))) (LenM.cons (LenM.cons (LenM.cons LenM.nil)))))) dss_nil)
    (dss_one (ds_ret (de_own Fput_at hg (hr.mono (by decide)) tk (da_cons (dv 0) (da_cons (dv 1) (da_cons (de_tup (da_cons d_str da_nil)) da_nil))) (LenM.cons (LenM.cons (LenM.cons LenM.nil)))))))
theorem d_law_mixed  (z : Zn mg) (cdv : Value) (A : Around) (outer : List PySem.Env) (s : Shared) (H : Hp) (E : XK) (hg0 : A.guards = some []) (hr : Room 0 (A.deeper (envOfC "_law_mixed" (defScope s_law_mixed) s.heap.objs.size f cdv))) :
    DSs (cxOf (L2.CX P w) P w K mg base ["cell", "n", "blend"] "_law_mixed" (defScope s_law_mixed) f cdv A outer s H E) (EAx K) (fun cls d _ H => E cls d H) (defBody s_law_mixed) (m_law_mixed) := by
  have hg : (cxOf (L2.CX P w) P w K mg base ["cell", "n", "blend"] "_law_mixed" (defScope s_law_mixed) f cdv A outer s H E).A.guards = some [] := hg0
  have hu : (cxOf (L2.CX P w) P w K mg base ["cell", "n", "blend"] "_law_mixed" (defScope s_law_mixed) f cdv A outer s H E).A.units + 64 < cLine := hr.units
  have hu65 : (cxOf (L2.CX P w) P w K mg base ["cell", "n", "blend"] "_law_mixed" (defScope s_law_mixed) f cdv A outer s H E).A.units + 65 < cLine := by have := hr.un; show (A.deeper _).units + 65 < cLine; omega
  have hu1 : (cxOf (L2.CX P w) P w K mg base ["cell", "n", "blend"] "_law_mixed" (defScope s_law_mixed) f cdv A outer s H E).A.units + 1 < cLine := hu_of hr
  have hp : PassesOwn (model P w) (cxOf (L2.CX P w) P w K mg base ["cell", "n", "blend"] "_law_mixed" (defScope s_law_mixed) f cdv A outer s H E).A (cxOf (L2.CX P w) P w K mg base ["cell", "n", "blend"] "_law_mixed" (defScope s_law_mixed) f cdv A outer s H E).env (cxOf (L2.CX P w) P w K mg base ["cell", "n", "blend"] "_law_mixed" (defScope s_law_mixed) f cdv A outer s H E).xe := passes_of rfl
  have tk : Takes (cxOf (L2.CX P w) P w K mg base ["cell", "n", "blend"] "_law_mixed" (defScope s_law_mixed) f cdv A outer s H E) (fun cls d _ H => E cls d H) := takes_of rfl rfl rfl rfl
  have nd := sc_law_mixed.nd
  skip
  skip
  exact (dss_cons (ds_asg (i := 2) nd (de_add (de_add (de_mod (de_t1 call_int1 un_int z.int (by decide +kernel) (de_mul (de_mul (dv 0) (de_add d_int (de_mul d_int (dv 1)))) d_int)) d_int) (de_mul (de_mul d_int (dv 1)) (dv 1))) (de_mul d_int (dv 1))))
    (dss_one (ds_ret (de_fdv (de_mod (de_t1 call_int1 un_int z.int (by decide +kernel) (de_mul (dv 2) d_int)) d_int) d_int))))
theorem d_law_folded  (z : Zn mg) (cdv : Value) (A : Around) (outer : List PySem.Env) (s : Shared) (H : Hp) (E : XK) (hg0 : A.guards = some []) (hr : Room 0 (A.deeper (envOfC "_law_folded" (defScope s_law_folded) s.heap.objs.size f cdv))) :
    DSs (cxOf (L2.CX P w) P w K mg base ["script", "found", "n", "cell"] "_law_folded" (defScope s_law_folded) f cdv A outer s H E) (EAx K) (fun cls d _ H => E cls d H) (defBody s_law_folded) (m_law_folded) := by
  have hg : (cxOf (L2.CX P w) P w K mg base ["script", "found", "n", "cell"] "_law_folded" (defScope s_law_folded) f cdv A outer s H E).A.guards = some [] := hg0
  have hu : (cxOf (L2.CX P w) P w K mg base ["script", "found", "n", "cell"] "_law_folded" (defScope s_law_folded) f cdv A outer s H E).A.units + 64 < cLine := hr.units
  have hu65 : (cxOf (L2.CX P w) P w K mg base ["script", "found", "n", "cell"] "_law_folded" (defScope s_law_folded) f cdv A outer s H E).A.units + 65 < cLine := by have := hr.un; show (A.deeper _).units + 65 < cLine; omega
  have hu1 : (cxOf (L2.CX P w) P w K mg base ["script", "found", "n", "cell"] "_law_folded" (defScope s_law_folded) f cdv A outer s H E).A.units + 1 < cLine := hu_of hr
  have hp : PassesOwn (model P w) (cxOf (L2.CX P w) P w K mg base ["script", "found", "n", "cell"] "_law_folded" (defScope s_law_folded) f cdv A outer s H E).A (cxOf (L2.CX P w) P w K mg base ["script", "found", "n", "cell"] "_law_folded" (defScope s_law_folded) f cdv A outer s H E).env (cxOf (L2.CX P w) P w K mg base ["script", "found", "n", "cell"] "_law_folded" (defScope s_law_folded) f cdv A outer s H E).xe := passes_of rfl
  have tk : Takes (cxOf (L2.CX P w) P w K mg base ["script", "found", "n", "cell"] "_law_folded" (defScope s_law_folded) f cdv A outer s H E) (fun cls d _ H => E cls d H) := takes_of rfl rfl rfl rfl
  have nd := sc_law_folded.nd
  skip
  skip
  exact (dss_cons (ds_setLcO (i := 1) (own := [("n", 2)]) rfl nd (di_range1 z.range d_int) (blk_of (by rfl)) (fun _ _ _ _ _ => (dg_name (i := 2) nd)) (fun _ _ _ _ _ => dts_nil) (fun _ _ _ _ _ => (de_add d_int (dv 2))) (by decide))
    (dss_cons (ds_for hp rfl (di_enum z.enumerate (dv 0)) (dg_tup rfl (dgs_cons (dg_name (i := 2) nd) (dgs_cons (dg_name (i := 3) nd) dgs_nil))) (dss_one (ds_sti (de_mod (de_t1 call_int1 un_int z.int (by decide +kernel) (de_add (de_mul (de_ix (dv 1) (de_mod (de_t1 call_int1 un_int z.int (by decide +kernel) (dv 2)) d_int)) d_int) (dv 3))) d_int) (dv 1) (de_mod (de_t1 call_int1 un_int z.int (by decide +kernel) (dv 2)) d_int))) (NoErr.tup (ne_cons (NoErr.name 2) (ne_cons (NoErr.name 3) ne_nil))))
    (dss_cons (ds_for hp rfl (di_range2 z.range d_int d_int) (dg_name (i := 2) nd) (dss_one (ds_sti (de_mod (de_t1 call_int1 un_int z.int (by decide +kernel) (de_add (de_ix (dv 1) (dv 2)) (de_mul (de_ix (dv 1) (de_sub (dv 2) d_int)) d_int))) d_int) (dv 1) (dv 2))) (NoErr.name 2))
    (dss_one (ds_ret (dv 1))))))
theorem d_law_draw  (F_law_mixed : OwnF P w K mg base (EAx K) 1 "_law_mixed" 2 g_law_mixed) (z : Zn mg) (cdv : Value) (A : Around) (outer : List PySem.Env) (s : Shared) (H : Hp) (E : XK) (hg0 : A.guards = some []) (hr : Room 1 (A.deeper (envOfC "_law_draw" (defScope s_law_draw) s.heap.objs.size f cdv))) :
    DSs (cxOf (L2.CX P w) P w K mg base ["m", "limit", "n", "lot", "here", "cell"] "_law_draw" (defScope s_law_draw) f cdv A outer s H E) (EAx K) (fun cls d _ H => E cls d H) (defBody s_law_draw) (m_law_draw) := by
  have hg : (cxOf (L2.CX P w) P w K mg base ["m", "limit", "n", "lot", "here", "cell"] "_law_draw" (defScope s_law_draw) f cdv A outer s H E).A.guards = some [] := hg0
  have hu : (cxOf (L2.CX P w) P w K mg base ["m", "limit", "n", "lot", "here", "cell"] "_law_draw" (defScope s_law_draw) f cdv A outer s H E).A.units + 64 < cLine := hr.units
  have hu65 : (cxOf (L2.CX P w) P w K mg base ["m", "limit", "n", "lot", "here", "cell"] "_law_draw" (defScope s_law_draw) f cdv A outer s H E).A.units + 65 < cLine := by have := hr.un; show (A.deeper _).units + 65 < cLine; omega
  have hu1 : (cxOf (L2.CX P w) P w K mg base ["m", "limit", "n", "lot", "here", "cell"] "_law_draw" (defScope s_law_draw) f cdv A outer s H E).A.units + 1 < cLine := hu_of hr
  have hp : PassesOwn (model P w) (cxOf (L2.CX P w) P w K mg base ["m", "limit", "n", "lot", "here", "cell"] "_law_draw" (defScope s_law_draw) f cdv A outer s H E).A (cxOf (L2.CX P w) P w K mg base ["m", "limit", "n", "lot", "here", "cell"] "_law_draw" (defScope s_law_draw) f cdv A outer s H E).env (cxOf (L2.CX P w) P w K mg base ["m", "limit", "n", "lot", "here", "cell"] "_law_draw" (defScope s_law_draw) f cdv A outer s H E).xe := passes_of rfl
  have tk : Takes (cxOf (L2.CX P w) P w K mg base ["m", "limit", "n", "lot", "here", "cell"] "_law_draw" (defScope s_law_draw) f cdv A outer s H E) (fun cls d _ H => E cls d H) := takes_of rfl rfl rfl rfl
  have nd := sc_law_draw.nd
  skip
  skip
  exact (dss_cons (ds_asg (i := 2) nd (de_spot hu1 (dv 0)))
    (dss_cons (ds_spot hu1 (dv 0) (de_add (dv 2) d_int))
    (dss_cons (ds_if (dt_ne hu (de_great hu1 (dv 0)) (de_lst da_nil)) (dss_cons (ds_asg (i := 3) nd (de_great hu1 (dv 0)))
    (dss_cons (ds_asg (i := 4) nd (de_mod (de_t1 call_int1 un_int z.int (by decide +kernel) (dv 2)) (de_b1 call_len un_len z.len (by decide +kernel) (dv 3))))
    (dss_cons (ds_asg (i := 5) nd (de_ix (dv 3) (dv 4)))
    (dss_one (ds_if (dt_gt (dv 5) d_int) (dss_cons (ds_great (de_fdv (dv 5) (dv 1)) (dv 3) (dv 4))
    (dss_one (ds_ret (de_mod (de_t1 call_int1 un_int z.int (by decide +kernel) (dv 5)) (dv 1))))) dss_nil))))) dss_nil)
    (dss_cons (ds_asg (i := 3) nd (de_cells hu1 (dv 0)))
    (dss_one (ds_ret (de_mod (de_t1 call_int1 un_int z.int (by decide +kernel) (de_own F_law_mixed hg (hr.mono (by decide)) tk (da_cons (de_own F_law_mixed hg (hr.mono (by decide)) tk (da_cons (de_add (de_ix (dv 3) (de_mod (de_t1 call_int1 un_int z.int (by decide +kernel) (dv 2)) d_int)) (de_mul d_int (de_fdv (dv 2) d_int))) (da_cons (dv 2) da_nil)) (LenM.cons (LenM.cons LenM.nil))) (da_cons (de_add (dv 2) d_int) da_nil)) (LenM.cons (LenM.cons LenM.nil)))) (dv 1))))))))
theorem d_law_begun  (F_law_folded : OwnF P w K mg base (EAx K) 1 "_law_folded" 1 g_law_folded) (z : Zn mg) (cdv : Value) (A : Around) (outer : List PySem.Env) (s : Shared) (H : Hp) (E : XK) (hg0 : A.guards = some []) (hr : Room 1 (A.deeper (envOfC "_law_begun" (defScope s_law_begun) s.heap.objs.size f cdv))) :
    DSs (cxOf (L2.CX P w) P w K mg base ["script", "m", "cell"] "_law_begun" (defScope s_law_begun) f cdv A outer s H E) (EAx K) (fun cls d _ H => E cls d H) (defBody s_law_begun) (m_law_begun) := by
  have hg : (cxOf (L2.CX P w) P w K mg base ["script", "m", "cell"] "_law_begun" (defScope s_law_begun) f cdv A outer s H E).A.guards = some [] := hg0
  have hu : (cxOf (L2.CX P w) P w K mg base ["script", "m", "cell"] "_law_begun" (defScope s_law_begun) f cdv A outer s H E).A.units + 64 < cLine := hr.units
  have hu65 : (cxOf (L2.CX P w) P w K mg base ["script", "m", "cell"] "_law_begun" (defScope s_law_begun) f cdv A outer s H E).A.units + 65 < cLine := by have := hr.un; show (A.deeper _).units + 65 < cLine; omega
  have hu1 : (cxOf (L2.CX P w) P w K mg base ["script", "m", "cell"] "_law_begun" (defScope s_law_begun) f cdv A outer s H E).A.units + 1 < cLine := hu_of hr
  have hp : PassesOwn (model P w) (cxOf (L2.CX P w) P w K mg base ["script", "m", "cell"] "_law_begun" (defScope s_law_begun) f cdv A outer s H E).A (cxOf (L2.CX P w) P w K mg base ["script", "m", "cell"] "_law_begun" (defScope s_law_begun) f cdv A outer s H E).env (cxOf (L2.CX P w) P w K mg base ["script", "m", "cell"] "_law_begun" (defScope s_law_begun) f cdv A outer s H E).xe := passes_of rfl
  have tk : Takes (cxOf (L2.CX P w) P w K mg base ["script", "m", "cell"] "_law_begun" (defScope s_law_begun) f cdv A outer s H E) (fun cls d _ H => E cls d H) := takes_of rfl rfl rfl rfl
  have nd := sc_law_begun.nd
  skip
  skip
  exact (dss_cons (ds_asg (i := 1) nd (de_disp (ks := [Sum.inr "cells", Sum.inr "great", Sum.inr "spot"]) (dps_cons (de_own F_law_folded hg (hr.mono (by decide)) tk (da_cons (dv 0) da_nil) (LenM.cons LenM.nil)) (dps_cons (de_lst da_nil) (dps_cons d_int dps_nil)))))
    (dss_cons (ds_beg (i := 1) hu1 (de_lcO (own := [("cell", 2)]) rfl nd (di_list (dv 0)) (blk_of (by rfl)) (fun _ _ _ _ _ => (dg_name (i := 2) nd)) (fun _ _ _ _ _ => dts_nil) (fun _ _ _ _ _ => (de_if (dt_ge (dv 2) (de_pow d_int d_int)) (dv 2) d_int)) (by decide)))
    (dss_one (ds_ret (dv 1)))))
theorem d_law_like  (z : Zn mg) (cdv : Value) (A : Around) (outer : List PySem.Env) (s : Shared) (H : Hp) (E : XK) (hg0 : A.guards = some []) (hr : Room 0 (A.deeper (envOfC "_law_like" (defScope s_law_like) s.heap.objs.size f cdv))) :
    DSs (cxOf (L2.CX P w) P w K mg base ["got", "due"] "_law_like" (defScope s_law_like) f cdv A outer s H E) (EAx K) (fun cls d _ H => E cls d H) (defBody s_law_like) (m_law_like) := by
  have hg : (cxOf (L2.CX P w) P w K mg base ["got", "due"] "_law_like" (defScope s_law_like) f cdv A outer s H E).A.guards = some [] := hg0
  have hu : (cxOf (L2.CX P w) P w K mg base ["got", "due"] "_law_like" (defScope s_law_like) f cdv A outer s H E).A.units + 64 < cLine := hr.units
  have hu65 : (cxOf (L2.CX P w) P w K mg base ["got", "due"] "_law_like" (defScope s_law_like) f cdv A outer s H E).A.units + 65 < cLine := by have := hr.un; show (A.deeper _).units + 65 < cLine; omega
  have hu1 : (cxOf (L2.CX P w) P w K mg base ["got", "due"] "_law_like" (defScope s_law_like) f cdv A outer s H E).A.units + 1 < cLine := hu_of hr
  have hp : PassesOwn (model P w) (cxOf (L2.CX P w) P w K mg base ["got", "due"] "_law_like" (defScope s_law_like) f cdv A outer s H E).A (cxOf (L2.CX P w) P w K mg base ["got", "due"] "_law_like" (defScope s_law_like) f cdv A outer s H E).env (cxOf (L2.CX P w) P w K mg base ["got", "due"] "_law_like" (defScope s_law_like) f cdv A outer s H E).xe := passes_of rfl
  have tk : Takes (cxOf (L2.CX P w) P w K mg base ["got", "due"] "_law_like" (defScope s_law_like) f cdv A outer s H E) (fun cls d _ H => E cls d H) := takes_of rfl rfl rfl rfl
  have nd := sc_law_like.nd
  skip
  skip
  exact (dss_one (ds_ret (de_eq hu (de_b1 (call_reprD hg hu) un_repr z.repr (by decide +kernel) (dv 0)) (de_b1 (call_reprD hg hu) un_repr z.repr (by decide +kernel) (dv 1)))))
theorem d_law_hope (gr : Fn) (k : Nat)  (F_law_draw : OwnF P w K mg base (EAx K) 2 "_law_draw" 2 g_law_draw) (F_law_hope : OwnF P w K mg base (EAx K) (2 + k) "_law_hope" 3 gr) (z : Zn mg) (cdv : Value) (A : Around) (outer : List PySem.Env) (s : Shared) (H : Hp) (E : XK) (hg0 : A.guards = some []) (hr : Room (2 + k) (A.deeper (envOfC "_law_hope" (defScope s_law_hope) s.heap.objs.size f cdv))) :
    DSs (cxOf (L2.CX P w) P w K mg base ["m", "left", "timed", "pick", "leaf", "size", "near"] "_law_hope" (defScope s_law_hope) f cdv A outer s H E) (EAx K) (fun cls d _ H => E cls d H) (defBody s_law_hope) (m_law_hope gr) := by
  have hg : (cxOf (L2.CX P w) P w K mg base ["m", "left", "timed", "pick", "leaf", "size", "near"] "_law_hope" (defScope s_law_hope) f cdv A outer s H E).A.guards = some [] := hg0
  have hu : (cxOf (L2.CX P w) P w K mg base ["m", "left", "timed", "pick", "leaf", "size", "near"] "_law_hope" (defScope s_law_hope) f cdv A outer s H E).A.units + 64 < cLine := hr.units
  have hu65 : (cxOf (L2.CX P w) P w K mg base ["m", "left", "timed", "pick", "leaf", "size", "near"] "_law_hope" (defScope s_law_hope) f cdv A outer s H E).A.units + 65 < cLine := by have := hr.un; show (A.deeper _).units + 65 < cLine; omega
  have hu1 : (cxOf (L2.CX P w) P w K mg base ["m", "left", "timed", "pick", "leaf", "size", "near"] "_law_hope" (defScope s_law_hope) f cdv A outer s H E).A.units + 1 < cLine := hu_of hr
  have hp : PassesOwn (model P w) (cxOf (L2.CX P w) P w K mg base ["m", "left", "timed", "pick", "leaf", "size", "near"] "_law_hope" (defScope s_law_hope) f cdv A outer s H E).A (cxOf (L2.CX P w) P w K mg base ["m", "left", "timed", "pick", "leaf", "size", "near"] "_law_hope" (defScope s_law_hope) f cdv A outer s H E).env (cxOf (L2.CX P w) P w K mg base ["m", "left", "timed", "pick", "leaf", "size", "near"] "_law_hope" (defScope s_law_hope) f cdv A outer s H E).xe := passes_of rfl
  have tk : Takes (cxOf (L2.CX P w) P w K mg base ["m", "left", "timed", "pick", "leaf", "size", "near"] "_law_hope" (defScope s_law_hope) f cdv A outer s H E) (fun cls d _ H => E cls d H) := takes_of rfl rfl rfl rfl
  have nd := sc_law_hope.nd
  skip
  skip
  exact (dss_cons (ds_asg (i := 3) nd (de_own F_law_draw hg (hr.mono (Nat.le_trans (by decide : 2 ≤ 2) (Nat.le_add_right _ _))) tk (da_cons (dv 0) (da_cons d_int da_nil)) (LenM.cons (LenM.cons LenM.nil))))
    (dss_cons (ds_if (dt_w (dw_or (dt_lt (dv 1) d_int) (dw_or1 (dt_lt (dv 3) d_int)))) (dss_cons (ds_asg (i := 4) nd (de_own F_law_draw hg (hr.mono (Nat.le_trans (by decide : 2 ≤ 2) (Nat.le_add_right _ _))) tk (da_cons (dv 0) (da_cons d_int da_nil)) (LenM.cons (LenM.cons LenM.nil))))
    (dss_one (ds_ret (de_if (dt_lt (dv 4) d_int) (de_tup (da_cons d_str (da_cons (de_own F_law_draw hg (hr.mono (Nat.le_trans (by decide : 2 ≤ 2) (Nat.le_add_right _ _))) tk (da_cons (dv 0) (da_cons d_int da_nil)) (LenM.cons (LenM.cons LenM.nil))) da_nil))) (de_ix (de_lst (da_cons (de_tup (da_cons d_str (da_cons d_int da_nil))) (da_cons (de_tup (da_cons d_str da_nil)) (da_cons (de_tup (da_cons d_str da_nil)) da_nil)))) (de_sub (dv 4) d_int)))))) dss_nil)
    (dss_cons (ds_if (dt_w (dw_or (dt_lt (dv 3) d_int) (dw_or1 (dt_eq hu (dv 2) d_int)))) (dss_cons (ds_if (dt_w (dw_or (dt_lt (dv 1) d_int) (dw_or1 (dt_eq hu (dv 3) d_int)))) (dss_one (ds_ret (de_tup (da_cons d_str (da_cons (de_own F_law_hope hg (hr.mono (Nat.le_refl _)) tk (da_cons (dv 0) (da_cons (de_sub (dv 1) d_int) (da_cons (dv 2) da_nil))) (LenM.cons (LenM.cons (LenM.cons LenM.nil)))) da_nil))))) dss_nil)
    (dss_cons (ds_asg (i := 5) nd (de_add d_int (de_own F_law_draw hg (hr.mono (Nat.le_trans (by decide : 2 ≤ 2) (Nat.le_add_right _ _))) tk (da_cons (dv 0) (da_cons (de_sub (dv 1) d_int) da_nil)) (LenM.cons (LenM.cons LenM.nil)))))
    (dss_cons (ds_asg (i := 6) nd (de_own F_law_hope hg (hr.mono (Nat.le_refl _)) tk (da_cons (dv 0) (da_cons (dv 5) (da_cons (de_fdv (dv 2) d_int) da_nil))) (LenM.cons (LenM.cons (LenM.cons LenM.nil)))))
    (dss_one (ds_ret (de_tup (da_cons (de_ix (de_lst (da_cons d_str (da_cons d_str da_nil))) (de_own F_law_draw hg (hr.mono (Nat.le_trans (by decide : 2 ≤ 2) (Nat.le_add_right _ _))) tk (da_cons (dv 0) (da_cons d_int da_nil)) (LenM.cons (LenM.cons LenM.nil)))) (da_cons (dv 6) (da_cons (de_own F_law_hope hg (hr.mono (Nat.le_refl _)) tk (da_cons (dv 0) (da_cons (de_sub (de_sub (dv 1) d_int) (dv 5)) (da_cons (de_sub (dv 2) (de_fdv (dv 2) d_int)) da_nil))) (LenM.cons (LenM.cons (LenM.cons LenM.nil)))) da_nil))))))))) dss_nil)
    (dss_cons (ds_if (dt_w (dw_and (dt_gt (dv 1) d_int) (dw_and1 (dt_lt (dv 3) d_int)))) (dss_cons (ds_asg (i := 5) nd (de_add d_int (de_own F_law_draw hg (hr.mono (Nat.le_trans (by decide : 2 ≤ 2) (Nat.le_add_right _ _))) tk (da_cons (dv 0) (da_cons (de_sub (dv 1) d_int) da_nil)) (LenM.cons (LenM.cons LenM.nil)))))
    (dss_cons (ds_asg (i := 6) nd (de_own F_law_hope hg (hr.mono (Nat.le_refl _)) tk (da_cons (dv 0) (da_cons (dv 5) (da_cons (de_fdv (de_sub (dv 2) d_int) d_int) da_nil))) (LenM.cons (LenM.cons (LenM.cons LenM.nil)))))
    (dss_one (ds_ret (de_tup (da_cons d_str (da_cons (dv 6) (da_cons (de_own F_law_hope hg (hr.mono (Nat.le_refl _)) tk (da_cons (dv 0) (da_cons (de_sub (de_sub (dv 1) d_int) (dv 5)) (da_cons (de_sub (de_sub (dv 2) d_int) (de_fdv (de_sub (dv 2) d_int) d_int)) da_nil))) (LenM.cons (LenM.cons (LenM.cons LenM.nil)))) da_nil)))))))) dss_nil)
    (dss_one (ds_ret (de_tup (da_cons (de_ix (de_lst (da_cons d_str (da_cons d_str (da_cons d_str da_nil)))) (de_own F_law_draw hg (hr.mono (Nat.le_trans (by decide : 2 ≤ 2) (Nat.le_add_right _ _))) tk (da_cons (dv 0) (da_cons d_int da_nil)) (LenM.cons (LenM.cons LenM.nil)))) (da_cons (de_own F_law_hope hg (hr.mono (Nat.le_refl _)) tk (da_cons (dv 0) (da_cons (de_sub (dv 1) d_int) (da_cons (de_sub (dv 2) d_int) da_nil))) (LenM.cons (LenM.cons (LenM.cons LenM.nil)))) da_nil)))))))))
theorem d_law_pieces (gr : Fn) (k : Nat)  (F_law_pieces : OwnF P w K mg base (EAx K) (0 + k) "_law_pieces" 1 gr) (z : Zn mg) (cdv : Value) (A : Around) (outer : List PySem.Env) (s : Shared) (H : Hp) (E : XK) (hg0 : A.guards = some []) (hr : Room (0 + k) (A.deeper (envOfC "_law_pieces" (defScope s_law_pieces) s.heap.objs.size f cdv))) :
    DSs (cxOf (L2.CX P w) P w K mg base ["hope", "found", "place", "path", "part"] "_law_pieces" (defScope s_law_pieces) f cdv A outer s H E) (EAx K) (fun cls d _ H => E cls d H) (defBody s_law_pieces) (m_law_pieces gr) := by
  have hg : (cxOf (L2.CX P w) P w K mg base ["hope", "found", "place", "path", "part"] "_law_pieces" (defScope s_law_pieces) f cdv A outer s H E).A.guards = some [] := hg0
  have hu : (cxOf (L2.CX P w) P w K mg base ["hope", "found", "place", "path", "part"] "_law_pieces" (defScope s_law_pieces) f cdv A outer s H E).A.units + 64 < cLine := hr.units
  have hu65 : (cxOf (L2.CX P w) P w K mg base ["hope", "found", "place", "path", "part"] "_law_pieces" (defScope s_law_pieces) f cdv A outer s H E).A.units + 65 < cLine := by have := hr.un; show (A.deeper _).units + 65 < cLine; omega
  have hu1 : (cxOf (L2.CX P w) P w K mg base ["hope", "found", "place", "path", "part"] "_law_pieces" (defScope s_law_pieces) f cdv A outer s H E).A.units + 1 < cLine := hu_of hr
  have hp : PassesOwn (model P w) (cxOf (L2.CX P w) P w K mg base ["hope", "found", "place", "path", "part"] "_law_pieces" (defScope s_law_pieces) f cdv A outer s H E).A (cxOf (L2.CX P w) P w K mg base ["hope", "found", "place", "path", "part"] "_law_pieces" (defScope s_law_pieces) f cdv A outer s H E).env (cxOf (L2.CX P w) P w K mg base ["hope", "found", "place", "path", "part"] "_law_pieces" (defScope s_law_pieces) f cdv A outer s H E).xe := passes_of rfl
  have tk : Takes (cxOf (L2.CX P w) P w K mg base ["hope", "found", "place", "path", "part"] "_law_pieces" (defScope s_law_pieces) f cdv A outer s H E) (fun cls d _ H => E cls d H) := takes_of rfl rfl rfl rfl
  have nd := sc_law_pieces.nd
  skip
  skip
  exact (dss_cons (ds_asg (i := 1) nd (de_lst (da_cons (de_tup (da_cons (de_tup da_nil) (da_cons (dv 0) da_nil))) da_nil)))
    (dss_cons (ds_for hp rfl (di_range2 z.range d_int (de_b1 call_len un_len z.len (by decide +kernel) (dv 0))) (dg_name (i := 2) nd) (dss_one (ds_if (dt_ne hu (de_ix (dv 0) d_int) d_str) (dss_one (ds_asg (i := 1) nd (de_cat (dv 1) (de_lc (own := [("path", 3), ("part", 4)]) rfl nd (di_list (de_own F_law_pieces hg (hr.mono (Nat.le_refl _)) tk (da_cons (de_ix (dv 0) (dv 2)) da_nil) (LenM.cons LenM.nil))) (blk_of (by rfl)) (fun _ _ _ _ _ => (dg_tup rfl (dgs_cons (dg_name (i := 3) nd) (dgs_cons (dg_name (i := 4) nd) dgs_nil)))) (fun _ _ _ _ _ => dts_nil) (fun _ _ _ _ _ => (de_tup (da_cons (de_cat (de_tup (da_cons (dv 2) da_nil)) (dv 3)) (da_cons (dv 4) da_nil)))) (by decide))))) dss_nil)) (NoErr.name 2))
    (dss_one (ds_ret (dv 1)))))
theorem d_law_with (gr : Fn) (k : Nat)  (F_law_with : OwnF P w K mg base (EAx K) (0 + k) "_law_with" 3 gr) (z : Zn mg) (cdv : Value) (A : Around) (outer : List PySem.Env) (s : Shared) (H : Hp) (E : XK) (hg0 : A.guards = some []) (hr : Room (0 + k) (A.deeper (envOfC "_law_with" (defScope s_law_with) s.heap.objs.size f cdv))) :
    DSs (cxOf (L2.CX P w) P w K mg base ["hope", "path", "part", "place"] "_law_with" (defScope s_law_with) f cdv A outer s H E) (EAx K) (fun cls d _ H => E cls d H) (defBody s_law_with) (m_law_with gr) := by
  have hg : (cxOf (L2.CX P w) P w K mg base ["hope", "path", "part", "place"] "_law_with" (defScope s_law_with) f cdv A outer s H E).A.guards = some [] := hg0
  have hu : (cxOf (L2.CX P w) P w K mg base ["hope", "path", "part", "place"] "_law_with" (defScope s_law_with) f cdv A outer s H E).A.units + 64 < cLine := hr.units
  have hu65 : (cxOf (L2.CX P w) P w K mg base ["hope", "path", "part", "place"] "_law_with" (defScope s_law_with) f cdv A outer s H E).A.units + 65 < cLine := by have := hr.un; show (A.deeper _).units + 65 < cLine; omega
  have hu1 : (cxOf (L2.CX P w) P w K mg base ["hope", "path", "part", "place"] "_law_with" (defScope s_law_with) f cdv A outer s H E).A.units + 1 < cLine := hu_of hr
  have hp : PassesOwn (model P w) (cxOf (L2.CX P w) P w K mg base ["hope", "path", "part", "place"] "_law_with" (defScope s_law_with) f cdv A outer s H E).A (cxOf (L2.CX P w) P w K mg base ["hope", "path", "part", "place"] "_law_with" (defScope s_law_with) f cdv A outer s H E).env (cxOf (L2.CX P w) P w K mg base ["hope", "path", "part", "place"] "_law_with" (defScope s_law_with) f cdv A outer s H E).xe := passes_of rfl
  have tk : Takes (cxOf (L2.CX P w) P w K mg base ["hope", "path", "part", "place"] "_law_with" (defScope s_law_with) f cdv A outer s H E) (fun cls d _ H => E cls d H) := takes_of rfl rfl rfl rfl
  have nd := sc_law_with.nd
  skip
  skip
  exact (dss_cons (ds_if (dt_eq hu (dv 1) (de_tup da_nil)) (dss_one (ds_ret (dv 2))) dss_nil)
    (dss_cons (ds_asg (i := 3) nd (de_ix (dv 1) d_int))
    (dss_one (ds_ret (de_cat (de_cat (de_cut (dv 0) do_none (do_some (dv 3))) (de_tup (da_cons (de_own F_law_with hg (hr.mono (Nat.le_refl _)) tk (da_cons (de_ix (dv 0) (dv 3)) (da_cons (de_cut (dv 1) (do_some d_int) do_none) (da_cons (dv 2) da_nil))) (LenM.cons (LenM.cons (LenM.cons LenM.nil)))) da_nil))) (de_cut (dv 0) (do_some (de_add (dv 3) d_int)) do_none))))))
theorem d_law_is_even  (z : Zn mg) (cdv : Value) (A : Around) (outer : List PySem.Env) (s : Shared) (H : Hp) (E : XK) (hg0 : A.guards = some []) (hr : Room 0 (A.deeper (envOfC "_law_is_even" (defScope s_law_is_even) s.heap.objs.size f cdv))) :
    DSs (cxOf (L2.CX P w) P w K mg base ["hope", "path", "count", "place"] "_law_is_even" (defScope s_law_is_even) f cdv A outer s H E) (EAx K) (fun cls d _ H => E cls d H) (defBody s_law_is_even) (m_law_is_even) := by
  have hg : (cxOf (L2.CX P w) P w K mg base ["hope", "path", "count", "place"] "_law_is_even" (defScope s_law_is_even) f cdv A outer s H E).A.guards = some [] := hg0
  have hu : (cxOf (L2.CX P w) P w K mg base ["hope", "path", "count", "place"] "_law_is_even" (defScope s_law_is_even) f cdv A outer s H E).A.units + 64 < cLine := hr.units
  have hu65 : (cxOf (L2.CX P w) P w K mg base ["hope", "path", "count", "place"] "_law_is_even" (defScope s_law_is_even) f cdv A outer s H E).A.units + 65 < cLine := by have := hr.un; show (A.deeper _).units + 65 < cLine; omega
  have hu1 : (cxOf (L2.CX P w) P w K mg base ["hope", "path", "count", "place"] "_law_is_even" (defScope s_law_is_even) f cdv A outer s H E).A.units + 1 < cLine := hu_of hr
  have hp : PassesOwn (model P w) (cxOf (L2.CX P w) P w K mg base ["hope", "path", "count", "place"] "_law_is_even" (defScope s_law_is_even) f cdv A outer s H E).A (cxOf (L2.CX P w) P w K mg base ["hope", "path", "count", "place"] "_law_is_even" (defScope s_law_is_even) f cdv A outer s H E).env (cxOf (L2.CX P w) P w K mg base ["hope", "path", "count", "place"] "_law_is_even" (defScope s_law_is_even) f cdv A outer s H E).xe := passes_of rfl
  have tk : Takes (cxOf (L2.CX P w) P w K mg base ["hope", "path", "count", "place"] "_law_is_even" (defScope s_law_is_even) f cdv A outer s H E) (fun cls d _ H => E cls d H) := takes_of rfl rfl rfl rfl
  have nd := sc_law_is_even.nd
  skip
  skip
  exact (dss_cons (ds_asg (i := 2) nd d_int)
    (dss_cons (ds_for hp rfl (di_tup (dv 1)) (dg_name (i := 3) nd) (dss_cons (ds_asg (i := 2) nd (de_add (dv 2) (de_t1 call_int1 un_int z.int (by decide +kernel) (de_eq hu (de_ix (dv 0) d_int) d_str))))
    (dss_one (ds_asg (i := 0) nd (de_ix (dv 0) (dv 3))))) (NoErr.name 3))
    (dss_one (ds_ret (de_eq hu (de_mod (de_t1 call_int1 un_int z.int (by decide +kernel) (dv 2)) d_int) d_int)))))
theorem d_law_timed  (F_law_pieces : OwnF P w K mg base (EAx K) 24 "_law_pieces" 1 (recG ["hope", "found", "place", "path", "part"] (m_law_pieces) 24)) (z : Zn mg) (cdv : Value) (A : Around) (outer : List PySem.Env) (s : Shared) (H : Hp) (E : XK) (hg0 : A.guards = some []) (hr : Room 24 (A.deeper (envOfC "_law_timed" (defScope s_law_timed) s.heap.objs.size f cdv))) :
    DSs (cxOf (L2.CX P w) P w K mg base ["hope", "found", "path", "part"] "_law_timed" (defScope s_law_timed) f cdv A outer s H E) (EAx K) (fun cls d _ H => E cls d H) (defBody s_law_timed) (m_law_timed) := by
  have hg : (cxOf (L2.CX P w) P w K mg base ["hope", "found", "path", "part"] "_law_timed" (defScope s_law_timed) f cdv A outer s H E).A.guards = some [] := hg0
  have hu : (cxOf (L2.CX P w) P w K mg base ["hope", "found", "path", "part"] "_law_timed" (defScope s_law_timed) f cdv A outer s H E).A.units + 64 < cLine := hr.units
  have hu65 : (cxOf (L2.CX P w) P w K mg base ["hope", "found", "path", "part"] "_law_timed" (defScope s_law_timed) f cdv A outer s H E).A.units + 65 < cLine := by have := hr.un; show (A.deeper _).units + 65 < cLine; omega
  have hu1 : (cxOf (L2.CX P w) P w K mg base ["hope", "found", "path", "part"] "_law_timed" (defScope s_law_timed) f cdv A outer s H E).A.units + 1 < cLine := hu_of hr
  have hp : PassesOwn (model P w) (cxOf (L2.CX P w) P w K mg base ["hope", "found", "path", "part"] "_law_timed" (defScope s_law_timed) f cdv A outer s H E).A (cxOf (L2.CX P w) P w K mg base ["hope", "found", "path", "part"] "_law_timed" (defScope s_law_timed) f cdv A outer s H E).env (cxOf (L2.CX P w) P w K mg base ["hope", "found", "path", "part"] "_law_timed" (defScope s_law_timed) f cdv A outer s H E).xe := passes_of rfl
  have tk : Takes (cxOf (L2.CX P w) P w K mg base ["hope", "found", "path", "part"] "_law_timed" (defScope s_law_timed) f cdv A outer s H E) (fun cls d _ H => E cls d H) := takes_of rfl rfl rfl rfl
  have nd := sc_law_timed.nd
  skip
  skip
  exact (dss_cons (ds_asg (i := 1) nd (de_lstO da_nil))
    (dss_cons (ds_for hp rfl (di_list (de_own F_law_pieces hg (hr.mono (by decide)) tk (da_cons (dv 0) da_nil) (LenM.cons LenM.nil))) (dg_tup rfl (dgs_cons (dg_name (i := 2) nd) (dgs_cons (dg_name (i := 3) nd) dgs_nil))) (dss_one (ds_if (dt_w (dw_and (dt_in (de_ix (dv 3) d_int) (de_tup (da_cons d_str (da_cons d_str (da_cons d_str (da_cons d_str da_nil)))))) (dw_and1 (dt_notinD hu65 (dv 3) (dv 1))))) (dss_one (ds_drop (de_app (dv 1) (dv 3)))) dss_nil)) (NoErr.tup (ne_cons (NoErr.name 2) (ne_cons (NoErr.name 3) ne_nil))))
    (dss_one (ds_ret (dv 1)))))
theorem d_law_told (c : Cs) (k : Nat) (NTooGreat : NmX K mg "TooGreat" [(c.wish, false)]) (NBadMachine : NmX K mg "BadMachine" [(c.wish, false)]) (NBadWish : NmX K mg "BadWish" [(c.wish, true)]) (NBadPath : NmX K mg "BadPath" [(c.wish, false)]) (NBadRun : NmX K mg "BadRun" [(c.wish, false)]) (NBadNumber : NmX K mg "BadNumber" [(c.wish, false)]) (NBadPaper : NmX K mg "BadPaper" [(c.wish, false)]) (fpath : ∀ C ∈ [c.wish], ExK K C ∧ PySem.W.findIn K (.ref C) "path" = some none) (z : Zn mg) (cdv : Value) (A : Around) (outer : List PySem.Env) (s : Shared) (H : Hp) (E : XK) (hg0 : A.guards = some []) (hr : Room (k + 1) (A.deeper (envOfC "_law_told" (defScope s_law_told) s.heap.objs.size f cdv))) :
    DSs (cxOf (L2.CX P w) P w K mg base ["call", "found", "caught", "said", "error"] "_law_told" (defScope s_law_told) f cdv A outer s H E) (EAx K) (fun cls d _ H => E cls d H) ((defBody s_law_told).drop 2) (m_law_told c) := by
  have hg : (cxOf (L2.CX P w) P w K mg base ["call", "found", "caught", "said", "error"] "_law_told" (defScope s_law_told) f cdv A outer s H E).A.guards = some [] := hg0
  have hu : (cxOf (L2.CX P w) P w K mg base ["call", "found", "caught", "said", "error"] "_law_told" (defScope s_law_told) f cdv A outer s H E).A.units + 64 < cLine := hr.units
  have fmost : ∀ C ∈ ([] : List Addr), ExK K C ∧ PySem.W.findIn K (.ref C) "most" = some none := fun _ h => nomatch h
  have fvalue : ∀ C ∈ ([] : List Addr), ExK K C ∧ PySem.W.findIn K (.ref C) "value" = some none := fun _ h => nomatch h
  have fword : ∀ C ∈ ([] : List Addr), ExK K C ∧ PySem.W.findIn K (.ref C) "word" = some none := fun _ h => nomatch h
  have nd := sc_law_told.nd
  exact (dss_cons (ds_if (dt_isNo (dv 2)) (dss_one (ds_ret (de_lst (da_cons (dv 1) da_nil)))) dss_nil)
    (dss_cons (ds_asg (i := 3) nd (de_if (dt_val (de_isN z.isinstance NTooGreat (dv 2))) (de_lst (da_cons (de_tup (da_cons d_str (da_cons (de_fld (cs := []) fmost (dv 2)) da_nil))) da_nil)) (de_lst da_nil)))
    (dss_cons (ds_asg (i := 3) nd (de_if (dt_val (de_isN z.isinstance NBadMachine (dv 2))) (de_cat (dv 3) (de_lst (da_cons (de_tup (da_cons d_str (da_cons (de_fld (cs := [c.wish]) fpath (dv 2)) da_nil))) da_nil))) (dv 3)))
    (dss_cons (ds_asg (i := 3) nd (de_if (dt_val (de_isN z.isinstance NBadWish (dv 2))) (de_cat (dv 3) (de_lst (da_cons (de_tup (da_cons d_str (da_cons (de_fld (cs := [c.wish]) fpath (dv 2)) da_nil))) da_nil))) (dv 3)))
    (dss_cons (ds_asg (i := 3) nd (de_if (dt_val (de_isN z.isinstance NBadPath (dv 2))) (de_cat (dv 3) (de_lst (da_cons (de_tup (da_cons d_str (da_cons (de_fld (cs := []) fvalue (dv 2)) da_nil))) da_nil))) (dv 3)))
    (dss_cons (ds_asg (i := 3) nd (de_if (dt_val (de_isN z.isinstance NBadRun (dv 2))) (de_cat (dv 3) (de_lst (da_cons (de_tup (da_cons d_str (da_cons (de_fld (cs := []) fvalue (dv 2)) da_nil))) da_nil))) (dv 3)))
    (dss_cons (ds_asg (i := 3) nd (de_if (dt_val (de_isN z.isinstance NBadNumber (dv 2))) (de_cat (dv 3) (de_lst (da_cons (de_tup (da_cons d_str (da_cons (de_fld (cs := []) fvalue (dv 2)) da_nil))) da_nil))) (dv 3)))
    (dss_cons (ds_asg (i := 3) nd (de_if (dt_val (de_isN z.isinstance NBadPaper (dv 2))) (de_cat (dv 3) (de_lst (da_cons (de_tup (da_cons d_str (da_cons (de_fld (cs := []) fword (dv 2)) da_nil))) da_nil))) (dv 3)))
    (dss_one (ds_ret (de_if (dt_eq hu (de_b1 call_len un_len z.len (by decide +kernel) (dv 3)) d_int) (de_ix (dv 3) d_int) (de_tup (da_cons d_str da_nil)))))))))))))
theorem d_law_right (c : Cs) (cdv : Value) (F_law_is_even : OwnF P w K mg base (EAx K) 1 "_law_is_even" 2 g_law_is_even) (F_law_with : OwnF P w K mg base (EAx K) 24 "_law_with" 3 (recG ["hope", "path", "part", "place"] (m_law_with) 24)) (F_law_like : OwnF P w K mg base (EAx K) 1 "_law_like" 2 g_law_like) (Fpart_at : OwnF P w K mg base (EAx K) 6 "part_at" 2 (gpart_at c)) (Fis_plain : OwnF P w K mg base (EAx K) 6 "is_plain" 2 (gis_plain c)) (Fworst : OwnF P w K mg base (EAx K) 7 "worst" 2 (gworst c)) (Fhardened : OwnF P w K mg base (EAx K) 25 "hardened" 2 (ghardened c)) (Fsoftened : OwnF P w K mg base (EAx K) 25 "softened" 2 (gsoftened c)) (F_law_pieces : OwnF P w K mg base (EAx K) 24 "_law_pieces" 1 (recG ["hope", "found", "place", "path", "part"] (m_law_pieces) 24)) (Freplaced : OwnF P w K mg base (EAx K) 25 "replaced" 3 (greplaced c)) {gT ct : Addr} {fdT : FuncData} {c1 c2 : Value} (hcd0 : cdv = .ref ct) (TB : TabB base mg ct c.tab) (FT : L2.Fun K "_law_told" "_law_told" s_law_told gT fdT) (hmT : mg "_law_told" = some (.ref gT)) (hkT : PySem.W.keepIn K (.ref gT) = true) (hbT : L2.Binds K fdT ["call"] [])
    (n1T : mg "WishError" = some c1 ∨ (mg "WishError" = none ∧ bootBuiltins "WishError" = some c1 ∧ ("WishError" : Str) ≠ "__name__")) (n2T : mg "TooGreat" = some c2 ∨ (mg "TooGreat" = none ∧ bootBuiltins "TooGreat" = some c2 ∧ ("TooGreat" : Str) ≠ "__name__")) (hcsT : ∀ C ∈ [c.wish], PySem.W.exmAny K (.ref C) [c1, c2] = some true)
    (hRT : ∀ (cdv : Value) (A : Around) (outer : List PySem.Env) (s : Shared) (H : Hp) (E : XK), A.guards = some [] → Room (25 + 1) (A.deeper (envOfC "_law_told" (defScope s_law_told) s.heap.objs.size gT cdv)) →
      DSs (cxOf (L2.CX P w) P w K mg base ["call", "found", "caught", "said", "error"] "_law_told" (defScope s_law_told) gT cdv A outer s H E) (EAx K) (fun cls d _ H => E cls d H) ((defBody s_law_told).drop 2) (m_law_told c)) (z : Zn mg) (A : Around) (outer : List PySem.Env) (s : Shared) (H : Hp) (E : XK) (hg0 : A.guards = some []) (hr : Room 27 (A.deeper (envOfC "_law_right" (defScope s_law_right) s.heap.objs.size f cdv))) :
    DSs (cxOf (L2.CX P w) P w K mg base ["hope", "path", "part", "is_so", "constants", "here", "said", "due", "far", "words", "timed", "word", "way", "own"] "_law_right" (defScope s_law_right) f cdv A outer s H E) (EAx K) (fun cls d _ H => E cls d H) (defBody s_law_right) (m_law_right c) := by
  have hg : (cxOf (L2.CX P w) P w K mg base ["hope", "path", "part", "is_so", "constants", "here", "said", "due", "far", "words", "timed", "word", "way", "own"] "_law_right" (defScope s_law_right) f cdv A outer s H E).A.guards = some [] := hg0
  have hu : (cxOf (L2.CX P w) P w K mg base ["hope", "path", "part", "is_so", "constants", "here", "said", "due", "far", "words", "timed", "word", "way", "own"] "_law_right" (defScope s_law_right) f cdv A outer s H E).A.units + 64 < cLine := hr.units
  have hu65 : (cxOf (L2.CX P w) P w K mg base ["hope", "path", "part", "is_so", "constants", "here", "said", "due", "far", "words", "timed", "word", "way", "own"] "_law_right" (defScope s_law_right) f cdv A outer s H E).A.units + 65 < cLine := by have := hr.un; show (A.deeper _).units + 65 < cLine; omega
  have hu1 : (cxOf (L2.CX P w) P w K mg base ["hope", "path", "part", "is_so", "constants", "here", "said", "due", "far", "words", "timed", "word", "way", "own"] "_law_right" (defScope s_law_right) f cdv A outer s H E).A.units + 1 < cLine := hu_of hr
  have hp : PassesOwn (model P w) (cxOf (L2.CX P w) P w K mg base ["hope", "path", "part", "is_so", "constants", "here", "said", "due", "far", "words", "timed", "word", "way", "own"] "_law_right" (defScope s_law_right) f cdv A outer s H E).A (cxOf (L2.CX P w) P w K mg base ["hope", "path", "part", "is_so", "constants", "here", "said", "due", "far", "words", "timed", "word", "way", "own"] "_law_right" (defScope s_law_right) f cdv A outer s H E).env (cxOf (L2.CX P w) P w K mg base ["hope", "path", "part", "is_so", "constants", "here", "said", "due", "far", "words", "timed", "word", "way", "own"] "_law_right" (defScope s_law_right) f cdv A outer s H E).xe := passes_of rfl
  have tk : Takes (cxOf (L2.CX P w) P w K mg base ["hope", "path", "part", "is_so", "constants", "here", "said", "due", "far", "words", "timed", "word", "way", "own"] "_law_right" (defScope s_law_right) f cdv A outer s H E) (fun cls d _ H => E cls d H) := takes_of rfl rfl rfl rfl
  have nd := sc_law_right.nd
  have scT := sc_law_told
  have hcd : (cxOf (L2.CX P w) P w K mg base ["hope", "path", "part", "is_so", "constants", "here", "said", "due", "far", "words", "timed", "word", "way", "own"] "_law_right" (defScope s_law_right) f cdv A outer s H E).env.code = .ref ct := hcd0
  exact (dss_cons (ds_asg (i := 3) nd (de_own F_law_is_even hg (hr.mono (by decide)) tk (da_cons (dv 0) (da_cons (dv 1) da_nil)) (LenM.cons (LenM.cons LenM.nil))))
    (dss_cons (ds_asg (i := 4) nd (de_if (dt_val (dv 3)) (de_lst (da_cons (de_tup (da_cons d_str da_nil)) (da_cons (de_tup (da_cons d_str da_nil)) da_nil))) (de_lst (da_cons (de_tup (da_cons d_str da_nil)) (da_cons (de_tup (da_cons d_str da_nil)) da_nil)))))
    (dss_cons (ds_asg (i := 5) nd (de_ix (de_lc (own := [("way", 12), ("own", 13)]) rfl nd (di_list (de_own F_law_pieces hg (hr.mono (by decide)) tk (da_cons (dv 0) da_nil) (LenM.cons LenM.nil))) (blk_of (by rfl)) (fun _ _ _ _ _ => (dg_tup rfl (dgs_cons (dg_name (i := 12) nd) (dgs_cons (dg_name (i := 13) nd) dgs_nil)))) (fun _ _ _ _ _ => (dts_one (dt_eq hu (dv 12) (dv 1)))) (fun _ _ _ _ _ => (dv 13)) (by decide)) d_int))
    (dss_cons (ds_asg (i := 6) nd (de_lst (da_cons (de_own Fpart_at hg (hr.mono (by decide)) tk (da_cons (dv 0) (da_cons (dv 1) da_nil)) (LenM.cons (LenM.cons LenM.nil))) (da_cons (de_own Fis_plain hg (hr.mono (by decide)) tk (da_cons (dv 0) (da_cons (dv 1) da_nil)) (LenM.cons (LenM.cons LenM.nil))) (da_cons (de_own Fworst hg (hr.mono (by decide)) tk (da_cons (dv 0) (da_cons (dv 1) da_nil)) (LenM.cons (LenM.cons LenM.nil))) (da_cons (de_own Fhardened hg (hr.mono (by decide)) tk (da_cons (dv 0) (da_cons (dv 1) da_nil)) (LenM.cons (LenM.cons LenM.nil))) (da_cons (de_own Fsoftened hg (hr.mono (by decide)) tk (da_cons (dv 0) (da_cons (dv 1) da_nil)) (LenM.cons (LenM.cons LenM.nil))) da_nil)))))))
    (dss_cons (ds_asg (i := 7) nd (de_lst (da_cons (dv 5) (da_cons (dv 3) (da_cons (de_ix (dv 4) d_int) (da_cons (de_own F_law_with hg (hr.mono (by decide)) tk (da_cons (dv 0) (da_cons (dv 1) (da_cons (de_ix (dv 4) d_int) da_nil))) (LenM.cons (LenM.cons (LenM.cons LenM.nil)))) (da_cons (de_own F_law_with hg (hr.mono (by decide)) tk (da_cons (dv 0) (da_cons (dv 1) (da_cons (de_ix (dv 4) d_int) da_nil))) (LenM.cons (LenM.cons (LenM.cons LenM.nil)))) da_nil)))))))
    (dss_cons (ds_if (dt_not (dt_val (de_own F_law_like hg (hr.mono (by decide)) tk (da_cons (dv 6) (da_cons (dv 7) da_nil)) (LenM.cons (LenM.cons LenM.nil))))) (dss_one (ds_ret d_bl)) dss_nil)
    (dss_cons (ds_asg (i := 8) nd (de_own F_law_with hg (hr.mono (by decide)) tk (da_cons (dv 0) (da_cons (dv 1) (da_cons (dv 2) da_nil))) (LenM.cons (LenM.cons (LenM.cons LenM.nil)))))
    (dss_cons (ds_setLc (i := 9) (own := [("way", 12), ("own", 13)]) rfl nd (di_list (de_own F_law_pieces hg (hr.mono (by decide)) tk (da_cons (dv 8) da_nil) (LenM.cons LenM.nil))) (blk_of (by rfl)) (fun _ _ _ _ _ => (dg_tup rfl (dgs_cons (dg_name (i := 12) nd) (dgs_cons (dg_name (i := 13) nd) dgs_nil)))) (fun _ _ _ _ _ => dts_nil) (fun _ _ _ _ _ => (de_ix (dv 13) d_int)) (by decide))
    (dss_cons (ds_setLc (i := 10) (own := [("word", 11)]) rfl nd (di_list (dv 9)) (blk_of (by rfl)) (fun _ _ _ _ _ => (dg_name (i := 11) nd)) (fun _ _ _ _ _ => (dts_one (dt_in (dv 11) (de_tup (da_cons d_str (da_cons d_str (da_cons d_str (da_cons d_str da_nil)))))))) (fun _ _ _ _ _ => (dv 11)) (by decide))
    (dss_cons (ds_if (dt_w (dw_or (dt_gt (de_b1 call_len un_len z.len (by decide +kernel) (dv 9)) d_int) (dw_or1 (dt_gt (de_b1 call_len un_len z.len (by decide +kernel) (dv 10)) d_int)))) (dss_one (ds_ret (de_eq hu (de_told (k := 25) (n0 := 0) (i1 := 1) (i2 := 2) (i3 := 4) (cs := [c.wish]) hg (hr.mono (by decide)) FT scT hmT hkT hbT TB hcd (lamS_by rfl) rfl (fun _ _ _ _ _ => rfl) (fun f d A outer s H E ga ra => de_own Freplaced ga ra (takes_of rfl rfl rfl rfl) (da_cons (dv 0) (da_cons (dv 1) (da_cons (dv 2) da_nil))) (LenM.cons (LenM.cons (LenM.cons LenM.nil)))) rfl n1T n2T hcsT hRT rfl rfl rfl rfl (by decide) (by decide) (by decide) (by decide) (by decide) rfl rfl rfl rfl rfl rfl) (de_tup (da_cons d_str (da_cons (de_tup da_nil) da_nil)))))) dss_nil)
    (dss_one (ds_ret (de_own F_law_like hg (hr.mono (by decide)) tk (da_cons (de_lst (da_cons (de_own Freplaced hg (hr.mono (by decide)) tk (da_cons (dv 0) (da_cons (dv 1) (da_cons (dv 2) da_nil))) (LenM.cons (LenM.cons (LenM.cons LenM.nil)))) (da_cons (de_own Freplaced hg (hr.mono (by decide)) tk (da_cons (dv 0) (da_cons (dv 1) (da_cons (dv 2) da_nil))) (LenM.cons (LenM.cons (LenM.cons LenM.nil)))) da_nil))) (da_cons (de_lst (da_cons (dv 8) (da_cons (dv 8) da_nil))) da_nil)) (LenM.cons (LenM.cons LenM.nil)))))))))))))))
theorem dlaw (c : Cs)  (F_law_begun : OwnF P w K mg base (EAx K) 2 "_law_begun" 1 g_law_begun) (Fpaths : OwnF P w K mg base (EAx K) 5 "paths" 1 (gpaths c)) (Fis_plain : OwnF P w K mg base (EAx K) 6 "is_plain" 2 (gis_plain c)) (F_law_hope : OwnF P w K mg base (EAx K) 15 "_law_hope" 3 (recG ["m", "left", "timed", "pick", "leaf", "size", "near"] (m_law_hope) 13)) (F_law_pieces : OwnF P w K mg base (EAx K) 24 "_law_pieces" 1 (recG ["hope", "found", "place", "path", "part"] (m_law_pieces) 24)) (Ftimed_parts : OwnF P w K mg base (EAx K) 5 "timed_parts" 1 (gtimed_parts c)) (F_law_like : OwnF P w K mg base (EAx K) 1 "_law_like" 2 g_law_like) (Fhardened : OwnF P w K mg base (EAx K) 25 "hardened" 2 (ghardened c)) (F_law_timed : OwnF P w K mg base (EAx K) 25 "_law_timed" 1 g_law_timed) (F_law_draw : OwnF P w K mg base (EAx K) 2 "_law_draw" 2 g_law_draw) (F_law_right : OwnF P w K mg base (EAx K) 28 "_law_right" 3 (g_law_right c)) (z : Zn mg) (cdv : Value) (A : Around) (outer : List PySem.Env) (s : Shared) (H : Hp) (E : XK) (hg0 : A.guards = some []) (hr : Room 28 (A.deeper (envOfC "law" (defScope slaw) s.heap.objs.size f cdv))) :
    DSs (cxOf (L2.CX P w) P w K mg base ["script", "m", "turn", "hope", "said", "ways", "far", "part", "kept_so", "some", "timed", "path", "own"] "law" (defScope slaw) f cdv A outer s H E) (EAx K) (fun cls d _ H => E cls d H) (defBody slaw) (mlaw c) := by
  have hg : (cxOf (L2.CX P w) P w K mg base ["script", "m", "turn", "hope", "said", "ways", "far", "part", "kept_so", "some", "timed", "path", "own"] "law" (defScope slaw) f cdv A outer s H E).A.guards = some [] := hg0
  have hu : (cxOf (L2.CX P w) P w K mg base ["script", "m", "turn", "hope", "said", "ways", "far", "part", "kept_so", "some", "timed", "path", "own"] "law" (defScope slaw) f cdv A outer s H E).A.units + 64 < cLine := hr.units
  have hu65 : (cxOf (L2.CX P w) P w K mg base ["script", "m", "turn", "hope", "said", "ways", "far", "part", "kept_so", "some", "timed", "path", "own"] "law" (defScope slaw) f cdv A outer s H E).A.units + 65 < cLine := by have := hr.un; show (A.deeper _).units + 65 < cLine; omega
  have hu1 : (cxOf (L2.CX P w) P w K mg base ["script", "m", "turn", "hope", "said", "ways", "far", "part", "kept_so", "some", "timed", "path", "own"] "law" (defScope slaw) f cdv A outer s H E).A.units + 1 < cLine := hu_of hr
  have hp : PassesOwn (model P w) (cxOf (L2.CX P w) P w K mg base ["script", "m", "turn", "hope", "said", "ways", "far", "part", "kept_so", "some", "timed", "path", "own"] "law" (defScope slaw) f cdv A outer s H E).A (cxOf (L2.CX P w) P w K mg base ["script", "m", "turn", "hope", "said", "ways", "far", "part", "kept_so", "some", "timed", "path", "own"] "law" (defScope slaw) f cdv A outer s H E).env (cxOf (L2.CX P w) P w K mg base ["script", "m", "turn", "hope", "said", "ways", "far", "part", "kept_so", "some", "timed", "path", "own"] "law" (defScope slaw) f cdv A outer s H E).xe := passes_of rfl
  have tk : Takes (cxOf (L2.CX P w) P w K mg base ["script", "m", "turn", "hope", "said", "ways", "far", "part", "kept_so", "some", "timed", "path", "own"] "law" (defScope slaw) f cdv A outer s H E) (fun cls d _ H => E cls d H) := takes_of rfl rfl rfl rfl
  have nd := sclaw.nd
  skip
  skip
  exact (dss_cons (ds_asg (i := 1) nd (de_own F_law_begun hg (hr.mono (by decide)) tk (da_cons (dv 0) da_nil) (LenM.cons LenM.nil)))
    (dss_cons (ds_for hp rfl (di_range1 z.range d_int) (dg_name (i := 2) nd) (dss_cons (ds_asgG (de_tup (da_cons (de_own F_law_hope hg (hr.mono (by decide)) tk (da_cons (dv 1) (da_cons (de_ix (de_lst (da_cons d_int (da_cons d_int da_nil))) (de_own F_law_draw hg (hr.mono (by decide)) tk (da_cons (dv 1) (da_cons d_int da_nil)) (LenM.cons (LenM.cons LenM.nil)))) (da_cons d_int da_nil))) (LenM.cons (LenM.cons (LenM.cons LenM.nil)))) (da_cons (de_own F_law_hope hg (hr.mono (by decide)) tk (da_cons (dv 1) (da_cons (de_ix (de_lst (da_cons d_int (da_cons d_int da_nil))) (de_own F_law_draw hg (hr.mono (by decide)) tk (da_cons (dv 1) (da_cons d_int da_nil)) (LenM.cons (LenM.cons LenM.nil)))) (da_cons d_int da_nil))) (LenM.cons (LenM.cons (LenM.cons LenM.nil)))) da_nil))) (dg_tup rfl (dgs_cons (dg_name (i := 3) nd) (dgs_cons (dg_name (i := 7) nd) dgs_nil))) (ne := (NoErr.tup (ne_cons (NoErr.name 3) (ne_cons (NoErr.name 7) ne_nil)))))
    (dss_cons (ds_par (i := 8) (j := 9) rfl nd (da_cons (de_b1 (call_reprD hg hu) un_repr z.repr (by decide +kernel) (de_lst (da_cons (dv 3) (da_cons (dv 7) da_nil)))) (da_cons (de_own F_law_pieces hg (hr.mono (by decide)) tk (da_cons (dv 3) da_nil) (LenM.cons LenM.nil)) da_nil)))
    (dss_cons (ds_asg (i := 4) nd (de_lst (da_cons (de_own Fpaths hg (hr.mono (by decide)) tk (da_cons (dv 3) da_nil) (LenM.cons LenM.nil)) (da_cons (de_own Fpaths hg (hr.mono (by decide)) tk (da_cons (dv 3) da_nil) (LenM.cons LenM.nil)) (da_cons (de_own Ftimed_parts hg (hr.mono (by decide)) tk (da_cons (dv 3) da_nil) (LenM.cons LenM.nil)) (da_cons (de_own Ftimed_parts hg (hr.mono (by decide)) tk (da_cons (dv 3) da_nil) (LenM.cons LenM.nil)) da_nil))))))
    (dss_cons (ds_par (i := 5) (j := 10) rfl nd (da_cons (de_t1 call_tuple_of un_tuple z.tuple (by decide +kernel) (de_lc (own := [("path", 11), ("own", 12)]) rfl nd (di_list (dv 9)) (blk_of (by rfl)) (fun _ _ _ _ _ => (dg_tup rfl (dgs_cons (dg_name (i := 11) nd) (dgs_cons (dg_name (i := 12) nd) dgs_nil)))) (fun _ _ _ _ _ => dts_nil) (fun _ _ _ _ _ => (dv 11)) (by decide))) (da_cons (de_t1 call_tuple_of un_tuple z.tuple (by decide +kernel) (de_own F_law_timed hg (hr.mono (by decide)) tk (da_cons (dv 3) da_nil) (LenM.cons LenM.nil))) da_nil)))
    (dss_cons (ds_if (dt_not (dt_val (de_own F_law_like hg (hr.mono (by decide)) tk (da_cons (dv 4) (da_cons (de_lst (da_cons (dv 5) (da_cons (dv 5) (da_cons (dv 10) (da_cons (dv 10) da_nil))))) da_nil)) (LenM.cons (LenM.cons LenM.nil))))) (dss_one (ds_ret d_bl)) dss_nil)
    (dss_one (ds_if (dt_w (dw_or (dt_ne hu (de_lc (own := [("path", 11)]) rfl nd (di_tup (dv 5)) (blk_of (by rfl)) (fun _ _ _ _ _ => (dg_name (i := 11) nd)) (fun _ _ _ _ _ => (dts_one (dt_not (dt_val (de_own F_law_right hg (hr.mono (by decide)) LamX.takes0 (da_cons (dv 3) (da_cons (dv 11) (da_cons (dv 7) da_nil))) (LenM.cons (LenM.cons (LenM.cons LenM.nil)))))))) (fun _ _ _ _ _ => (dv 11)) (by decide)) (de_lst da_nil)) (dw_or1 (dt_ne hu (de_b1 (call_reprD hg hu) un_repr z.repr (by decide +kernel) (de_lst (da_cons (dv 3) (da_cons (dv 7) da_nil)))) (dv 8))))) (dss_one (ds_ret d_bl)) dss_nil))))))) (NoErr.name 2))
    (dss_cons (ds_asg (i := 3) nd (de_tup (da_cons d_str (da_cons (de_tup (da_cons d_str (da_cons (de_tup (da_cons d_str (da_cons (de_tup (da_cons d_str (da_cons d_int da_nil))) da_nil))) (da_cons (de_tup (da_cons d_str (da_cons (de_tup (da_cons d_str (da_cons (de_tup (da_cons d_str (da_cons d_int da_nil))) da_nil))) da_nil))) da_nil)))) da_nil))))
    (dss_cons (ds_asg (i := 4) nd (de_lst (da_cons (de_own Fpaths hg (hr.mono (by decide)) tk (da_cons (dv 3) da_nil) (LenM.cons LenM.nil)) (da_cons (de_own Fis_plain hg (hr.mono (by decide)) tk (da_cons (dv 3) (da_cons (de_tup (da_cons d_int (da_cons d_int da_nil))) da_nil)) (LenM.cons (LenM.cons LenM.nil))) (da_cons (de_own Fis_plain hg (hr.mono (by decide)) tk (da_cons (dv 3) (da_cons (de_tup (da_cons d_int (da_cons d_int (da_cons d_int da_nil)))) da_nil)) (LenM.cons (LenM.cons LenM.nil))) (da_cons (de_own Fis_plain hg (hr.mono (by decide)) tk (da_cons (dv 3) (da_cons (de_tup (da_cons d_int (da_cons d_int (da_cons d_int (da_cons d_int da_nil))))) da_nil)) (LenM.cons (LenM.cons LenM.nil))) da_nil))))))
    (dss_cons (ds_asg (i := 5) nd (de_tup (da_cons (de_tup da_nil) (da_cons (de_tup (da_cons d_int da_nil)) (da_cons (de_tup (da_cons d_int (da_cons d_int da_nil))) (da_cons (de_tup (da_cons d_int (da_cons d_int (da_cons d_int da_nil)))) (da_cons (de_tup (da_cons d_int (da_cons d_int da_nil))) (da_cons (de_tup (da_cons d_int (da_cons d_int (da_cons d_int da_nil)))) (da_cons (de_tup (da_cons d_int (da_cons d_int (da_cons d_int (da_cons d_int da_nil))))) da_nil)))))))))
    (dss_cons (ds_if (dt_ne hu (de_cat (dv 4) (de_lst (da_cons (de_own Fis_plain hg (hr.mono (by decide)) tk (da_cons (dv 3) (da_cons (de_tup da_nil) da_nil)) (LenM.cons (LenM.cons LenM.nil))) da_nil))) (de_lst (da_cons (dv 5) (da_cons d_bl (da_cons d_bl (da_cons d_bl (da_cons d_bl da_nil))))))) (dss_one (ds_ret d_bl)) dss_nil)
    (dss_cons (ds_asg (i := 6) nd (de_tup (da_cons d_str (da_cons (de_tup (da_cons d_str (da_cons (de_tup (da_cons d_str (da_cons (de_tup (da_cons d_str (da_cons d_int da_nil))) da_nil))) (da_cons (de_tup (da_cons d_str da_nil)) da_nil)))) da_nil))))
    (dss_one (ds_ret (de_and (de_eq hu (de_own Fhardened hg (hr.mono (by decide)) tk (da_cons (dv 3) (da_cons (de_tup (da_cons d_int (da_cons d_int da_nil))) da_nil)) (LenM.cons (LenM.cons LenM.nil))) (dv 6)) (de_one (de_eq hu (de_own Fhardened hg (hr.mono (by decide)) tk (da_cons (dv 3) (da_cons (de_tup da_nil) da_nil)) (LenM.cons (LenM.cons LenM.nil))) (de_tup (da_cons d_str da_nil))))))))))))))
end
end K03
end EG


set_option Elab.async false
set_option linter.all false
set_option maxRecDepth 100000
set_option maxHeartbeats 4000000
namespace EG
open PySem PySem.Spec PyProof.Rows L2
/-! ### an Mo that ends well -/
def Ok {α : Type} (m : Mo α) (w : Sto) (P : α → Sto → Prop) : Prop := ∃ a w', m w = some (.ok a, w') ∧ P a w'
section
variable {α β : Type} {m : Mo α} {f : α → Mo β} {w : Sto} {P : α → Sto → Prop} {Q : β → Sto → Prop}
theorem Ok.bind (h : Ok m w (fun a w1 => Ok (f a) w1 Q)) : Ok (mBind m f) w Q := by
  obtain ⟨a, w1, e1, b, w2, e2, q⟩ := h
  exact ⟨b, w2, by unfold mBind; rw [e1]; exact e2, q⟩
theorem Ok.imp {P' : α → Sto → Prop} (h : Ok m w P) (k : ∀ a w', P a w' → P' a w') : Ok m w P' := by
  obtain ⟨a, w1, e1, p⟩ := h
  exact ⟨a, w1, e1, k _ _ p⟩
theorem Ok.pure {a : α} (h : P a w) : Ok (mPure a) w P := ⟨a, w, rfl, h⟩
theorem Ok.of {a : α} {w' : Sto} (e : m w = some (.ok a, w')) (h : P a w') : Ok m w P := ⟨a, w', e, h⟩
/-- a loop that never leaves early -/
theorem Ok.for {set : PyData → Env → Mo Env} {body : Env → Mo Out} (I : Env → Sto → Prop) : ∀ {ds : List PyData} {ρ : Env} {w : Sto}, I ρ w → (∀ d ∈ ds, ∀ ρ w, I ρ w → Ok (mBind (set d ρ) body) w (fun o w' => ∃ ρ', o = .nx ρ' ∧ I ρ' w')) → Ok (forL set body ds ρ) w (fun o w' => ∃ ρ', o = .nx ρ' ∧ I ρ' w')
  | [], ρ, w, h, _ => ⟨_, _, rfl, ρ, rfl, h⟩
  | d :: r, ρ, w, h, k => by
    obtain ⟨o, w1, e, ρ1, rfl, i1⟩ := k d List.mem_cons_self ρ w h
    obtain ⟨o2, w2, e2, q⟩ := Ok.for I (ds := r) i1 (fun d hd => k d (List.mem_cons_of_mem _ hd))
    refine ⟨o2, w2, ?_, q⟩
    unfold forL
    unfold mBind at e ⊢
    cases hs : set d ρ w with
    | none => rw [hs] at e; cases e
    | some p =>
      obtain ⟨p1, p2⟩ := p
      cases p1 with
      | err _ _ => rw [hs] at e; cases e
      | ok ρ2 =>
        rw [hs] at e
        simp only at e ⊢
        rw [e]
        exact e2
end
theorem mBind_of {α β : Type} {m : Mo α} {f : α → Mo β} {w w1 : Sto} {a : α} (h : m w = some (.ok a, w1)) : mBind m f w = f a w1 := by unfold mBind; rw [h]
theorem mSeq_nx {a b : Env → Mo Out} {ρ ρ1 : Env} {w w1 : Sto} (h : a ρ w = some (.ok (.nx ρ1), w1)) : mSeq a b ρ w = b ρ1 w1 := by unfold mSeq; rw [mBind_of h]
theorem mAsg_of {i : Nat} {m : Env → Mo SV} {ρ : Env} {w w1 : Sto} {v : SV} (h : m ρ w = some (.ok v, w1)) : mAsg i m ρ w = some (.ok (.nx (ρ.set i (some v))), w1) := by unfold mAsg; rw [mBind_of h]; rfl
theorem mFor_of {it : Env → Mo (List PyData)} {set : PyData → Env → Mo Env} {body : Env → Mo Out} {ρ : Env} {w w1 : Sto} {ds : List PyData} (h : it ρ w = some (.ok ds, w1)) : mFor it set body ρ w = forL set body ds ρ w1 := by unfold mFor; rw [mBind_of h]
/-- a comprehension whose parts change nothing -/
theorem lc_ok {set : PyData → Env → Mo Env} {cond : Env → Mo Bool} {elt : Env → Mo SV} {ρ : Env} {w : Sto} (ρd : PyData → Env) (p : PyData → Bool) (F : PyData → PyData) : ∀ {ds acc : List PyData}, (∀ d ∈ ds, ∀ w', set d ρ w' = some (.ok (ρd d), w') ∧ cond (ρd d) w' = some (.ok (p d), w') ∧ (p d = true → elt (ρd d) w' = some (.ok (.dat (F d)), w'))) →
    acc.length + ds.length ≤ sizeLine → lcL w.length set cond elt ds ρ (w ++ [.lst acc]) = some (.ok (), w ++ [.lst (acc ++ (ds.filter p).map F)])
  | [], acc, _, _ => by simp [lcL, mPure]
  | d :: r, acc, h, hz => by
    obtain ⟨h1, h2, h3⟩ := h d List.mem_cons_self (w ++ [.lst acc])
    have hz' : acc.length + (r.length + 1) ≤ sizeLine := hz
    unfold lcL
    rw [mBind_of h1, mBind_of h2]
    cases hp : p d with
    | false =>
      simp only [Bool.false_eq_true, if_false]
      rw [lc_ok ρd p F (fun d hd => h d (List.mem_cons_of_mem _ hd)) (by omega)]
      simp [hp]
    | true =>
      have hs : ∀ y, (w ++ [SO.lst acc]).set w.length y = w ++ [y] := fun y => by simp
      have hl : acc.length < sizeLine := by omega
      simp only [if_true]
      rw [show ∀ f : SV → Mo Unit, mBind (elt (ρd d)) f (w ++ [SO.lst acc]) = f (.dat (F d)) (w ++ [SO.lst acc]) from fun f => mBind_of (h3 hp)]
      simp only [fz1, List.getElem?_concat_length, if_pos hl, hs]
      rw [lc_ok ρd p F (acc := acc ++ [F d]) (fun d hd => h d (List.mem_cons_of_mem _ hd)) (by rw [List.length_append, List.length_singleton]; omega)]
      simp [hp]
theorem ixN_pos {n : Nat} {i : Int} (h : 0 ≤ i) (h2 : i < n) : ixN n i = some i.toNat := by
  unfold ixN
  rw [if_pos h, if_pos (by omega)]
namespace K03
def mixZ (cell n : Int) : Int := (cell * (1 + 2 * n) * 48271 % 2147483647 + 7919 * n * n + 104729 * n) * 69621 % 2147483629 / 7
theorem mixed_ok (cell n : Int) (w : Sto) (h0 : 0 ≤ n) (h1 : n ≤ 1000000) : g_law_mixed [.dat (.int cell), .dat (.int n)] w = some (.ok (.dat (.int (mixZ cell n))), w) := by
  have a1 : sm64 (1 + 2 * n) = true := by unfold sm64; simp [mBind, mPure, mSeq, mAsg, mBin, mUn, mV, mC, mRet, gI, mDef, endO, startE, fzR, mCons, mNil]; omega
  have a2 : sm64 n = true := by unfold sm64; simp [mBind, mPure, mSeq, mAsg, mBin, mUn, mV, mC, mRet, gI, mDef, endO, startE, fzR, mCons, mNil]; omega
  have a3 : sm64 (2 : Int) = true := by decide
  have a4 : sm64 (48271 : Int) = true := by decide
  have a5 : sm64 (7919 : Int) = true := by decide
  have a6 : sm64 (104729 : Int) = true := by decide
  have a7 : sm64 (69621 : Int) = true := by decide
  simp [mBind, mPure, mSeq, mAsg, mBin, mUn, mV, mC, mRet, gI, mDef, endO, startE, fzR, mCons, mNil, g_law_mixed, m_law_mixed, gInt, a1, a2, a3, a4, a5, a6, a7, mixZ]
theorem atD_int {cs : List Int} {i : Int} (h : 0 ≤ i) (h2 : i < cs.length) : ∃ c, atD (cs.map PyData.int) i = some (.int c) := by
  unfold atD
  rw [ixN_pos h (by rw [List.length_map]; exact h2), Option.bind_some, List.getElem?_map, List.getElem?_eq_getElem (by omega)]
  exact ⟨_, rfl⟩
theorem script_items {ns : List Int} : ∀ {k : Nat} {d : PyData}, d ∈ enumI k (ns.map .int) → ∃ (i : Nat) (c : Int), d = .tuple [.int (i : Int), .int c] := by
  induction ns with
  | nil => intro k d h; cases h
  | cons n r ih =>
    intro k d h
    rcases List.mem_cons.mp h with rfl | h
    · exact ⟨k, n, rfl⟩
    · exact ih h
def base64 : List Int := (List.range 64).map (fun (i : Nat) => (17 + (0 + (i : Int)) : Int))
def NxI (I : Env → Sto → Prop) : Out → Sto → Prop := fun o w' => ∃ ρ', o = .nx ρ' ∧ I ρ' w'
theorem folded_ok (ns : List Int) (w : Sto) : ∃ cs : List Int, cs.length = 64 ∧ g_law_folded [.scr ns] w = some (.ok (.dat (.list (cs.map .int))), w) := by
  have e1 : mLcO (mRange1 (mC (.int 64))) [2] (mSet 2) mYes (mBin (mC (.int 17)) (mV 2) gAdd) [some (.scr ns), none, none, none] w = some (.ok (.obj w.length), w ++ [.lst (base64.map .int)]) := by
    have e : lcL w.length (mSet 2) mYes (mBin (mC (.int 17)) (mV 2) gAdd) (intsFrom 0 64) (wipeE [some (.scr ns), none, none, none] [2]) (w ++ [.lst []]) = some (.ok (), w ++ [.lst ([] ++ ((intsFrom 0 64).filter fun _ => true).map fun d => match d with | .int i => .int (17 + i) | d => d)]) := by
      refine lc_ok (fun d => [some (.scr ns), none, some (.dat d), none]) (fun _ => true) _ (fun d hd w' => ?_) (by rw [sizeLine_eq]; decide)
      obtain ⟨i, hi, rfl⟩ := List.mem_map.mp hd
      exact ⟨rfl, rfl, fun _ => rfl⟩
    have e2 : mRange1 (mC (.int 64)) [some (.scr ns), none, none, none] w = some (.ok (intsFrom 0 64), w) := rfl
    unfold mLcO
    rw [mBind_of e2]
    simp only [e]
    rw [show (w ++ [SO.lst ([] ++ ((intsFrom 0 64).filter fun _ => true).map fun d => match d with | .int i => .int (17 + i) | d => d)]) = w ++ [.lst (base64.map .int)] from rfl]
    rw [List.take_of_length_le (by simp [mBind, mPure, mSeq, mAsg, mBin, mUn, mV, mC, mRet, gI, mDef, endO, startE, fzR, mCons, mNil])]
  -- the store behind each turn
  let I : Env → Sto → Prop := fun ρ w' => ∃ (x y : Option SV) (cs : List Int), ρ = [some (.scr ns), some (.obj w.length), x, y] ∧ cs.length = 64 ∧ w' = w ++ [.lst (cs.map .int)]
  have st : ∀ y : SO, ∀ z, (w ++ [z]).set w.length y = w ++ [y] := fun y z => by simp [mBind, mPure, mSeq, mAsg, mBin, mUn, mV, mC, mRet, gI, mDef, endO, startE, fzR, mCons, mNil]
  have l1 : Ok (forL (mSetT [mSet 2, mSet 3]) b_law_folded0 (enumI 0 (ns.map .int)) [some (.scr ns), some (.obj w.length), none, none]) (w ++ [.lst (base64.map .int)]) (NxI I) := by
    refine Ok.for I ⟨_, _, base64, rfl, rfl, rfl⟩ fun d hd ρ w' hI => ?_
    obtain ⟨i, c, rfl⟩ := script_items hd
    obtain ⟨x, y, cs, rfl, hl, rfl⟩ := hI
    have h0 : (0 : Int) ≤ (i : Int) % 64 := Int.emod_nonneg _ (by decide)
    have h1 : (i : Int) % 64 < 64 := Int.emod_lt_of_pos _ (by decide)
    obtain ⟨v, hv⟩ := atD_int (cs := cs) h0 (by rw [hl]; exact h1)
    have hj : ixN 64 ((i : Int) % 64) = some ((i : Int) % 64).toNat := ixN_pos h0 h1
    refine ⟨.nx [some (.scr ns), some (.obj w.length), some (.dat (.int i)), some (.dat (.int c))], w ++ [.lst ((cs.set ((i : Int) % 64).toNat ((v * 48271 + c) % 2147483647)).map .int)], ?_, _, rfl, _, _, _, rfl, by rw [List.length_set]; exact hl, rfl⟩
    have a4 : sm64 (48271 : Int) = true := by decide
    simp [mBind, mPure, mSeq, mAsg, mBin, mUn, mV, mC, mRet, gI, mDef, endO, startE, fzR, mCons, mNil, mSetT, mSets, mSet, b_law_folded0, mSti, stiO, gInt, gIx, toD, itemsD, hv, fz1, hl, hj, a4, List.map_set]
  obtain ⟨o1, w1, f1, ρ1, rfl, x1, y1, cs1, rfl, hl1, rfl⟩ := l1
  have l2 : Ok (forL (mSet 2) b_law_folded1 (intsFrom 1 63) [some (.scr ns), some (.obj w.length), x1, y1]) (w ++ [.lst (cs1.map .int)]) (NxI I) := by
    refine Ok.for I ⟨_, _, cs1, rfl, hl1, rfl⟩ fun d hd ρ w' hI => ?_
    obtain ⟨i, hi, rfl⟩ := List.mem_map.mp hd
    obtain ⟨x, y, cs, rfl, hl, rfl⟩ := hI
    have hi : i < 63 := by simpa using hi
    obtain ⟨v, hv⟩ := atD_int (cs := cs) (i := 1 + (i : Int)) (by omega) (by rw [hl]; omega)
    obtain ⟨u, hu⟩ := atD_int (cs := cs) (i := 1 + (i : Int) - 1) (by omega) (by rw [hl]; omega)
    have hj : ixN 64 (1 + (i : Int)) = some (1 + (i : Int)).toNat := ixN_pos (by omega) (by omega)
    refine ⟨.nx [some (.scr ns), some (.obj w.length), some (.dat (.int (1 + i))), y], w ++ [.lst ((cs.set (1 + (i : Int)).toNat ((v + u * 16807) % 2147483647)).map .int)], ?_, _, rfl, _, _, _, rfl, by rw [List.length_set]; exact hl, rfl⟩
    have a4 : sm64 (16807 : Int) = true := by decide
    simp [mBind, mPure, mSeq, mAsg, mBin, mUn, mV, mC, mRet, gI, mDef, endO, startE, fzR, mCons, mNil, mSet, b_law_folded1, mSti, stiO, gInt, gIx, toD, itemsD, hv, hu, fz1, hl, hj, a4, List.map_set]
  obtain ⟨o2, w2, f2, ρ2, rfl, x2, y2, cs2, rfl, hl2, rfl⟩ := l2
  refine ⟨cs2, hl2, ?_⟩
  have e3 : mEnum (mV 0) [some (.scr ns), some (.obj w.length), none, none] (w ++ [.lst (base64.map .int)]) = some (.ok (enumI 0 (ns.map .int)), w ++ [.lst (base64.map .int)]) := rfl
  have e4 : mRange2 (mC (.int 1)) (mC (.int 64)) [some (.scr ns), some (.obj w.length), x1, y1] (w ++ [.lst (cs1.map .int)]) = some (.ok (intsFrom 1 63), w ++ [.lst (cs1.map .int)]) := rfl
  have e5 : m_law_folded [some (.scr ns), none, none, none] w = some (.ok (.rt (.dat (.list (cs2.map .int)))), w ++ [.dead]) := by
    unfold m_law_folded
    refine (mSeq_nx (mAsg_of e1)).trans ?_
    refine (mSeq_nx ((mFor_of e3).trans f1)).trans ?_
    refine (mSeq_nx ((mFor_of e4).trans f2)).trans ?_
    simp [mBind, mPure, mSeq, mAsg, mBin, mUn, mV, mC, mRet, gI, mDef, endO, startE, fzR, mCons, mNil, fz1]
  show endO w.length (m_law_folded [some (.scr ns), none, none, none] w) = _
  rw [e5]
  simp [mBind, mPure, mSeq, mAsg, mBin, mUn, mV, mC, mRet, gI, mDef, endO, startE, fzR, mCons, mNil]
/-! ### drawing -/
theorem ints_eq {gs : List Int} : intsD (gs.map .int) = some gs := by
  induction gs with
  | nil => rfl
  | cons g r ih => simp [mBind, mPure, mSeq, mAsg, mBin, mUn, mV, mC, mRet, gI, mDef, endO, startE, fzR, mCons, mNil, intsD, ih]
def greats (ns : List Int) : List Int := ns.map fun c => if 1000000000000000000 ≤ c then c else 0
theorem begun_ok (ns : List Int) (hz : ns.length ≤ 63) : ∃ cs : List Int, cs.length = 64 ∧ g_law_begun [.scr ns] [] = some (.ok (.obj 2), [.dead, .dead, .draw cs (greats ns) 0]) := by
  obtain ⟨cs, hl, hf⟩ := folded_ok ns [.dic []]
  refine ⟨cs, hl, ?_⟩
  have e1 : mDisp [Sum.inr "cells", Sum.inr "great", Sum.inr "spot"] (mCons (mCall g_law_folded (mCons (mV 0) mNil)) (mCons (mLst mNil) (mCons (mC (.int 0)) mNil))) [some (.scr ns), none, none] [] = some (.ok (.obj 0), [.dic [(Sum.inr "cells", .list (cs.map .int)), (Sum.inr "great", .list []), (Sum.inr "spot", .int 0)]]) := by
    simp [mBind, mPure, mSeq, mAsg, mBin, mUn, mV, mC, mRet, gI, mDef, endO, startE, fzR, mCons, mNil, mDisp, mCall, hf, mLst, fzs, fz1, dspO, fitsN, sizeLine_eq]
  have e2 : mLcO (mItemsL (mV 0)) [2] (mSet 2) mYes (mIf (mTB (mBin (mV 2) (mBin (mC (.int 10)) (mC (.int 18)) gPow) gGe)) (mV 2) (mC (.int 0))) [some (.scr ns), some (.obj 0), none] [.dic [(Sum.inr "cells", .list (cs.map .int)), (Sum.inr "great", .list []), (Sum.inr "spot", .int 0)]] =
      some (.ok (.obj 1), [.dic [(Sum.inr "cells", .list (cs.map .int)), (Sum.inr "great", .list []), (Sum.inr "spot", .int 0)], .lst ((greats ns).map .int)]) := by
    have e := lc_ok (set := mSet 2) (cond := mYes) (elt := mIf (mTB (mBin (mV 2) (mBin (mC (.int 10)) (mC (.int 18)) gPow) gGe)) (mV 2) (mC (.int 0))) (ρ := wipeE [some (.scr ns), some (.obj 0), none] [2]) (w := [.dic [(Sum.inr "cells", .list (cs.map .int)), (Sum.inr "great", .list []), (Sum.inr "spot", .int 0)]])
      (fun d => [some (.scr ns), some (.obj 0), some (.dat d)]) (fun _ => true) (fun d => match d with | .int c => .int (if 1000000000000000000 ≤ c then c else 0) | d => d) (ds := ns.map .int) (acc := []) (fun d hd w' => by
        obtain ⟨c, hc, rfl⟩ := List.mem_map.mp hd
        refine ⟨rfl, rfl, fun _ => ?_⟩
        by_cases z : 1000000000000000000 ≤ c
        · simp [mBind, mPure, mSeq, mAsg, mBin, mUn, mV, mC, mRet, gI, mDef, endO, startE, fzR, mCons, mNil, mIf, mTB, z]
        · simp [mBind, mPure, mSeq, mAsg, mBin, mUn, mV, mC, mRet, gI, mDef, endO, startE, fzR, mCons, mNil, mIf, mTB, z]) (by rw [List.length_map, List.length_nil, sizeLine_eq]; omega)
    have g : mItemsL (mV 0) [some (.scr ns), some (.obj 0), none] [.dic [(Sum.inr "cells", .list (cs.map .int)), (Sum.inr "great", .list []), (Sum.inr "spot", .int 0)]] = some (.ok (ns.map .int), [.dic [(Sum.inr "cells", .list (cs.map .int)), (Sum.inr "great", .list []), (Sum.inr "spot", .int 0)]]) := rfl
    unfold mLcO
    rw [mBind_of g]
    simp only [e]
    simp [mBind, mPure, mSeq, mAsg, mBin, mUn, mV, mC, mRet, gI, mDef, endO, startE, fzR, mCons, mNil, greats]
    rw [List.filter_eq_self.mpr (by simp [mBind, mPure, mSeq, mAsg, mBin, mUn, mV, mC, mRet, gI, mDef, endO, startE, fzR, mCons, mNil]), List.map_map]
    rfl
  have e3 : m_law_begun [some (.scr ns), none, none] [] = some (.ok (.rt (.obj 2)), [.dead, .dead, .draw cs (greats ns) 0]) := by
    unfold m_law_begun
    refine (mSeq_nx (mAsg_of e1)).trans ?_
    refine (mSeq_nx (ρ1 := [some (.scr ns), some (.obj 2), none]) (w1 := [.dead, .dead, .draw cs (greats ns) 0]) ?_).trans ?_
    · refine (mBind_of e2).trans ?_
      simp [mBind, mPure, mSeq, mAsg, mBin, mUn, mV, mC, mRet, gI, mDef, endO, startE, fzR, mCons, mNil, begO, ints_eq]
    · simp [mBind, mPure, mSeq, mAsg, mBin, mUn, mV, mC, mRet, gI, mDef, endO, startE, fzR, mCons, mNil]
  show endO 0 (m_law_begun [some (.scr ns), none, none] []) = _
  rw [e3]
  simp [mBind, mPure, mSeq, mAsg, mBin, mUn, mV, mC, mRet, gI, mDef, endO, startE, fzR, mCons, mNil]
theorem ints_can {gs : List Int} : PyData.canLayAll0 (gs.map .int) = true := by
  induction gs with
  | nil => rfl
  | cons g r ih => simp [mBind, mPure, mSeq, mAsg, mBin, mUn, mV, mC, mRet, gI, mDef, endO, startE, fzR, mCons, mNil, PyData.canLayAll0, PyData.canLay0, ih]
theorem ints_depth {gs : List Int} : PyData.depthAll (gs.map .int) = 0 := by
  induction gs with
  | nil => rfl
  | cons g r ih => simp [mBind, mPure, mSeq, mAsg, mBin, mUn, mV, mC, mRet, gI, mDef, endO, startE, fzR, mCons, mNil, PyData.depthAll, PyData.depth, ih]
theorem ints_shaped {gs : List Int} : SeqAt.shaped (.list (gs.map .int)) = true := by
  simp [mBind, mPure, mSeq, mAsg, mBin, mUn, mV, mC, mRet, gI, mDef, endO, startE, fzR, mCons, mNil, SeqAt.shaped, PyData.canLay0, PyData.depth, ints_can, ints_depth]
theorem ne_nil_ints {gs : List Int} : eqDD (.list (gs.map .int)) (.list []) = some (decide (gs = [])) := by
  have s0 : SeqAt.shaped (.list []) = true := ints_shaped (gs := [])
  unfold eqDD
  simp only [ints_shaped, s0, Bool.and_self, if_true]
  cases gs <;> simp [mBind, mPure, mSeq, mAsg, mBin, mUn, mV, mC, mRet, gI, mDef, endO, startE, fzR, mCons, mNil, PyData.eqv, PyData.eqvAll]
theorem draw_ok {w : Sto} {k : Nat} {cs gs : List Int} {n L : Int} (hk : w[k]? = some (.draw cs gs n)) (hl : cs.length = 64) (h0 : 0 ≤ n) (h1 : n ≤ 900000) (l0 : 0 < L) (l1 : L < 1073741824) :
    ∃ (r : Int) (gs' : List Int), 0 ≤ r ∧ r < L ∧ g_law_draw [.obj k, .dat (.int L)] w = some (.ok (.dat (.int r)), w.set k (.draw cs gs' (n + 1))) := by
  have hkl : k < w.length := (List.getElem?_eq_some_iff.mp hk).1
  have rest : ∀ (gs' : List Int) (w1 : Sto) (x y z : Option SV), w1 = w.set k (.draw cs gs' (n + 1)) → ∃ r : Int, 0 ≤ r ∧ r < L ∧ mSeq (mAsg 3 (mUn (mV 0) gCells)) (mRet (mBin (mUn (mCall g_law_mixed (mCons (mCall g_law_mixed (mCons (mBin (mBin (mV 3) (mBin (mUn (mV 2) gInt) (mC (.int 64)) gMod) gIx) (mBin (mC (.int 31)) (mBin (mV 2) (mC (.int 64)) gFdiv) gMul) gAdd) (mCons (mV 2) mNil))) (mCons (mBin (mV 2) (mC (.int 7)) gAdd) mNil))) gInt) (mV 1) gMod))
      [some (.obj k), some (.dat (.int L)), some (.dat (.int n)), x, y, z] w1 = some (.ok (.rt (.dat (.int r))), w1) := by
    intro gs' w1 x y z e
    have hk1 : w1[k]? = some (.draw cs gs' (n + 1)) := by rw [e]; exact List.getElem?_set_self hkl
    obtain ⟨v, hv⟩ := atD_int (cs := cs) (i := n % 64) (Int.emod_nonneg _ (by decide)) (by rw [hl]; exact Int.emod_lt_of_pos _ (by decide))
    have a1 : sm64 (31 : Int) = true := by decide
    refine ⟨mixZ (mixZ (v + 31 * (n / 64)) n) (n + 7) % L, Int.emod_nonneg _ (by omega), Int.emod_lt_of_pos _ l0, ?_⟩
    simp [mBind, mPure, mSeq, mAsg, mBin, mUn, mV, mC, mRet, gI, mDef, endO, startE, fzR, mCons, mNil, gCells, hk1, gIx, toD, itemsD, hv, gInt, mCall, a1, mixed_ok _ n _ h0 (by omega), mixed_ok _ (n + 7) _ (by omega) (by omega), l0]
  have b1 : (w.set k (.draw cs gs (n + 1)))[k]? = some (.draw cs gs (n + 1)) := List.getElem?_set_self hkl
  have key : ∃ (r : Int) (gs' : List Int), 0 ≤ r ∧ r < L ∧ m_law_draw [some (.obj k), some (.dat (.int L)), none, none, none, none] w = some (.ok (.rt (.dat (.int r))), w.set k (.draw cs gs' (n + 1))) := by
    have e1 : mUn (mV 0) gSpot [some (.obj k), some (.dat (.int L)), none, none, none, none] w = some (.ok (.dat (.int n)), w) := by simp [mBind, mPure, mSeq, mAsg, mBin, mUn, mV, mC, mRet, gI, mDef, endO, startE, fzR, mCons, mNil, gSpot, hk]
    have e2 : mSpotS (mV 0) (mBin (mV 2) (mC (.int 1)) gAdd) [some (.obj k), some (.dat (.int L)), some (.dat (.int n)), none, none, none] w = some (.ok (.nx [some (.obj k), some (.dat (.int L)), some (.dat (.int n)), none, none, none]), w.set k (.draw cs gs (n + 1))) := by simp [mBind, mPure, mSeq, mAsg, mBin, mUn, mV, mC, mRet, gI, mDef, endO, startE, fzR, mCons, mNil, mSpotS, hk]
    have e3 : mTB (mBin (mUn (mV 0) gGreat) (mLst mNil) gNe) [some (.obj k), some (.dat (.int L)), some (.dat (.int n)), none, none, none] (w.set k (.draw cs gs (n + 1))) = some (.ok (!decide (gs = [])), w.set k (.draw cs gs (n + 1))) := by
      simp [mBind, mPure, mSeq, mAsg, mBin, mUn, mV, mC, mRet, gI, mDef, endO, startE, fzR, mCons, mNil, mTB, gGreat, b1, mLst, fzs, fitsN, gNe, toD, ne_nil_ints]
    by_cases hgs : gs = []
    · obtain ⟨r, r0, r1, hr⟩ := rest gs _ none none none rfl
      refine ⟨r, gs, r0, r1, ?_⟩
      unfold m_law_draw
      refine (mSeq_nx (mAsg_of e1)).trans ?_
      refine (mSeq_nx e2).trans ?_
      refine (mSeq_nx (ρ1 := [some (.obj k), some (.dat (.int L)), some (.dat (.int n)), none, none, none]) (w1 := w.set k (.draw cs gs (n + 1))) ?_).trans hr
      refine (mBind_of e3).trans ?_
      rw [hgs]
      rfl
    · have hlen : 0 < gs.length := by cases gs with | nil => exact absurd rfl hgs | cons _ _ => simp [mBind, mPure, mSeq, mAsg, mBin, mUn, mV, mC, mRet, gI, mDef, endO, startE, fzR, mCons, mNil]
      have hi0 : 0 ≤ n % (gs.length : Int) := Int.emod_nonneg _ (by omega)
      have hi1 : n % (gs.length : Int) < gs.length := Int.emod_lt_of_pos _ (by omega)
      obtain ⟨c, hc⟩ := atD_int (cs := gs) hi0 hi1
      have hj : ixN gs.length (n % (gs.length : Int)) = some (n % (gs.length : Int)).toNat := ixN_pos hi0 hi1
      have hlen' : (0 : Int) < (gs.length : Int) := by omega
      by_cases hc0 : 0 < c
      · refine ⟨c % L, gs.set (n % (gs.length : Int)).toNat (c / L), Int.emod_nonneg _ (by omega), Int.emod_lt_of_pos _ l0, ?_⟩
        unfold m_law_draw
        refine (mSeq_nx (mAsg_of e1)).trans ?_
        refine (mSeq_nx e2).trans ?_
        have e4 : mIfS (mTB (mBin (mUn (mV 0) gGreat) (mLst mNil) gNe)) (mSeq (mAsg 3 (mUn (mV 0) gGreat)) (mSeq (mAsg 4 (mBin (mUn (mV 2) gInt) (mUn (mV 3) gLen) gMod)) (mSeq (mAsg 5 (mBin (mV 3) (mV 4) gIx)) (mIfS (mTB (mBin (mV 5) (mC (.int 0)) gGt)) (mSeq (mGreatS (mBin (mV 5) (mV 1) gFdiv) (mV 3) (mV 4)) (mRet (mBin (mUn (mV 5) gInt) (mV 1) gMod))) mSkip)))) mSkip [some (.obj k), some (.dat (.int L)), some (.dat (.int n)), none, none, none] (w.set k (.draw cs gs (n + 1))) =
            some (.ok (.rt (.dat (.int (c % L)))), w.set k (.draw cs (gs.set (n % (gs.length : Int)).toNat (c / L)) (n + 1))) := by
          refine (mBind_of e3).trans ?_
          rw [if_pos (by simp [mBind, mPure, mSeq, mAsg, mBin, mUn, mV, mC, mRet, gI, mDef, endO, startE, fzR, mCons, mNil, hgs])]
          simp [mBind, mPure, mSeq, mAsg, mBin, mUn, mV, mC, mRet, gI, mDef, endO, startE, fzR, mCons, mNil, gGreat, b1, hkl, gInt, gLen, lenD, toD, hlen, gIx, itemsD, hc, mIfS, mTB, hc0, mGreatS, l0, l1, hj]
        have e5 : ∀ b, mSeq (mIfS (mTB (mBin (mUn (mV 0) gGreat) (mLst mNil) gNe)) (mSeq (mAsg 3 (mUn (mV 0) gGreat)) (mSeq (mAsg 4 (mBin (mUn (mV 2) gInt) (mUn (mV 3) gLen) gMod)) (mSeq (mAsg 5 (mBin (mV 3) (mV 4) gIx)) (mIfS (mTB (mBin (mV 5) (mC (.int 0)) gGt)) (mSeq (mGreatS (mBin (mV 5) (mV 1) gFdiv) (mV 3) (mV 4)) (mRet (mBin (mUn (mV 5) gInt) (mV 1) gMod))) mSkip)))) mSkip) b [some (.obj k), some (.dat (.int L)), some (.dat (.int n)), none, none, none] (w.set k (.draw cs gs (n + 1))) =
            some (.ok (.rt (.dat (.int (c % L)))), w.set k (.draw cs (gs.set (n % (gs.length : Int)).toNat (c / L)) (n + 1))) := fun b => (mBind_of e4).trans rfl
        exact e5 _
      · obtain ⟨r, r0, r1, hr⟩ := rest gs _ (some (.drg k)) (some (.dat (.int (n % (gs.length : Int))))) (some (.dat (.int c))) rfl
        refine ⟨r, gs, r0, r1, ?_⟩
        unfold m_law_draw
        refine (mSeq_nx (mAsg_of e1)).trans ?_
        refine (mSeq_nx e2).trans ?_
        refine (mSeq_nx (ρ1 := [some (.obj k), some (.dat (.int L)), some (.dat (.int n)), some (.drg k), some (.dat (.int (n % (gs.length : Int)))), some (.dat (.int c))]) (w1 := w.set k (.draw cs gs (n + 1))) ?_).trans hr
        refine (mBind_of e3).trans ?_
        rw [if_pos (by simp [mBind, mPure, mSeq, mAsg, mBin, mUn, mV, mC, mRet, gI, mDef, endO, startE, fzR, mCons, mNil, hgs])]
        simp [mBind, mPure, mSeq, mAsg, mBin, mUn, mV, mC, mRet, gI, mDef, endO, startE, fzR, mCons, mNil, gGreat, b1, hkl, gInt, gLen, lenD, toD, hlen, gIx, itemsD, hc, mIfS, mTB, hc0, mSkip]
  obtain ⟨r, gs', r0, r1, e⟩ := key
  refine ⟨r, gs', r0, r1, ?_⟩
  show endO w.length (m_law_draw [some (.obj k), some (.dat (.int L)), none, none, none, none] w) = _
  rw [e]
  simp only [endO]
  rw [List.take_of_length_le (by simp [mBind, mPure, mSeq, mAsg, mBin, mUn, mV, mC, mRet, gI, mDef, endO, startE, fzR, mCons, mNil])]
end K03
end EG


set_option Elab.async false
set_option linter.all false
set_option maxRecDepth 100000
set_option maxHeartbeats 1000000
namespace EG
open PySem PySem.Spec PyProof.Rows L2
namespace K03
/-! ### wishes as trees -/
inductive Wi where
  | lf (x : Str)
  | mk (i : Int)
  | un (x : Str) (f : Wi)
  | bi (x : Str) (f g : Wi)
namespace Wi
def d : Wi → PyData
  | lf x => .tuple [.str x]
  | mk i => .tuple [.str "mark", .int i]
  | un x f => .tuple [.str x, f.d]
  | bi x f g => .tuple [.str x, f.d, g.d]
def word : Wi → Str
  | lf x => x
  | mk _ => "mark"
  | un x _ => x
  | bi x _ _ => x
def leafs : List Str := ["true", "false"]
def ones : List Str := ["no", "next", "ever", "always"]
def twos : List Str := ["and", "or", "till"]
def ok : Wi → Prop
  | lf x => x ∈ leafs
  | mk i => 0 ≤ i ∧ i ≤ 3
  | un x f => x ∈ ones ∧ f.ok
  | bi x f g => x ∈ twos ∧ f.ok ∧ g.ok
def isT : Str → Bool := fun x => x == "next" || x == "till" || x == "ever" || x == "always"
def size : Wi → Nat
  | lf _ => 1
  | mk _ => 1
  | un _ f => f.size + 1
  | bi _ f g => f.size + g.size + 1
def tm : Wi → Nat
  | lf _ => 0
  | mk _ => 0
  | un x f => f.tm + (if isT x then 1 else 0)
  | bi x f g => f.tm + g.tm + (if isT x then 1 else 0)
/-- its own parts, with their places -/
def kids (p : List Int) : Wi → List (List Int × Wi)
  | lf _ => []
  | mk _ => []
  | un _ f => [(p ++ [1], f)]
  | bi _ f g => [(p ++ [1], f), (p ++ [2], g)]
def pieces (p : List Int) : Wi → List (List Int × Wi)
  | lf x => [(p, lf x)]
  | mk i => [(p, mk i)]
  | un x f => (p, un x f) :: pieces (p ++ [1]) f
  | bi x f g => (p, bi x f g) :: (pieces (p ++ [1]) f ++ pieces (p ++ [2]) g)
end Wi
def pathD (p : List Int) : PyData := .tuple (p.map .int)
def pcD (q : List Int × Wi) : PyData := .tuple [pathD q.1, q.2.d]
theorem leaf_cases {x : Str} (h : x ∈ Wi.leafs) : x = "true" ∨ x = "false" := by simpa [Wi.leafs] using h
theorem one_cases {x : Str} (h : x ∈ Wi.ones) : x = "no" ∨ x = "next" ∨ x = "ever" ∨ x = "always" := by simpa [Wi.ones] using h
theorem two_cases {x : Str} (h : x ∈ Wi.twos) : x = "and" ∨ x = "or" ∨ x = "till" := by simpa [Wi.twos] using h
/-! ### data that can be compared -/
theorem strOk_word {x : Str} (h : x ∈ Wi.leafs ∨ x ∈ Wi.ones ∨ x ∈ Wi.twos ∨ x = "mark") : (PyData.str x).canLay0 = true := by
  rcases h with h | h | h | h
  · rcases leaf_cases h with rfl | rfl <;> decide +kernel
  · rcases one_cases h with rfl | rfl | rfl | rfl <;> decide +kernel
  · rcases two_cases h with rfl | rfl | rfl <;> decide +kernel
  · subst h; decide +kernel
theorem can_d : ∀ {t : Wi}, t.ok → t.d.canLay0 = true
  | .lf x, h => by simp [Wi.d, PyData.canLay0, PyData.canLayAll0] at *; exact strOk_word (.inl h)
  | .mk i, h => by simp [Wi.d, PyData.canLay0, PyData.canLayAll0] at *; exact strOk_word (.inr (.inr (.inr rfl)))
  | .un x f, h => by
    have h1 := strOk_word (.inr (.inl h.1))
    have h2 := can_d h.2
    simp [Wi.d, PyData.canLay0, PyData.canLayAll0] at *
    exact ⟨h1, h2⟩
  | .bi x f g, h => by
    have h1 := strOk_word (.inr (.inr (.inl h.1)))
    have h2 := can_d h.2.1
    have h3 := can_d h.2.2
    simp [Wi.d, PyData.canLay0, PyData.canLayAll0] at *
    exact ⟨h1, h2, h3⟩
theorem depth_d : ∀ {t : Wi}, t.d.depth ≤ t.size
  | .lf x => by simp [Wi.d, PyData.depth, PyData.depthAll, Wi.size]
  | .mk i => by simp [Wi.d, PyData.depth, PyData.depthAll, Wi.size]
  | .un x f => by have := depth_d (t := f); simp [Wi.d, PyData.depth, PyData.depthAll, Wi.size]; omega
  | .bi x f g => by have := depth_d (t := f); have := depth_d (t := g); simp [Wi.d, PyData.depth, PyData.depthAll, Wi.size]; omega
theorem shaped_d {t : Wi} (h : t.ok) (hz : t.size ≤ 64) : SeqAt.shaped t.d = true := by
  unfold SeqAt.shaped
  rw [can_d h, Bool.true_and, decide_eq_true_eq]
  exact Nat.le_trans depth_d hz
theorem shaped_path (p : List Int) : SeqAt.shaped (pathD p) = true := by
  have h : PyData.canLayAll0 (p.map PyData.int) = true := by
    induction p with
    | nil => rfl
    | cons a r ih => simp [PyData.canLayAll0, PyData.canLay0, ih]
  have h2 : PyData.depthAll (p.map PyData.int) = 0 := by
    induction p with
    | nil => rfl
    | cons a r ih => simp [PyData.depthAll, PyData.depth] at *; exact ih (by simp [PyData.canLayAll0] at h; exact h.2)
  simp [SeqAt.shaped, pathD, PyData.canLay0, PyData.depth, h, h2]
theorem eqv_path : ∀ {p q : List Int}, PyData.eqvAll (p.map .int) (q.map .int) = decide (p = q)
  | [], [] => rfl
  | [], _ :: _ => rfl
  | _ :: _, [] => rfl
  | a :: p, b :: q => by
    simp only [List.map_cons, PyData.eqvAll, PyData.eqv, eqv_path (p := p) (q := q)]
    by_cases h : a = b <;> by_cases h2 : p = q <;> simp [h, h2]
theorem eqDD_path {p q : List Int} : eqDD (pathD p) (pathD q) = some (decide (p = q)) := by
  have : eqDD (pathD p) (pathD q) = if SeqAt.shaped (pathD p) && SeqAt.shaped (pathD q) then some (PyData.eqv (pathD p) (pathD q)) else none := rfl
  rw [this, shaped_path, shaped_path]
  show some (PyData.eqvAll (p.map .int) (q.map .int)) = _
  rw [eqv_path]
theorem eqDD_nilT {d : List PyData} (h : SeqAt.shaped (.tuple d) = true) : eqDD (.tuple d) (.tuple []) = some (decide (d = [])) := by
  have : eqDD (.tuple d) (.tuple []) = if SeqAt.shaped (.tuple d) && SeqAt.shaped (.tuple []) then some (PyData.eqv (.tuple d) (.tuple [])) else none := rfl
  rw [this, h, show SeqAt.shaped (.tuple []) = true from by decide +kernel]
  cases d <;> simp [PyData.eqv, PyData.eqvAll]
/-! ### forms -/
theorem whole_ok (i : Int) (w : Sto) : gis_whole [.dat (.int i)] w = some (.ok (.dat (.bool true)), w) := by
  simp [mBind, mPure, mSeq, mAsg, mBin, mUn, mV, mC, mRet, gI, mDef, endO, startE, fzR, mCons, mNil, mCall, mTB, mOr, mAnd, mNot, mIfS, mIf, mTup, mLst, mLstO, fzs, fz1, gIsi, toD, tyD, isT, gIx, itemsD, atD, ixN, gLen, lenD, gEq, gNe, eqDD, mSkip, mOrV, mAndV, mNotV, gIn, flatD, eqF, fitsN, mChain, gInW, gIxW, mSet, mSets, mSetT, mAsgG, mPop, mExt, extO, toL, mAugI, mAsg2, mDrop, mApp, appO, isLst, gRevL, mCut, gCut, mPart, mNoP, gCat, mTr, mItemsT, mItemsL, mEnumK, mRaise, gTuple, gInt, gis_whole, mis_whole]
theorem number_ok (i a b : Int) (w : Sto) : gis_number [.dat (.int i), .dat (.int a), .dat (.int b)] w = some (.ok (.dat (.bool (decide (a ≤ i) && decide (i ≤ b)))), w) := by
  by_cases h : a ≤ i <;> simp [mBind, mPure, mSeq, mAsg, mBin, mUn, mV, mC, mRet, gI, mDef, endO, startE, fzR, mCons, mNil, mCall, mTB, mOr, mAnd, mNot, mIfS, mIf, mTup, mLst, mLstO, fzs, fz1, gIsi, toD, tyD, isT, gIx, itemsD, atD, ixN, gLen, lenD, gEq, gNe, eqDD, mSkip, mOrV, mAndV, mNotV, gIn, flatD, eqF, fitsN, mChain, gInW, gIxW, mSet, mSets, mSetT, mAsgG, mPop, mExt, extO, toL, mAugI, mAsg2, mDrop, mApp, appO, isLst, gRevL, mCut, gCut, mPart, mNoP, gCat, mTr, mItemsT, mItemsL, mEnumK, mRaise, gTuple, gInt, gis_number, mis_number, whole_ok, h]
theorem atD0 {α : Type} (x : α) (r : List α) : atD (x :: r) 0 = some x := by
  unfold atD ixN
  rw [if_pos (by decide), if_pos (by simp)]
  rfl
theorem atD1 {α : Type} (x y : α) (r : List α) : atD (x :: y :: r) 1 = some y := by
  unfold atD ixN
  rw [if_pos (by decide), if_pos (by simp; omega)]
  rfl
theorem atD2 {α : Type} (x y z : α) (r : List α) : atD (x :: y :: z :: r) 2 = some z := by
  unfold atD ixN
  rw [if_pos (by decide), if_pos (by simp; omega)]
  rfl
theorem form_gen {x : Str} {ds : List PyData} {n : Int} (hs : SeqAt.shaped (.tuple (.str x :: ds)) = true) (hl : lookS x wants = some n) (hn : (ds.length : Int) = n) (hm : x = "mark" → ∃ i, ds = [.int i] ∧ 0 ≤ i ∧ i ≤ 3) (w : Sto) :
    g_has_form [.dat (.tuple (.str x :: ds))] w = some (.ok (.dat (.bool true)), w) := by
  have e := eqDD_nilT hs
  have e2 : decide (PyData.str x :: ds = []) = false := by simp
  rw [e2] at e
  have key : m_has_form [some (.dat (.tuple (.str x :: ds))), none] w = some (.ok (.rt (.dat (.bool true))), w) := by
    unfold m_has_form
    refine (mSeq_nx (ρ1 := [some (.dat (.tuple (.str x :: ds))), none]) (w1 := w) ?_).trans ?_
    · simp [mIfS, mOr, mNot, mTB, mBind, mUn, mV, gIsi, toD, tyD, isT, mPure, mBin, mTup, mNil, fzs, fitsN, gEq, e, mSkip]
    refine (mSeq_nx (ρ1 := [some (.dat (.tuple (.str x :: ds))), some (.dat (.str x))]) (w1 := w) ?_).trans ?_
    · simp [mAsg, mBind, mBin, mV, mC, mPure, gIx, toD, itemsD, atD0]
    refine (mSeq_nx (ρ1 := [some (.dat (.tuple (.str x :: ds))), some (.dat (.str x))]) (w1 := w) ?_).trans ?_
    · simp [mIfS, mOr, mNot, mTB, mBind, mUn, mV, gIsi, toD, tyD, isT, mPure, gInW, hl, mSkip]
    refine (mSeq_nx (ρ1 := [some (.dat (.tuple (.str x :: ds))), some (.dat (.str x))]) (w1 := w) ?_).trans ?_
    · have h0 : SeqAt.shaped (.int (1 + n)) = true := by simp [SeqAt.shaped, PyData.canLay0, PyData.depth]
      have h1 : ((ds.length : Int) + 1 = 1 + n) := by omega
      simp [mIfS, mTB, mBind, mUn, mBin, mV, mC, gLen, toD, lenD, mPure, gIxW, hl, gI, gNe, eqDD, mSkip, h1, h0, PyData.eqv]
    · by_cases hx : x = "mark"
      · obtain ⟨i, rfl, h1, h2⟩ := hm hx
        simp [mRet, mOrV, mTB, mBind, mBin, mV, mC, mPure, gNe, toD, eqDD, hx, mCall, mCons, mNil, gIx, itemsD, atD1, number_ok, h1, h2, fzR]
      · simp [mRet, mOrV, mTB, mBind, mBin, mV, mC, mPure, gNe, toD, eqDD, hx, fzR]
  show endO w.length (m_has_form [some (.dat (.tuple (.str x :: ds))), none] w) = _
  rw [key]
  simp [endO]
theorem form_ok {t : Wi} (h : t.ok) (hz : t.size ≤ 64) (w : Sto) : g_has_form [.dat t.d] w = some (.ok (.dat (.bool true)), w) := by
  have sh := shaped_d h hz
  cases t with
  | lf x => exact form_gen sh (n := 0) (by rcases leaf_cases h with rfl | rfl <;> rfl) rfl (fun e => by rcases leaf_cases h with rfl | rfl <;> exact absurd e (by decide)) w
  | mk i => exact form_gen sh (n := 1) rfl rfl (fun _ => ⟨i, rfl, h⟩) w
  | un x f => exact form_gen sh (n := 1) (by rcases one_cases h.1 with rfl | rfl | rfl | rfl <;> rfl) rfl (fun e => by rcases one_cases h.1 with rfl | rfl | rfl | rfl <;> exact absurd e (by decide)) w
  | bi x f g => exact form_gen sh (n := 2) (by rcases two_cases h.1 with rfl | rfl | rfl <;> rfl) rfl (fun e => by rcases two_cases h.1 with rfl | rfl | rfl <;> exact absurd e (by decide)) w
end K03
end EG


set_option Elab.async false
set_option linter.all false
set_option maxRecDepth 100000
set_option maxHeartbeats 1000000
namespace EG
open PySem PySem.Spec PyProof.Rows L2
namespace K03
theorem sz : (1000 : Nat) ≤ sizeLine := by rw [sizeLine_eq]; decide
/-- a body's outcome where nothing new lies in the store -/
theorem def_dat {N : List Str} {m : Env → Mo Out} {xs : List SV} {w w' : Sto} {d : PyData} (h : m (startE N xs) w = some (.ok (.rt (.dat d)), w ++ w')) : mDef N m xs w = some (.ok (.dat d), w) := by
  show endO w.length (m (startE N xs) w) = _
  rw [h]
  simp [endO]
theorem def_none {N : List Str} {m : Env → Mo Out} {xs : List SV} {w w' : Sto} {ρ : Env} (h : m (startE N xs) w = some (.ok (.nx ρ), w ++ w')) : mDef N m xs w = some (.ok (.dat .none), w) := by
  show endO w.length (m (startE N xs) w) = _
  rw [h]
  simp [endO]
theorem def_err {N : List Str} {m : Env → Mo Out} {xs : List SV} {w w' : Sto} {c : Nat} {fs : List PyData} (h : m (startE N xs) w = some (.err c fs, w ++ w')) : mDef N m xs w = some (.err c fs, w) := by
  show endO w.length (m (startE N xs) w) = _
  rw [h]
  simp [endO]
theorem fits_of {n : Nat} (h : n ≤ 1000) : fitsN n = true := by
  have := sz
  simp [fitsN]; omega
theorem mLc_of {it : Env → Mo (List PyData)} {vs : List Nat} {set : PyData → Env → Mo Env} {cond : Env → Mo Bool} {elt : Env → Mo SV} {ρ : Env} {w w1 : Sto} {ds acc : List PyData} (h1 : it ρ w = some (.ok ds, w1)) (h2 : lcL w1.length set cond elt ds (wipeE ρ vs) (w1 ++ [.lst []]) = some (.ok (), w1 ++ [.lst acc])) :
    mLc it vs set cond elt ρ w = some (.ok (.dat (.list acc)), w1) := by
  show mBind (it ρ) _ w = _
  rw [mBind_of h1]
  simp only [h2]
  simp
theorem cons_app {p : List Int} {k : Int} : (p.map PyData.int) ++ [.int k] = (p ++ [k]).map .int := by simp
/-- one step of a path -/
theorem step_dat {p : List Int} {k : Int} {ρ : Env} {w : Sto} {i j : Nat} (h1 : ρ[i]? = some (some (.dat (pathD p)))) (h2 : ρ[j]? = some (some (.dat (.int k)))) (hz : p.length < 900) : mBin (mV i) (mTup (mCons (mV j) mNil)) gCat ρ w = some (.ok (.dat (pathD (p ++ [k]))), w) := by
  have f : fitsN ((p.map PyData.int).length + [PyData.int k].length) = true := fits_of (by simp; omega)
  have f1 : fitsN [PyData.int k].length = true := fits_of (by simp)
  simp only [mBin, mTup, mCons, mNil, mV, h1, h2, mBind, mPure, fzs, fz1, f1, if_true]
  simp only [gCat, pathD, f, if_true, Option.map_some, List.map_append, List.map_cons, List.map_nil]
theorem cut1 {x : PyData} {r : List PyData} : cutD (x :: r) (some 1) none = r := by
  simp [cutD, HT.sIx]
theorem wipe_within (a b : SV) : wipeE [some a, some b, none, none] [2, 3] = [some a, some b, none, none] := rfl
theorem within_ok {p : List Int} {t : Wi} (h : t.ok) (hz : t.size ≤ 64) (hp : p.length < 900) (w : Sto) : g_within [.dat (pathD p), .dat t.d] w = some (.ok (.dat (.list ((t.kids p).map pcD))), w) := by
  -- what stands in "mark" is no part
  have gen : ∀ (x : Str) (ks : List Wi), x ≠ "mark" → ks.length ≤ 2 → (∀ y ∈ ks, True) → ∀ ps : List (List Int × Wi), (enumK 1 (ks.map Wi.d)).map (fun d => match d with | .tuple [.int k, u] => .tuple [pathD (p ++ [k]), u] | d => d) = ps.map pcD →
      m_within [some (.dat (pathD p)), some (.dat (.tuple (.str x :: ks.map Wi.d))), none, none] w = some (.ok (.rt (.dat (.list (ps.map pcD)))), w) := by
    intro x ks hx hl _ ps hps
    unfold m_within
    refine (mSeq_nx (ρ1 := [some (.dat (pathD p)), some (.dat (.tuple (.str x :: ks.map Wi.d))), none, none]) (w1 := w) ?_).trans ?_
    · simp [mIfS, mTB, mBind, mBin, mV, mC, mPure, gIx, toD, itemsD, atD0, gEq, eqDD, hx, mSkip]
    · have e2 : mEnumK 1 (mCut (mV 1) (mPart (mC (.int 1))) mNoP) [some (.dat (pathD p)), some (.dat (.tuple (.str x :: ks.map Wi.d))), none, none] w = some (.ok (enumK 1 (ks.map Wi.d)), w) := by
        simp [mEnumK, mBind, mCut, mV, mPart, mC, mPure, mNoP, gCut, cut1]
      have e : lcL w.length (mSetT [mSet 2, mSet 3]) mYes (mTup (mCons (mBin (mV 0) (mTup (mCons (mV 2) mNil)) gCat) (mCons (mV 3) mNil))) (enumK 1 (ks.map Wi.d)) (wipeE [some (.dat (pathD p)), some (.dat (.tuple (.str x :: ks.map Wi.d))), none, none] [2, 3]) (w ++ [.lst []]) =
          some (.ok (), w ++ [.lst ([] ++ ((enumK 1 (ks.map Wi.d)).filter fun _ => true).map fun d => match d with | .tuple [.int k, u] => .tuple [pathD (p ++ [k]), u] | d => d)]) := by
        refine lc_ok (fun d => match d with | .tuple [.int k, u] => [some (.dat (pathD p)), some (.dat (.tuple (.str x :: ks.map Wi.d))), some (.dat (.int k)), some (.dat u)] | _ => []) (fun _ => true) _ (fun d hd w' => ?_) ?_
        · obtain ⟨i, hi⟩ := List.getElem?_of_mem hd
          obtain ⟨u, hu, rfl⟩ := enumK_get hi
          refine ⟨rfl, rfl, fun _ => ?_⟩
          have s1 := step_dat (p := p) (k := 1 + (i : Nat)) (ρ := [some (.dat (pathD p)), some (.dat (.tuple (.str x :: ks.map Wi.d))), some (.dat (.int (1 + (i : Nat)))), some (.dat u)]) (w := w') (i := 0) (j := 2) rfl rfl hp
          have f1 : fitsN 2 = true := by simp [fitsN]; exact Nat.le_trans (by decide) sz
          simp only [mTup, mCons, mBind, s1]
          simp [mV, mPure, mNil, mBind, fzs, fz1, f1]
        · rw [enumK_len]; simp; exact Nat.le_trans (by omega) sz
      unfold mRet
      rw [mBind_of (mLc_of e2 e)]
      rw [List.filter_eq_self.mpr (fun _ _ => rfl), List.nil_append, hps]
      simp [fzR]
  refine def_dat (w' := []) ?_
  rw [List.append_nil]
  cases t with
  | lf x => exact gen x [] (fun e => by rcases leaf_cases h with rfl | rfl <;> exact absurd e (by decide)) (by simp) (fun _ _ => trivial) [] rfl
  | mk i =>
    show m_within [some (.dat (pathD p)), some (.dat (.tuple [.str "mark", .int i])), none, none] w = _
    unfold m_within
    have : mIfS (mTB (mBin (mBin (mV 1) (mC (.int 0)) gIx) (mC (.str "mark")) gEq)) (mRet (mLst mNil)) mSkip [some (.dat (pathD p)), some (.dat (.tuple [.str "mark", .int i])), none, none] w = some (.ok (.rt (.dat (.list []))), w) := by
      have f0 : fitsN 0 = true := by simp [fitsN]
      simp [mIfS, mTB, mBind, mBin, mV, mC, mPure, gIx, toD, itemsD, atD0, gEq, eqDD, mRet, mLst, mNil, fzs, fitsN, fzR]
    unfold mSeq
    rw [mBind_of this]
    rfl
  | un x f => exact gen x [f] (fun e => by rcases one_cases h.1 with rfl | rfl | rfl | rfl <;> exact absurd e (by decide)) (by simp) (fun _ _ => trivial) [(p ++ [1], f)] rfl
  | bi x f g => exact gen x [f, g] (fun e => by rcases two_cases h.1 with rfl | rfl | rfl <;> exact absurd e (by decide)) (by simp) (fun _ _ => trivial) [(p ++ [1], f), (p ++ [2], g)] rfl
end K03
end EG


set_option Elab.async false
set_option linter.all false
set_option maxRecDepth 100000
set_option maxHeartbeats 1000000
namespace EG
open PySem PySem.Spec PyProof.Rows L2
namespace K03
abbrev PW := List Int × Wi
def sizes (s : List PW) : Nat := (s.map fun q => q.2.size).sum
def tms (s : List PW) : Nat := (s.map fun q => q.2.tm).sum
def flat (s : List PW) : List PW := s.flatMap fun q => Wi.pieces q.1 q.2
def okS (s : List PW) : Prop := ∀ q ∈ s, q.2.ok ∧ q.2.size ≤ 64 ∧ q.1.length + q.2.size ≤ 900
theorem pieces_kids (p : List Int) (t : Wi) : Wi.pieces p t = (p, t) :: flat (t.kids p) := by
  cases t <;> simp [Wi.pieces, Wi.kids, flat]
theorem sizes_kids (p : List Int) (t : Wi) : t.size = sizes (t.kids p) + 1 := by
  cases t <;> simp [Wi.size, Wi.kids, sizes]
theorem tms_kids (p : List Int) {t : Wi} (h : t.ok) : t.tm = tms (t.kids p) + (if Wi.isT t.word then 1 else 0) := by
  cases t with
  | lf x => rcases leaf_cases h with rfl | rfl <;> rfl
  | mk i => rfl
  | un x f => by_cases q : Wi.isT x = true <;> simp [Wi.tm, Wi.kids, tms, Wi.word, q]
  | bi x f g => by_cases q : Wi.isT x = true <;> simp [Wi.tm, Wi.kids, tms, Wi.word, q]
theorem ok_kids {p : List Int} {t : Wi} (h : t.ok) (h2 : t.size ≤ 64) (h3 : p.length + t.size ≤ 900) : okS (t.kids p) := by
  intro q hq
  cases t with
  | lf _ => simp [Wi.kids] at hq
  | mk _ => simp [Wi.kids] at hq
  | un x f =>
    simp [Wi.kids] at hq
    subst hq
    simp [Wi.size] at h2 h3 ⊢
    exact ⟨h.2, by omega, by omega⟩
  | bi x f g =>
    simp [Wi.kids] at hq
    simp [Wi.size] at h2 h3
    rcases hq with rfl | rfl
    · exact ⟨h.2.1, by simp; omega, by simp; omega⟩
    · exact ⟨h.2.2, by simp; omega, by simp; omega⟩
theorem size_pos (t : Wi) : 1 ≤ t.size := by cases t <;> simp [Wi.size]
/-! the stack, its top first -/
def stk (s : List PW) : List PyData := (s.map pcD).reverse
theorem stk_cons (q : PW) (s : List PW) : stk (q :: s) = stk s ++ [pcD q] := by simp [stk]
theorem pop_ok {i n : Nat} {ρ : Env} {w : Sto} {q : PW} {s : List PW} (h1 : ρ[i]? = some (some (.obj n))) (h2 : w[n]? = some (.lst (stk (q :: s)))) : mPop (mV i) ρ w = some (.ok (.dat (pcD q)), w.set n (.lst (stk s))) := by
  simp only [mPop, mV, mBind, h1, h2, stk_cons]
  simp
/-- path, part = waiting.pop() -/
theorem popG_ok {i n j k : Nat} {ρ : Env} {w : Sto} {q : PW} {s : List PW} (h1 : ρ[i]? = some (some (.obj n))) (h2 : w[n]? = some (.lst (stk (q :: s)))) :
    mAsgG (mPop (mV i)) (mSetT [mSet j, mSet k]) ρ w = some (.ok (.nx ((ρ.set j (some (.dat (pathD q.1)))).set k (some (.dat q.2.d)))), w.set n (.lst (stk s))) := by
  unfold mAsgG
  rw [mBind_of (pop_ok h1 h2)]
  rfl
/-- waiting += _within(path, part)[::-1] -/
theorem push_ok {i n j k : Nat} {ρ : Env} {w : Sto} {p : List Int} {t : Wi} {s : List PW} (h1 : ρ[i]? = some (some (.obj n))) (h2 : w[n]? = some (.lst (stk s))) (h3 : ρ[j]? = some (some (.dat (pathD p)))) (h4 : ρ[k]? = some (some (.dat t.d))) (ht : t.ok) (hz : t.size ≤ 64) (hp : p.length + t.size ≤ 900) (hs : s.length ≤ 900) :
    mExt i (mUn (mCall g_within (mCons (mV j) (mCons (mV k) mNil))) gRevL) ρ w = some (.ok (.nx ρ), w.set n (.lst (stk (t.kids p ++ s)))) := by
  have hk : ((t.kids p).map pcD).length ≤ 2 := by cases t <;> simp [Wi.kids]
  have e : (stk s ++ ((t.kids p).map pcD).reverse) = stk (t.kids p ++ s) := by simp [stk]
  have f : (stk s).length + ((t.kids p).map pcD).reverse.length ≤ sizeLine := by
    have := sz
    simp [stk] at hk ⊢; omega
  have hp' : p.length < 900 := by have := size_pos t; omega
  unfold mExt
  simp only [h1]
  simp only [mUn, mCall, mCons, mNil, mV, h3, h4, mBind, mPure, within_ok ht hz hp', gRevL, toD, Option.map_some, extO, toL, h2, if_pos f, e]
theorem truS {i n : Nat} {ρ : Env} {w : Sto} {s : List PW} (h1 : ρ[i]? = some (some (.obj n))) (h2 : w[n]? = some (.lst (stk s))) : mTr (mV i) ρ w = some (.ok (!decide (s = [])), w) := by
  have : (stk s).isEmpty = decide (s = []) := by cases s <;> simp [stk]
  simp [mTr, mBind, mV, h1, toD, h2, shortD, truD, this]
theorem walked_loop {a : SV} {w : Sto} : ∀ (m : Nat) (s : List PW) (F : List PyData) (x y : Option SV), sizes s < m → okS s → F.length + sizes s ≤ 900 → s.length ≤ sizes s →
    ∃ x' y', whileL (mTr (mV 2)) bwalked0 m [some a, some (.obj w.length), some (.obj (w.length + 1)), x, y] (w ++ [.lst F, .lst (stk s)]) = some (.ok (.nx [some a, some (.obj w.length), some (.obj (w.length + 1)), x', y']), w ++ [.lst (F ++ (flat s).map pcD), .lst []])
  | 0, s, F, x, y, h, _, _, _ => absurd h (by omega)
  | m + 1, s, F, x, y, h, hok, hF, hl => by
    have t1 := truS (i := 2) (n := w.length + 1) (ρ := [some a, some (.obj w.length), some (.obj (w.length + 1)), x, y]) (w := w ++ [.lst F, .lst (stk s)]) (s := s) rfl (by simp)
    unfold whileL
    rw [mBind_of t1]
    cases s with
    | nil => exact ⟨x, y, by simp [mPure, flat, stk]⟩
    | cons q r =>
      obtain ⟨p, t⟩ := q
      obtain ⟨k1, k2, k3⟩ := hok (p, t) List.mem_cons_self
      have hsz : sizes ((p, t) :: r) = t.size + sizes r := by simp [sizes]
      have hks := sizes_kids p t
      have hkl : (t.kids p).length ≤ sizes (t.kids p) := by cases t <;> simp [Wi.kids, sizes] <;> (try exact size_pos _) ; rename_i f g; have := size_pos f; have := size_pos g; omega
      have hl' : r.length + 1 ≤ t.size + sizes r := by rw [← hsz]; simpa using hl
      have hrl : r.length ≤ sizes r := by
        have : ∀ l : List PW, l.length ≤ sizes l := fun l => by
          induction l with
          | nil => simp [sizes]
          | cons a l ih => have := size_pos a.2; simp [sizes] at ih ⊢; omega
        exact this r
      have ap : ∀ u v : List PW, sizes (u ++ v) = sizes u + sizes v := fun u v => by simp [sizes]
      simp only [show (!decide ((p, t) :: r = [])) = true from by simp, if_true]
      have b : bwalked0 [some a, some (.obj w.length), some (.obj (w.length + 1)), x, y] (w ++ [.lst F, .lst (stk ((p, t) :: r))]) =
          some (.ok (.nx [some a, some (.obj w.length), some (.obj (w.length + 1)), some (.dat (pathD p)), some (.dat t.d)]), w ++ [.lst (F ++ [pcD (p, t)]), .lst (stk (t.kids p ++ r))]) := by
        unfold bwalked0
        refine (mSeq_nx (popG_ok (i := 2) (n := w.length + 1) (q := (p, t)) (s := r) rfl (by simp))).trans ?_
        have e1 : (w ++ [SO.lst F, .lst (stk ((p, t) :: r))]).set (w.length + 1) (.lst (stk r)) = w ++ [.lst F, .lst (stk r)] := by simp
        rw [e1]
        refine (mSeq_nx (ρ1 := [some a, some (.obj w.length), some (.obj (w.length + 1)), some (.dat (pathD p)), some (.dat t.d)]) (w1 := w ++ [.lst (F ++ [pcD (p, t)]), .lst (stk r)]) ?_).trans ?_
        · have f2 : fitsN 2 = true := fits_of (by decide)
          have f3 : F.length < sizeLine := by have := sz; omega
          simp [mDrop, mApp, mBind, mV, isLst, mTup, mCons, mNil, mPure, fzs, fz1, f2, appO, f3, pcD]
        · refine (push_ok (i := 2) (n := w.length + 1) (j := 3) (k := 4) (p := p) (t := t) (s := r) rfl (by simp) rfl rfl k1 k2 k3 (by omega)).trans ?_
          simp
      rw [mBind_of b]
      simp only
      have hok' : okS (t.kids p ++ r) := fun q hq => by
        rcases List.mem_append.mp hq with z | z
        · exact ok_kids k1 k2 k3 q z
        · exact hok q (List.mem_cons_of_mem _ z)
      obtain ⟨x', y', ih⟩ := walked_loop (a := a) (w := w) m (t.kids p ++ r) (F ++ [pcD (p, t)]) (some (.dat (pathD p))) (some (.dat t.d)) (by rw [ap]; omega) hok' (by rw [ap, List.length_append, List.length_singleton]; omega) (by rw [ap, List.length_append]; omega)
      refine ⟨x', y', ih.trans ?_⟩
      have : flat ((p, t) :: r) = (p, t) :: flat (t.kids p ++ r) := by
        show Wi.pieces p t ++ flat r = _
        rw [pieces_kids]
        simp [flat]
      rw [this]
      simp
theorem walked_ok {t : Wi} (h : t.ok) (hz : t.size ≤ 60) (w : Sto) : gwalked [.dat t.d] w = some (.ok (.dat (.list ((Wi.pieces [] t).map pcD))), w) := by
  obtain ⟨x', y', e⟩ := walked_loop (a := .dat t.d) (w := w) 100 [([], t)] [] none none (by simp [sizes]; omega) (fun q hq => by simp at hq; subst hq; exact ⟨h, by simp; omega, by simp; omega⟩) (by simp [sizes]; omega) (by simp [sizes]; exact size_pos t)
  refine def_dat (w' := [.dead, .lst []]) ?_
  show mwalked [some (.dat t.d), none, none, none, none] w = _
  unfold mwalked
  refine (mSeq_nx (ρ1 := [some (.dat t.d), some (.obj w.length), none, none, none]) (w1 := w ++ [.lst []]) ?_).trans ?_
  · simp [mAsg, mBind, mLstO, mNil, mPure, fzs, fitsN]
  refine (mSeq_nx (ρ1 := [some (.dat t.d), some (.obj w.length), some (.obj (w.length + 1)), none, none]) (w1 := w ++ [.lst [], .lst (stk [([], t)])]) ?_).trans ?_
  · have f0 : fitsN 0 = true := fits_of (by decide)
    have f1 : fitsN 1 = true := fits_of (by decide)
    have f2 : fitsN 2 = true := fits_of (by decide)
    simp [mAsg, mBind, mLstO, mCons, mNil, mTup, mV, mPure, fzs, fz1, f0, f1, f2, stk, pcD, pathD]
  refine (mSeq_nx e).trans ?_
  have : flat [([], t)] = Wi.pieces [] t := by simp [flat]
  rw [this]
  simp [mRet, mBind, mV, fzR, fz1]
end K03
end EG


set_option Elab.async false
set_option linter.all false
set_option maxRecDepth 100000
set_option maxHeartbeats 1000000
namespace EG
open PySem PySem.Spec PyProof.Rows L2
namespace K03
theorem mBin_of {ma mb : Env → Mo SV} {g : Op2} {ρ : Env} {w w1 w2 : Sto} {x y v : SV} (ha : ma ρ w = some (.ok x, w1)) (hb : mb ρ w1 = some (.ok y, w2)) (hg : g x y w2 = some v) : mBin ma mb g ρ w = some (.ok v, w2) := by
  show mBind (ma ρ) (fun x => mBind (mb ρ) fun y w => (g x y w).map fun v => (Res.ok v, w)) w = _
  rw [mBind_of ha, mBind_of hb, hg]
  rfl
theorem mUn_of {ma : Env → Mo SV} {g : SV → Sto → Option SV} {ρ : Env} {w w1 : Sto} {x v : SV} (ha : ma ρ w = some (.ok x, w1)) (hg : g x w1 = some v) : mUn ma g ρ w = some (.ok v, w1) := by
  show mBind (ma ρ) (fun x w => (g x w).map fun v => (Res.ok v, w)) w = _
  rw [mBind_of ha, hg]
  rfl
theorem mTB_of {ma : Env → Mo SV} {ρ : Env} {w w1 : Sto} {b : Bool} (ha : ma ρ w = some (.ok (.dat (.bool b)), w1)) : mTB ma ρ w = some (.ok b, w1) := by
  unfold mTB
  rw [mBind_of ha]
theorem mIfS_of {c : Env → Mo Bool} {a b : Env → Mo Out} {ρ : Env} {w w1 : Sto} {k : Bool} (h : c ρ w = some (.ok k, w1)) : mIfS c a b ρ w = if k = true then a ρ w1 else b ρ w1 := by
  show mBind (c ρ) (fun k => if k then a ρ else b ρ) w = _
  rw [mBind_of h]
  cases k <;> rfl
theorem mCall_of {g : Fn} {m : Env → Mo (List SV)} {ρ : Env} {w w1 : Sto} {xs : List SV} (h : m ρ w = some (.ok xs, w1)) : mCall g m ρ w = g xs w1 := by
  show mBind (m ρ) (fun xs => g xs) w = _
  rw [mBind_of h]
theorem mCons_of {a : Env → Mo SV} {r : Env → Mo (List SV)} {ρ : Env} {w w1 w2 : Sto} {x : SV} {xs : List SV} (h : a ρ w = some (.ok x, w1)) (h2 : r ρ w1 = some (.ok xs, w2)) : mCons a r ρ w = some (.ok (x :: xs), w2) := by
  show mBind (a ρ) (fun x => mBind (r ρ) fun xs => mPure (x :: xs)) w = _
  rw [mBind_of h, mBind_of h2]
  rfl
theorem mV_of {i : Nat} {ρ : Env} {w : Sto} {v : SV} (h : ρ[i]? = some (some v)) : mV i ρ w = some (.ok v, w) := by
  unfold mV
  rw [h]
theorem mRet_dat {m : Env → Mo SV} {ρ : Env} {w w1 : Sto} {d : PyData} (h : m ρ w = some (.ok (.dat d), w1)) : mRet m ρ w = some (.ok (.rt (.dat d)), w1) := by
  show mBind (m ρ) (fun x w => (fzR x w).map fun p => (Res.ok (Out.rt p.1), p.2)) w = _
  rw [mBind_of h]
  rfl
/-! ### need_wish -/
theorem timed_in {x : Str} : ([PyData.str "next", .str "till", .str "ever", .str "always"].any fun e => eqF e (.str x)) = Wi.isT x := by
  simp [eqF, Wi.isT, Bool.or_assoc, BEq.comm]
theorem word_at {i : Nat} {ρ : Env} {w : Sto} {t : Wi} (h : ρ[i]? = some (some (.dat t.d))) : mBin (mV i) (mC (.int 0)) gIx ρ w = some (.ok (.dat (.str t.word)), w) := by
  cases t <;> simp [mBin, mBind, mV, h, mC, mPure, gIx, toD, itemsD, Wi.d, atD0, Wi.word]
theorem isTimed {i : Nat} {ρ : Env} {w : Sto} {t : Wi} (h : ρ[i]? = some (some (.dat t.d))) : mTB (mBin (mBin (mV i) (mC (.int 0)) gIx) (mC (.tuple (List.map PyData.str ["next", "till", "ever", "always"]))) (gIn false)) ρ w = some (.ok (Wi.isT t.word), w) := by
  have e := timed_in (x := t.word)
  refine mTB_of (mBin_of (word_at h) (y := .dat (.tuple (List.map PyData.str ["next", "till", "ever", "always"]))) rfl ?_)
  simp only [List.map_cons, List.map_nil, gIn, toD, itemsD, Option.bind_some, flatD, List.all_cons, List.all_nil, Bool.and_self, if_true, Bool.false_eq_true, if_false, e]
abbrev nwE (a : SV) (w : Sto) (m tm : Int) (x y : Option SV) : Env := [some a, some (.dat (.int m)), some (.dat (.int tm)), some (.obj w.length), x, y]
theorem sizes_len : ∀ l : List PW, l.length ≤ sizes l
  | [] => by simp [sizes]
  | a :: l => by have := size_pos a.2; have := sizes_len l; simp [sizes] at this ⊢; omega
theorem ap_sizes (u v : List PW) : sizes (u ++ v) = sizes u + sizes v := by simp [sizes]
theorem ap_tms (u v : List PW) : tms (u ++ v) = tms u + tms v := by simp [tms]
/-- one part: its counts, then those within -/
theorem need_step {c : Cs} {a : SV} {w : Sto} {m tm : Nat} {x y : Option SV} {p : List Int} {t : Wi} {r : List PW} (k1 : t.ok) (k2 : t.size ≤ 64) (k3 : p.length + t.size ≤ 900) (hr : r.length ≤ 900) :
    bneed_wish0 c (nwE a w m tm x y) (w ++ [.lst (stk ((p, t) :: r))]) =
      if 12 < m + 1 ∨ 5 < tm + (if Wi.isT t.word then 1 else 0) then some (.err c.wish [.tuple [.str "path", .tuple []]], w ++ [.lst (stk r)])
      else some (.ok (.nx (nwE a w (m + 1 : Nat) (tm + (if Wi.isT t.word then 1 else 0) : Nat) (some (.dat (pathD p))) (some (.dat t.d)))), w ++ [.lst (stk (t.kids p ++ r))]) := by
  unfold bneed_wish0
  refine (mSeq_nx (popG_ok (i := 3) (n := w.length) (q := (p, t)) (s := r) rfl (by simp))).trans ?_
  have e1 : (w ++ [SO.lst (stk ((p, t) :: r))]).set w.length (.lst (stk r)) = w ++ [.lst (stk r)] := by simp
  rw [e1]
  refine (mSeq_nx (ρ1 := nwE a w m tm (some (.dat (pathD p))) (some (.dat t.d))) (w1 := w ++ [.lst (stk r)]) ?_).trans ?_
  · simp [mIfS, mNot, mTB, mBind, mCall, mCons, mNil, mV, mPure, form_ok k1 k2, mSkip]
  refine (mSeq_nx (ρ1 := nwE a w (m + 1 : Nat) tm (some (.dat (pathD p))) (some (.dat t.d))) (w1 := w ++ [.lst (stk r)]) ?_).trans ?_
  · simp [mAugI, mBind, mC, mPure]
  refine (mSeq_nx (ρ1 := nwE a w (m + 1 : Nat) (tm + (if Wi.isT t.word then 1 else 0) : Nat) (some (.dat (pathD p))) (some (.dat t.d))) (w1 := w ++ [.lst (stk r)]) ?_).trans ?_
  · unfold mIfS
    rw [mBind_of (isTimed (t := t) rfl)]
    cases Wi.isT t.word <;> simp [mAugI, mBind, mC, mPure, mSkip]
  generalize (tm + (if Wi.isT t.word then 1 else 0)) = tn
  have f0 : fitsN 0 = true := fits_of (by decide)
  have big : mOr (mTB (mBin (mV 1) (mC (.int 12)) gGt)) (mTB (mBin (mV 2) (mC (.int 5)) gGt)) (nwE a w (m + 1 : Nat) (tn : Nat) (some (.dat (pathD p))) (some (.dat t.d))) (w ++ [.lst (stk r)]) = some (.ok (decide (12 < m + 1 ∨ 5 < tn)), w ++ [.lst (stk r)]) := by
    rw [show decide (12 < m + 1 ∨ 5 < tn) = (decide ((12 : Int) < (m : Int) + 1) || decide ((5 : Int) < (tn : Int))) from by rw [← Bool.decide_or, decide_eq_decide]; omega]
    by_cases h1 : (12 : Int) < (m : Int) + 1 <;> by_cases h2 : (5 : Int) < (tn : Int) <;> simp [mOr, mTB, mBind, mBin, mV, mC, mPure, gI, h1, h2]
  by_cases hb : 12 < m + 1 ∨ 5 < tn
  · rw [if_pos hb]
    have : mIfS (mOr (mTB (mBin (mV 1) (mC (.int 12)) gGt)) (mTB (mBin (mV 2) (mC (.int 5)) gGt))) (mRaise c.wish ["path"] (mCons (mTup mNil) mNil)) mSkip (nwE a w (m + 1 : Nat) (tn : Nat) (some (.dat (pathD p))) (some (.dat t.d))) (w ++ [.lst (stk r)]) =
        some (.err c.wish [.tuple [.str "path", .tuple []]], w ++ [.lst (stk r)]) := by
      unfold mIfS
      rw [mBind_of big]
      simp [hb, mRaise, mBind, mCons, mTup, mNil, mPure, fzs, f0, fz1, pairD]
    unfold mSeq
    unfold mBind
    rw [this]
  · rw [if_neg hb]
    refine (mSeq_nx (ρ1 := nwE a w (m + 1 : Nat) (tn : Nat) (some (.dat (pathD p))) (some (.dat t.d))) (w1 := w ++ [.lst (stk r)]) ?_).trans ?_
    · unfold mIfS
      rw [mBind_of big]
      simp [hb, mSkip, mPure]
    · refine (push_ok (i := 3) (n := w.length) (j := 4) (k := 5) (p := p) (t := t) (s := r) rfl (by simp) rfl rfl k1 k2 k3 (by omega)).trans ?_
      simp
theorem need_loop {c : Cs} {a : SV} {w : Sto} : ∀ (n : Nat) (s : List PW) (m tm : Nat) (x y : Option SV), sizes s < n → okS s → m ≤ 12 → tm ≤ 5 → sizes s ≤ 800 →
    if m + sizes s ≤ 12 ∧ tm + tms s ≤ 5 then ∃ m' tm' x' y', whileL (mTr (mV 3)) (bneed_wish0 c) n (nwE a w m tm x y) (w ++ [.lst (stk s)]) = some (.ok (.nx (nwE a w m' tm' x' y')), w ++ [.lst []])
    else ∃ s', whileL (mTr (mV 3)) (bneed_wish0 c) n (nwE a w m tm x y) (w ++ [.lst (stk s)]) = some (.err c.wish [.tuple [.str "path", .tuple []]], w ++ [.lst s'])
  | 0, s, m, tm, x, y, h, _, _, _, _ => absurd h (by omega)
  | n + 1, s, m, tm, x, y, h, hok, hm, ht, hz => by
    have t1 := truS (i := 3) (n := w.length) (ρ := nwE a w m tm x y) (w := w ++ [.lst (stk s)]) (s := s) rfl (by simp)
    unfold whileL
    rw [mBind_of t1]
    cases s with
    | nil =>
      have : m + sizes [] ≤ 12 ∧ tm + tms [] ≤ 5 := by simp [sizes, tms]; omega
      rw [if_pos this]
      exact ⟨m, tm, x, y, by simp [mPure, stk]⟩
    | cons q r =>
      obtain ⟨p, t⟩ := q
      obtain ⟨k1, k2, k3⟩ := hok (p, t) List.mem_cons_self
      have hsz : sizes ((p, t) :: r) = t.size + sizes r := by simp [sizes]
      have hts : tms ((p, t) :: r) = t.tm + tms r := by simp [tms]
      have hks := sizes_kids p t
      have htk := tms_kids p k1
      have hrl := sizes_len r
      simp only [show (!decide ((p, t) :: r = [])) = true from by simp, if_true]
      have st := need_step (c := c) (a := a) (w := w) (m := m) (tm := tm) (x := x) (y := y) (r := r) k1 k2 k3 (by omega)
      have hok' : okS (t.kids p ++ r) := fun q hq => by
        rcases List.mem_append.mp hq with z | z
        · exact ok_kids k1 k2 k3 q z
        · exact hok q (List.mem_cons_of_mem _ z)
      by_cases hb : 12 < m + 1 ∨ 5 < tm + (if Wi.isT t.word then 1 else 0)
      · rw [if_pos hb] at st
        have : ¬ (m + sizes ((p, t) :: r) ≤ 12 ∧ tm + tms ((p, t) :: r) ≤ 5) := by
          rw [hsz, hts]
          cases q : Wi.isT t.word <;> simp only [q, if_true, Bool.false_eq_true, if_false] at hb htk <;> omega
        rw [if_neg this]
        refine ⟨stk r, ?_⟩
        unfold mBind
        rw [st]
      · rw [if_neg hb] at st
        rw [mBind_of st]
        simp only
        have ih := need_loop (c := c) (a := a) (w := w) n (t.kids p ++ r) (m + 1) (tm + (if Wi.isT t.word then 1 else 0)) (some (.dat (pathD p))) (some (.dat t.d)) (by rw [ap_sizes]; omega) hok' (by omega) (by omega) (by rw [ap_sizes]; omega)
        have e : (m + 1 + sizes (t.kids p ++ r) ≤ 12 ∧ tm + (if Wi.isT t.word then 1 else 0) + tms (t.kids p ++ r) ≤ 5) ↔ (m + sizes ((p, t) :: r) ≤ 12 ∧ tm + tms ((p, t) :: r) ≤ 5) := by
          rw [hsz, hts, ap_sizes, ap_tms]
          cases q : Wi.isT t.word <;> simp only [q, if_true, Bool.false_eq_true, if_false] at htk ⊢ <;> omega
        by_cases hc : m + sizes ((p, t) :: r) ≤ 12 ∧ tm + tms ((p, t) :: r) ≤ 5
        · rw [if_pos hc]
          rw [if_pos (e.mpr hc)] at ih
          exact ih
        · rw [if_neg hc]
          rw [if_neg (fun z => hc (e.mp z))] at ih
          exact ih
/-- a wish that is not too great is let by, one that is is refused -/
theorem need_ok {c : Cs} {t : Wi} (h : t.ok) (h1 : t.size ≤ 12) (h2 : t.tm ≤ 5) (w : Sto) : gneed_wish c [.dat t.d] w = some (.ok (.dat t.d), w) := by
  have l := need_loop (c := c) (a := .dat t.d) (w := w) 100 [([], t)] 0 0 none none (by simp [sizes]; omega) (fun q hq => by simp at hq; subst hq; exact ⟨h, by simp; omega, by simp; omega⟩) (by omega) (by omega) (by simp [sizes]; omega)
  rw [if_pos (by simp [sizes, tms]; omega)] at l
  obtain ⟨m', tm', x', y', e⟩ := l
  have f0 : fitsN 0 = true := fits_of (by decide)
  have f1 : fitsN 1 = true := fits_of (by decide)
  have f2 : fitsN 2 = true := fits_of (by decide)
  refine def_dat (w' := [.lst []]) ?_
  show mneed_wish c [some (.dat t.d), none, none, none, none, none] w = _
  unfold mneed_wish
  refine (mSeq_nx (ρ1 := [some (.dat t.d), some (.dat (.int 0)), some (.dat (.int 0)), none, none, none]) (w1 := w) ?_).trans ?_
  · simp [mAsg2, mBind, mC, mPure]
  refine (mSeq_nx (ρ1 := nwE (.dat t.d) w (0 : Nat) (0 : Nat) none none) (w1 := w ++ [.lst (stk [([], t)])]) ?_).trans ?_
  · simp [mAsg, mBind, mLstO, mCons, mNil, mTup, mV, mPure, fzs, fz1, f0, f1, f2, stk, pcD, pathD]
  refine (mSeq_nx e).trans ?_
  simp [mRet, mBind, mV, fzR, mPure]
theorem need_bad {c : Cs} {t : Wi} (h : t.ok) (hz : t.size ≤ 60) (h1 : ¬ (t.size ≤ 12 ∧ t.tm ≤ 5)) (w : Sto) : gneed_wish c [.dat t.d] w = some (.err c.wish [.tuple [.str "path", .tuple []]], w) := by
  have l := need_loop (c := c) (a := .dat t.d) (w := w) 100 [([], t)] 0 0 none none (by simp [sizes]; omega) (fun q hq => by simp at hq; subst hq; exact ⟨h, by simp; omega, by simp; omega⟩) (by omega) (by omega) (by simp [sizes]; omega)
  rw [if_neg (by simp [sizes, tms]; omega)] at l
  obtain ⟨s', e⟩ := l
  have f0 : fitsN 0 = true := fits_of (by decide)
  have f1 : fitsN 1 = true := fits_of (by decide)
  have f2 : fitsN 2 = true := fits_of (by decide)
  refine def_err (w' := [.lst s']) ?_
  show mneed_wish c [some (.dat t.d), none, none, none, none, none] w = _
  unfold mneed_wish
  refine (mSeq_nx (ρ1 := [some (.dat t.d), some (.dat (.int 0)), some (.dat (.int 0)), none, none, none]) (w1 := w) ?_).trans ?_
  · simp [mAsg2, mBind, mC, mPure]
  refine (mSeq_nx (ρ1 := nwE (.dat t.d) w (0 : Nat) (0 : Nat) none none) (w1 := w ++ [.lst (stk [([], t)])]) ?_).trans ?_
  · simp [mAsg, mBind, mLstO, mCons, mNil, mTup, mV, mPure, fzs, fz1, f0, f1, f2, stk, pcD, pathD]
  unfold mSeq
  unfold mBind
  rw [show mWhile 100 (mTr (mV 3)) (bneed_wish0 c) = whileL (mTr (mV 3)) (bneed_wish0 c) 100 from rfl, e]
end K03
end EG


set_option Elab.async false
set_option linter.all false
set_option maxRecDepth 100000
set_option maxHeartbeats 1000000
namespace EG
open PySem PySem.Spec PyProof.Rows L2
namespace K03
abbrev piecesG : Fn := recG ["hope", "found", "place", "path", "part"] (m_law_pieces) 24
abbrev withG : Fn := recG ["hope", "path", "part", "place"] (m_law_with) 24
abbrev putG : Fn := recG ["wish", "path", "part", "place", "inner"] (mput_at) 24
/-! ### all parts, by the law's own recursion -/
theorem pieces_pre : ∀ (t : Wi) (p : List Int), Wi.pieces p t = (Wi.pieces [] t).map fun q => (p ++ q.1, q.2)
  | .lf x, p => by simp [Wi.pieces]
  | .mk i, p => by simp [Wi.pieces]
  | .un x f, p => by
    simp only [Wi.pieces, List.map_cons, List.append_nil, List.nil_append]
    rw [pieces_pre f (p ++ [1]), pieces_pre f [1]]
    simp [List.map_map, Function.comp_def]
  | .bi x f g, p => by
    simp only [Wi.pieces, List.map_cons, List.append_nil, List.nil_append, List.map_append]
    rw [pieces_pre f (p ++ [1]), pieces_pre f [1], pieces_pre g (p ++ [2]), pieces_pre g [2]]
    simp [List.map_map, Function.comp_def]
theorem pieces_len (t : Wi) : ∀ p, (Wi.pieces p t).length = t.size := by
  induction t with
  | lf x => intro p; rfl
  | mk i => intro p; rfl
  | un x f ih => intro p; simp [Wi.pieces, Wi.size, ih]
  | bi x f g ih ih2 => intro p; simp [Wi.pieces, Wi.size, ih, ih2]
theorem pieces_path (t : Wi) : ∀ p, ∀ q ∈ Wi.pieces p t, q.1.length < p.length + t.size := by
  induction t with
  | lf x => intro p q h; simp [Wi.pieces] at h; subst h; simp [Wi.size]
  | mk i => intro p q h; simp [Wi.pieces] at h; subst h; simp [Wi.size]
  | un x f ih =>
    intro p q h
    simp [Wi.pieces] at h
    rcases h with rfl | h
    · simp [Wi.size]
    · have := ih _ q h; simp [Wi.size] at this ⊢; omega
  | bi x f g ih ih2 =>
    intro p q h
    simp [Wi.pieces] at h
    rcases h with rfl | h | h
    · simp [Wi.size]
    · have := ih _ q h; simp [Wi.size] at this ⊢; omega
    · have := ih2 _ q h; simp [Wi.size] at this ⊢; omega
theorem cat_tup {xs ys : List PyData} (h : xs.length + ys.length ≤ 1000) (w : Sto) : gCat (.dat (.tuple xs)) (.dat (.tuple ys)) w = some (.dat (.tuple (xs ++ ys))) := by
  simp only [gCat, fits_of h, if_true]
theorem cat_lst {xs ys : List PyData} (h : xs.length + ys.length ≤ 1000) (w : Sto) : gCat (.dat (.list xs)) (.dat (.list ys)) w = some (.dat (.list (xs ++ ys))) := by
  simp only [gCat, toL, fits_of h, if_true]
theorem tup1 {a : Env → Mo SV} {ρ : Env} {w : Sto} {d : PyData} (h : a ρ w = some (.ok (.dat d), w)) : mTup (mCons a mNil) ρ w = some (.ok (.dat (.tuple [d])), w) := by
  unfold mTup
  rw [mBind_of (mCons_of h rfl)]
  simp [fzs, fz1, fits_of]
theorem tup2 {a b : Env → Mo SV} {ρ : Env} {w w1 w2 : Sto} {d e : PyData} (h : a ρ w = some (.ok (.dat d), w1)) (h2 : b ρ w1 = some (.ok (.dat e), w2)) : mTup (mCons a (mCons b mNil)) ρ w = some (.ok (.dat (.tuple [d, e])), w2) := by
  unfold mTup
  rw [mBind_of (mCons_of h (mCons_of h2 rfl))]
  simp [fzs, fz1, fits_of]
theorem tup3 {a b c : Env → Mo SV} {ρ : Env} {w w1 w2 w3 : Sto} {d e f : PyData} (h : a ρ w = some (.ok (.dat d), w1)) (h2 : b ρ w1 = some (.ok (.dat e), w2)) (h3 : c ρ w2 = some (.ok (.dat f), w3)) : mTup (mCons a (mCons b (mCons c mNil))) ρ w = some (.ok (.dat (.tuple [d, e, f])), w3) := by
  unfold mTup
  rw [mBind_of (mCons_of h (mCons_of h2 (mCons_of h3 rfl)))]
  simp [fzs, fz1, fits_of]
/-- the pieces of one part, their paths led by its place -/
theorem sub_pieces {gr : Fn} {t f : Wi} {k : Int} {F : List PyData} {x y : Option SV} {w : Sto} (hr : ∀ w, gr [.dat f.d] w = some (.ok (.dat (.list ((Wi.pieces [] f).map pcD))), w)) (hi : ∀ w, gIx (.dat t.d) (.dat (.int k)) w = some (.dat f.d)) (hz : f.size ≤ 60) :
    mLc (mItemsL (mCall gr (mCons (mBin (mV 0) (mV 2) gIx) mNil))) [3, 4] (mSetT [(mSet 3), (mSet 4)]) mYes (mTup (mCons (mBin (mTup (mCons (mV 2) mNil)) (mV 3) gCat) (mCons (mV 4) mNil))) [some (.dat t.d), some (.dat (.list F)), some (.dat (.int k)), x, y] w =
      some (.ok (.dat (.list ((Wi.pieces [k] f).map pcD))), w) := by
  refine (mLc_of (w1 := w) (ds := (Wi.pieces [] f).map pcD) (acc := (Wi.pieces [k] f).map pcD) ?_ ?_)
  · have := mCall_of (g := gr) (m := mCons (mBin (mV 0) (mV 2) gIx) mNil) (ρ := [some (.dat t.d), some (.dat (.list F)), some (.dat (.int k)), x, y]) (w := w) (mCons_of (mBin_of (mV_of rfl) (mV_of rfl) (hi w)) rfl)
    unfold mItemsL
    rw [mBind_of (this.trans (hr w))]
  · have e := lc_ok (set := mSetT [(mSet 3), (mSet 4)]) (cond := mYes) (elt := mTup (mCons (mBin (mTup (mCons (mV 2) mNil)) (mV 3) gCat) (mCons (mV 4) mNil))) (ρ := [some (.dat t.d), some (.dat (.list F)), some (.dat (.int k)), none, none]) (w := w)
      (fun d => match d with | .tuple [a, b] => [some (.dat t.d), some (.dat (.list F)), some (.dat (.int k)), some (.dat a), some (.dat b)] | _ => []) (fun _ => true) (fun d => match d with | .tuple [.tuple a, b] => .tuple [.tuple (.int k :: a), b] | d => d) (ds := (Wi.pieces [] f).map pcD) (acc := []) (fun d hd w' => by
        obtain ⟨q, hq, rfl⟩ := List.mem_map.mp hd
        refine ⟨rfl, rfl, fun _ => ?_⟩
        have hl := pieces_path f [] q hq
        refine tup2 (mBin_of (tup1 (mV_of rfl)) (mV_of rfl) (cat_tup (by simp at hl ⊢; omega) _)) (mV_of rfl)) (by have := sz; simp [pieces_len]; omega)
    have e2 : ([] ++ (((Wi.pieces [] f).map pcD).filter fun _ => true).map (fun d => match d with | .tuple [.tuple a, b] => PyData.tuple [.tuple (.int k :: a), b] | d => d)) = (Wi.pieces [k] f).map pcD := by
      rw [List.filter_eq_self.mpr (fun _ _ => rfl), List.nil_append, pieces_pre f [k], List.map_map, List.map_map]
      rfl
    rw [e2] at e
    exact e
theorem ne_mark {i : Nat} {ρ : Env} {w : Sto} {t : Wi} (h : ρ[i]? = some (some (.dat t.d))) : mTB (mBin (mBin (mV i) (mC (.int 0)) gIx) (mC (.str "mark")) gNe) ρ w = some (.ok (!decide (t.word = "mark")), w) :=
  mTB_of (mBin_of (word_at h) (y := .dat (.str "mark")) rfl rfl)
theorem eq_word {i : Nat} {x : Str} {ρ : Env} {w : Sto} {t : Wi} (h : ρ[i]? = some (some (.dat t.d))) : mBin (mBin (mV i) (mC (.int 0)) gIx) (mC (.str x)) gEq ρ w = some (.ok (.dat (.bool (decide (t.word = x)))), w) :=
  mBin_of (word_at h) (y := .dat (.str x)) rfl rfl
theorem pieces_step {gr : Fn} {t : Wi} (h : t.ok) (hz : t.size ≤ 60) (hr : ∀ f : Wi, f.ok → f.size < t.size → ∀ w, gr [.dat f.d] w = some (.ok (.dat (.list ((Wi.pieces [] f).map pcD))), w)) (w : Sto) :
    mDef ["hope", "found", "place", "path", "part"] (m_law_pieces gr) [.dat t.d] w = some (.ok (.dat (.list ((Wi.pieces [] t).map pcD))), w) := by
  have f0 : fitsN 0 = true := fits_of (by decide)
  have f1 : fitsN 1 = true := fits_of (by decide)
  refine def_dat (w' := []) ?_
  rw [List.append_nil]
  show m_law_pieces gr [some (.dat t.d), none, none, none, none] w = _
  unfold m_law_pieces
  refine (mSeq_nx (ρ1 := [some (.dat t.d), some (.dat (.list [pcD ([], t)])), none, none, none]) (w1 := w) ?_).trans ?_
  · refine mAsg_of (v := .dat (.list [pcD ([], t)])) ?_
    unfold mLst
    rw [mBind_of (mCons_of (tup2 (d := .tuple []) (e := t.d) (w1 := w) (by simp [mTup, mNil, mBind, mPure, fzs, f0]) (mV_of rfl)) rfl)]
    simp [fzs, fz1, f1, pcD, pathD]
  have fin : ∀ (ds : List PyData) (hd : mRange2 (mC (.int 1)) (mUn (mV 0) gLen) [some (.dat t.d), some (.dat (.list [pcD ([], t)])), none, none, none] w = some (.ok ds, w)) (z : Option SV)
      (e : forL (mSet 2) (b_law_pieces0 gr) ds [some (.dat t.d), some (.dat (.list [pcD ([], t)])), none, none, none] w = some (.ok (.nx [some (.dat t.d), some (.dat (.list ((Wi.pieces [] t).map pcD))), z, none, none]), w)),
      mSeq (mFor (mRange2 (mC (.int 1)) (mUn (mV 0) gLen)) (mSet 2) (b_law_pieces0 gr)) (mRet (mV 1)) [some (.dat t.d), some (.dat (.list [pcD ([], t)])), none, none, none] w = some (.ok (.rt (.dat (.list ((Wi.pieces [] t).map pcD)))), w) := fun ds hd z e => by
    refine (mSeq_nx ((mFor_of hd).trans e)).trans ?_
    exact mRet_dat (mV_of rfl)
  -- one place
  have turn : ∀ (k : Int) (f : Wi) (F : List PyData) (z : Option SV), t.word ≠ "mark" → f.ok → f.size < t.size → (∀ w, gIx (.dat t.d) (.dat (.int k)) w = some (.dat f.d)) → F.length ≤ 60 →
      b_law_pieces0 gr [some (.dat t.d), some (.dat (.list F)), some (.dat (.int k)), none, none] w = some (.ok (.nx [some (.dat t.d), some (.dat (.list (F ++ (Wi.pieces [k] f).map pcD))), some (.dat (.int k)), none, none]), w) := fun k f F z hw ho hs hi hF => by
    unfold b_law_pieces0
    rw [mIfS_of (ne_mark (t := t) rfl)]
    simp only [hw, decide_false, Bool.not_false, if_true]
    refine mAsg_of (v := .dat (.list (F ++ (Wi.pieces [k] f).map pcD))) ?_
    exact mBin_of (mV_of rfl) (sub_pieces (hr f ho hs) hi (by omega)) (cat_lst (by simp [pieces_len]; omega) _)
  cases t with
  | lf x => exact fin [] (by simp [mRange2, mBind, mC, mPure, mUn, mV, gLen, toD, lenD, Wi.d, in62, intsFrom]) none (by simp [forL, mPure, Wi.pieces])
  | mk i =>
    refine fin [.int 1] (by simp [mRange2, mBind, mC, mPure, mUn, mV, gLen, toD, lenD, Wi.d, in62, intsFrom]) (some (.dat (.int 1))) ?_
    have b : b_law_pieces0 gr [some (.dat (Wi.mk i).d), some (.dat (.list [pcD ([], .mk i)])), some (.dat (.int 1)), none, none] w = some (.ok (.nx [some (.dat (Wi.mk i).d), some (.dat (.list [pcD ([], .mk i)])), some (.dat (.int 1)), none, none]), w) := by
      unfold b_law_pieces0
      rw [mIfS_of (ne_mark (t := .mk i) rfl)]
      rfl
    unfold forL
    refine (mBind_of (a := [some (.dat (Wi.mk i).d), some (.dat (.list [pcD ([], .mk i)])), some (.dat (.int 1)), none, none]) (w1 := w) rfl).trans ?_
    rw [mBind_of b]
    rfl
  | un x f =>
    have hx : (Wi.un x f).word ≠ "mark" := fun e => by rcases one_cases h.1 with z | z | z | z <;> rw [show (Wi.un x f).word = x from rfl, z] at e <;> exact absurd e (by decide)
    refine fin [.int 1] (by simp [mRange2, mBind, mC, mPure, mUn, mV, gLen, toD, lenD, Wi.d, in62, intsFrom]) (some (.dat (.int 1))) ?_
    unfold forL
    refine (mBind_of (a := [some (.dat (Wi.un x f).d), some (.dat (.list [pcD ([], .un x f)])), some (.dat (.int 1)), none, none]) (w1 := w) rfl).trans ?_
    rw [mBind_of (turn 1 f [pcD ([], .un x f)] none hx h.2 (by simp [Wi.size]) (fun w => by simp [gIx, toD, itemsD, Wi.d, atD1]) (by simp))]
    rfl
  | bi x f g =>
    have hx : (Wi.bi x f g).word ≠ "mark" := fun e => by rcases two_cases h.1 with z | z | z <;> rw [show (Wi.bi x f g).word = x from rfl, z] at e <;> exact absurd e (by decide)
    refine fin [.int 1, .int 2] (by simp [mRange2, mBind, mC, mPure, mUn, mV, gLen, toD, lenD, Wi.d, in62, intsFrom]; rfl) (some (.dat (.int 2))) ?_
    unfold forL
    refine (mBind_of (a := [some (.dat (Wi.bi x f g).d), some (.dat (.list [pcD ([], .bi x f g)])), some (.dat (.int 1)), none, none]) (w1 := w) rfl).trans ?_
    rw [mBind_of (turn 1 f [pcD ([], .bi x f g)] none hx h.2.1 (by simp [Wi.size]; omega) (fun w => by simp [gIx, toD, itemsD, Wi.d, atD1]) (by simp))]
    simp only
    unfold forL
    refine (mBind_of (a := [some (.dat (Wi.bi x f g).d), some (.dat (.list ([pcD ([], .bi x f g)] ++ (Wi.pieces [1] f).map pcD))), some (.dat (.int 2)), none, none]) (w1 := w) rfl).trans ?_
    rw [mBind_of (turn 2 g _ none hx h.2.2 (by simp [Wi.size]; omega) (fun w => by simp [gIx, toD, itemsD, Wi.d, atD2]) (by simp [Wi.size] at hz; simp [pieces_len]; omega))]
    simp [forL, mPure, Wi.pieces]
theorem pieces_ok : ∀ (n : Nat) {t : Wi}, t.ok → t.size ≤ 60 → t.size ≤ n → ∀ w, recG ["hope", "found", "place", "path", "part"] (m_law_pieces) n [.dat t.d] w = some (.ok (.dat (.list ((Wi.pieces [] t).map pcD))), w)
  | 0, t, _, _, h, _ => by have := size_pos t; omega
  | n + 1, t, ho, hz, h, w => pieces_step ho hz (fun f hf hs w => pieces_ok n hf (by omega) (by omega) w) w
end K03
end EG


set_option Elab.async false
set_option linter.all false
set_option maxRecDepth 100000
set_option maxHeartbeats 1000000
namespace EG
open PySem PySem.Spec PyProof.Rows L2
namespace K03
/-! ### unlike timed parts: both look for them alike -/
def addT (acc : List PyData) (u : Wi) : List PyData := if Wi.isT u.word && !(acc.any fun z => PyData.eqv z u.d) then acc ++ [u.d] else acc
def accOk (acc : List PyData) : Prop := (∀ e ∈ acc, ∃ u : Wi, u.ok ∧ u.size ≤ 60 ∧ e = u.d) ∧ acc.length ≤ 60
theorem shaped_acc {acc : List PyData} (h : ∀ e ∈ acc, ∃ u : Wi, u.ok ∧ u.size ≤ 60 ∧ e = u.d) : SeqAt.shaped (.list acc) = true := by
  have c : PyData.canLayAll0 acc = true ∧ PyData.depthAll acc ≤ 60 := by
    induction acc with
    | nil => exact ⟨rfl, by simp [PyData.depthAll]⟩
    | cons a r ih =>
      obtain ⟨u, h1, h2, rfl⟩ := h a List.mem_cons_self
      obtain ⟨i1, i2⟩ := ih fun e he => h e (List.mem_cons_of_mem _ he)
      have := depth_d (t := u)
      refine ⟨by simp [PyData.canLayAll0, can_d h1, i1], ?_⟩
      simp only [PyData.depthAll]
      omega
  simp [SeqAt.shaped, PyData.canLay0, PyData.depth, c.1]
  omega
theorem timed_turn {test : Env → Mo SV} {body : Env → Mo Out} (hb : body = mIfS (mAnd (mTB (mBin (mBin (mV 3) (mC (.int 0)) gIx) test (gIn false))) (mTB (mBin (mV 3) (mV 1) (gInD true)))) (mDrop (mApp (mV 1) (mV 3))) mSkip)
    (ht : ∀ ρ w, test ρ w = some (.ok (.dat (.tuple (List.map PyData.str ["next", "till", "ever", "always"]))), w)) {a : SV} {w : Sto} {acc : List PyData} {y : Option SV} {u : Wi} (ho : u.ok) (hz : u.size ≤ 60) (ha : accOk acc) (hl : acc.length < 60) :
    body [some a, some (.obj w.length), y, some (.dat u.d)] (w ++ [.lst acc]) = some (.ok (.nx [some a, some (.obj w.length), y, some (.dat u.d)]), w ++ [.lst (addT acc u)]) := by
  have e := timed_in (x := u.word)
  have s1 := shaped_d ho (by omega : u.size ≤ 64)
  have s2 := shaped_acc ha.1
  have t1 : mTB (mBin (mBin (mV 3) (mC (.int 0)) gIx) test (gIn false)) [some a, some (.obj w.length), y, some (.dat u.d)] (w ++ [.lst acc]) = some (.ok (Wi.isT u.word), w ++ [.lst acc]) := by
    refine mTB_of (mBin_of (word_at (t := u) rfl) (ht _ _) ?_)
    simp only [List.map_cons, List.map_nil, gIn, toD, itemsD, Option.bind_some, flatD, List.all_cons, List.all_nil, Bool.and_self, if_true, Bool.false_eq_true, if_false, e]
  have t2 : mTB (mBin (mV 3) (mV 1) (gInD true)) [some a, some (.obj w.length), y, some (.dat u.d)] (w ++ [.lst acc]) = some (.ok (!(acc.any fun z => PyData.eqv z u.d)), w ++ [.lst acc]) := by
    refine mTB_of (mBin_of (mV_of rfl) (mV_of rfl) ?_)
    simp [gInD, toD, s1, s2]
  have t3 : mAnd (mTB (mBin (mBin (mV 3) (mC (.int 0)) gIx) test (gIn false))) (mTB (mBin (mV 3) (mV 1) (gInD true))) [some a, some (.obj w.length), y, some (.dat u.d)] (w ++ [.lst acc]) = some (.ok (Wi.isT u.word && !(acc.any fun z => PyData.eqv z u.d)), w ++ [.lst acc]) := by
    show mBind (mTB (mBin (mBin (mV 3) (mC (.int 0)) gIx) test (gIn false)) _) (fun c => if c then mTB (mBin (mV 3) (mV 1) (gInD true)) _ else mPure false) _ = _
    rw [mBind_of t1]
    cases Wi.isT u.word
    · rfl
    · simp only [if_true, t2, Bool.true_and]
  rw [hb, mIfS_of t3]
  unfold addT
  by_cases c : (Wi.isT u.word && !(acc.any fun z => PyData.eqv z u.d)) = true
  · have f3 : acc.length < sizeLine := by have := sz; omega
    rw [if_pos c, if_pos c]
    simp [mDrop, mApp, mBind, mV, isLst, appO, fz1, f3, mPure]
  · rw [if_neg c, if_neg c]
    rfl
theorem addT_ok {acc : List PyData} {u : Wi} (ho : u.ok) (hz : u.size ≤ 60) (ha : accOk acc) (hl : acc.length < 60) : accOk (addT acc u) := by
  unfold addT
  by_cases c : (Wi.isT u.word && !(acc.any fun z => PyData.eqv z u.d)) = true
  · rw [if_pos c]
    refine ⟨fun e he => ?_, by simp; omega⟩
    rcases List.mem_append.mp he with z | z
    · exact ha.1 e z
    · exact ⟨u, ho, hz, List.mem_singleton.mp z⟩
  · rw [if_neg c]; exact ha
theorem addT_len {acc : List PyData} {u : Wi} : (addT acc u).length ≤ acc.length + 1 := by
  unfold addT
  split <;> simp
theorem timed_loop {body : Env → Mo Out} {a : SV} {w : Sto} (st : ∀ (acc : List PyData) (y : Option SV) (u : Wi), u.ok → u.size ≤ 60 → accOk acc → acc.length < 60 → body [some a, some (.obj w.length), y, some (.dat u.d)] (w ++ [.lst acc]) = some (.ok (.nx [some a, some (.obj w.length), y, some (.dat u.d)]), w ++ [.lst (addT acc u)])) :
    ∀ (l : List PW) (acc : List PyData) (x y : Option SV), (∀ q ∈ l, q.2.ok ∧ q.2.size ≤ 60) → accOk acc → acc.length + l.length ≤ 60 → ∃ x' y', forL (mSetT [mSet 2, mSet 3]) body (l.map pcD) [some a, some (.obj w.length), x, y] (w ++ [.lst acc]) =
      some (.ok (.nx [some a, some (.obj w.length), x', y']), w ++ [.lst (l.foldl (fun acc q => addT acc q.2) acc)])
  | [], acc, x, y, _, _, _ => ⟨x, y, rfl⟩
  | q :: l, acc, x, y, h, ha, hl => by
    obtain ⟨h1, h2⟩ := h q List.mem_cons_self
    have hl' : acc.length + (l.length + 1) ≤ 60 := hl
    have hn := addT_len (acc := acc) (u := q.2)
    obtain ⟨x', y', ih⟩ := timed_loop st l (addT acc q.2) (some (.dat (pathD q.1))) (some (.dat q.2.d)) (fun q hq => h q (List.mem_cons_of_mem _ hq)) (addT_ok h1 h2 ha (by omega)) (by omega)
    refine ⟨x', y', ?_⟩
    show forL _ _ (pcD q :: l.map pcD) _ _ = _
    unfold forL
    refine (mBind_of (a := [some a, some (.obj w.length), some (.dat (pathD q.1)), some (.dat q.2.d)]) (w1 := w ++ [.lst acc]) rfl).trans ?_
    rw [mBind_of (st acc _ q.2 h1 h2 ha (by omega))]
    exact ih
def timedL (t : Wi) : List PyData := (Wi.pieces [] t).foldl (fun acc q => addT acc q.2) []
theorem pieces_sub (t : Wi) (h : t.ok) : ∀ p, ∀ q ∈ Wi.pieces p t, q.2.ok ∧ q.2.size ≤ t.size := by
  induction t with
  | lf x => intro p q hq; simp [Wi.pieces] at hq; subst hq; exact ⟨h, Nat.le_refl _⟩
  | mk i => intro p q hq; simp [Wi.pieces] at hq; subst hq; exact ⟨h, Nat.le_refl _⟩
  | un x f ih =>
    intro p q hq
    simp [Wi.pieces] at hq
    rcases hq with rfl | hq
    · exact ⟨h, Nat.le_refl _⟩
    · have := ih h.2 _ q hq; simp [Wi.size]; exact ⟨this.1, by omega⟩
  | bi x f g ih ih2 =>
    intro p q hq
    simp [Wi.pieces] at hq
    rcases hq with rfl | hq | hq
    · exact ⟨h, Nat.le_refl _⟩
    · have := ih h.2.1 _ q hq; simp [Wi.size]; exact ⟨this.1, by omega⟩
    · have := ih2 h.2.2 _ q hq; simp [Wi.size]; exact ⟨this.1, by omega⟩
theorem accOk_nil : accOk [] := ⟨fun _ h => (nomatch h), by simp⟩
theorem unlike_ok {t : Wi} (h : t.ok) (hz : t.size ≤ 60) (w : Sto) : gunlike_timed [.dat t.d] w = some (.ok (.dat (.tuple (timedL t))), w) := by
  obtain ⟨x', y', e⟩ := timed_loop (body := bunlike_timed0) (a := .dat t.d) (w := w) (fun acc y u h1 h2 h3 h4 => timed_turn rfl (fun _ _ => rfl) h1 h2 h3 h4) (Wi.pieces [] t) [] none none (fun q hq => by have := pieces_sub t h [] q hq; exact ⟨this.1, by omega⟩) accOk_nil (by simp [pieces_len]; omega)
  refine def_dat (w' := [.lst (timedL t)]) ?_
  show munlike_timed [some (.dat t.d), none, none, none] w = _
  unfold munlike_timed
  refine (mSeq_nx (ρ1 := [some (.dat t.d), some (.obj w.length), none, none]) (w1 := w ++ [.lst []]) ?_).trans ?_
  · simp [mAsg, mBind, mLstO, mNil, mPure, fzs, fitsN]
  have it : mItemsL (mCall gwalked (mCons (mV 0) mNil)) [some (.dat t.d), some (.obj w.length), none, none] (w ++ [.lst []]) = some (.ok ((Wi.pieces [] t).map pcD), w ++ [.lst []]) := by
    unfold mItemsL
    rw [mBind_of ((mCall_of (mCons_of (mV_of rfl) rfl)).trans (walked_ok h hz _))]
  refine (mSeq_nx ((mFor_of it).trans e)).trans ?_
  refine mRet_dat (mUn_of (mV_of rfl) ?_)
  simp [gTuple, toD, timedL]
theorem law_timed_ok {t : Wi} (h : t.ok) (hz : t.size ≤ 24) (w : Sto) : g_law_timed [.dat t.d] w = some (.ok (.dat (.list (timedL t))), w) := by
  have tst : ∀ ρ w, mTup (mCons (mC (.str "next")) (mCons (mC (.str "till")) (mCons (mC (.str "ever")) (mCons (mC (.str "always")) mNil)))) ρ w = some (.ok (.dat (.tuple (List.map PyData.str ["next", "till", "ever", "always"]))), w) := fun ρ w => by
    simp [mTup, mCons, mNil, mC, mBind, mPure, fzs, fz1, fits_of]
  obtain ⟨x', y', e⟩ := timed_loop (body := b_law_timed0) (a := .dat t.d) (w := w) (fun acc y u h1 h2 h3 h4 => timed_turn rfl tst h1 h2 h3 h4) (Wi.pieces [] t) [] none none (fun q hq => by have := pieces_sub t h [] q hq; exact ⟨this.1, by omega⟩) accOk_nil (by simp [pieces_len]; omega)
  refine def_dat (w' := [.dead]) ?_
  show m_law_timed [some (.dat t.d), none, none, none] w = _
  unfold m_law_timed
  refine (mSeq_nx (ρ1 := [some (.dat t.d), some (.obj w.length), none, none]) (w1 := w ++ [.lst []]) ?_).trans ?_
  · simp [mAsg, mBind, mLstO, mNil, mPure, fzs, fitsN]
  have it : mItemsL (mCall piecesG (mCons (mV 0) mNil)) [some (.dat t.d), some (.obj w.length), none, none] (w ++ [.lst []]) = some (.ok ((Wi.pieces [] t).map pcD), w ++ [.lst []]) := by
    unfold mItemsL
    rw [mBind_of ((mCall_of (mCons_of (mV_of rfl) rfl)).trans (pieces_ok 24 h (by omega) hz _))]
  refine (mSeq_nx ((mFor_of it).trans e)).trans ?_
  simp [mRet, mBind, mV, fzR, fz1, timedL]
theorem timed_parts_ok {c : Cs} {t : Wi} (h : t.ok) (h1 : t.size ≤ 12) (h2 : t.tm ≤ 5) (w : Sto) : gtimed_parts c [.dat t.d] w = some (.ok (.dat (.tuple (timedL t))), w) := by
  refine def_dat (w' := []) ?_
  rw [List.append_nil]
  refine mRet_dat ((mCall_of (mCons_of ((mCall_of (mCons_of (mV_of rfl) rfl)).trans (need_ok h h1 h2 w)) rfl)).trans (unlike_ok h (by omega) w))
/-! ### paths -/
theorem paths_ok {c : Cs} {t : Wi} (h : t.ok) (h1 : t.size ≤ 12) (h2 : t.tm ≤ 5) (w : Sto) : gpaths c [.dat t.d] w = some (.ok (.dat (.tuple ((Wi.pieces [] t).map fun q => pathD q.1))), w) := by
  refine def_dat (w' := []) ?_
  rw [List.append_nil]
  show mpaths c [some (.dat t.d), none, none] w = _
  unfold mpaths
  refine (mSeq_nx (ρ1 := [some (.dat t.d), none, none]) (w1 := w) ?_).trans ?_
  · unfold mDrop
    rw [mBind_of ((mCall_of (mCons_of (mV_of rfl) rfl)).trans (need_ok h h1 h2 w))]
    rfl
  have it : mItemsL (mCall gwalked (mCons (mV 0) mNil)) [some (.dat t.d), none, none] w = some (.ok ((Wi.pieces [] t).map pcD), w) := by
    unfold mItemsL
    rw [mBind_of ((mCall_of (mCons_of (mV_of rfl) rfl)).trans (walked_ok h (by omega) w))]
  have e := lc_ok (set := mSetT [(mSet 1), (mSet 2)]) (cond := mYes) (elt := mV 1) (ρ := [some (.dat t.d), none, none]) (w := w)
      (fun d => match d with | .tuple [a, b] => [some (.dat t.d), some (.dat a), some (.dat b)] | _ => []) (fun _ => true) (fun d => match d with | .tuple [a, b] => a | d => d) (ds := (Wi.pieces [] t).map pcD) (acc := []) (fun d hd w' => by
        obtain ⟨q, hq, rfl⟩ := List.mem_map.mp hd
        exact ⟨rfl, rfl, fun _ => rfl⟩) (by have := sz; simp [pieces_len]; omega)
  rw [List.filter_eq_self.mpr (fun _ _ => rfl), List.nil_append, List.map_map] at e
  refine mRet_dat (mUn_of (mLc_of it e) ?_)
  rfl
end K03
end EG


set_option Elab.async false
set_option linter.all false
set_option maxRecDepth 100000
set_option maxHeartbeats 1000000
namespace EG
open PySem PySem.Spec PyProof.Rows L2
namespace K03
/-! ### what stands at a path -/
def Wi.at : Wi → List Int → Option Wi
  | t, [] => some t
  | .un _ f, k :: q => if k = 1 then f.at q else none
  | .bi _ f g, k :: q => if k = 1 then f.at q else if k = 2 then g.at q else none
  | _, _ :: _ => none
/-- the part at one place -/
def Wi.kid : Wi → Int → Option Wi
  | .un _ f, k => if k = 1 then some f else none
  | .bi _ f g, k => if k = 1 then some f else if k = 2 then some g else none
  | _, _ => none
theorem at_cons {t u : Wi} {k : Int} {q : List Int} (h : t.at (k :: q) = some u) : ∃ f, t.kid k = some f ∧ f.at q = some u := by
  cases t with
  | lf x => simp [Wi.at] at h
  | mk i => simp [Wi.at] at h
  | un x f =>
    by_cases c : k = 1
    · subst c; exact ⟨f, by simp [Wi.kid], by simpa [Wi.at] using h⟩
    · simp [Wi.at, c] at h
  | bi x f g =>
    by_cases c : k = 1
    · subst c; exact ⟨f, by simp [Wi.kid], by simpa [Wi.at] using h⟩
    · by_cases c2 : k = 2
      · subst c2; exact ⟨g, by simp [Wi.kid], by simpa [Wi.at] using h⟩
      · simp [Wi.at, c, c2] at h
theorem kid_at {t f : Wi} {k : Int} {q : List Int} (h : t.kid k = some f) : t.at (k :: q) = f.at q := by
  cases t with
  | lf x => simp [Wi.kid] at h
  | mk i => simp [Wi.kid] at h
  | un x g =>
    by_cases c : k = 1
    · subst c; simp [Wi.kid] at h; subst h; simp [Wi.at]
    · simp [Wi.kid, c] at h
  | bi x a b =>
    by_cases c : k = 1
    · subst c; simp [Wi.kid] at h; subst h; simp [Wi.at]
    · by_cases c2 : k = 2
      · subst c2; simp [Wi.kid] at h; subst h; simp [Wi.at]
      · simp [Wi.kid, c, c2] at h
theorem mem_at (t : Wi) : ∀ q ∈ Wi.pieces [] t, t.at q.1 = some q.2 := by
  induction t with
  | lf x => intro q h; simp [Wi.pieces] at h; subst h; rfl
  | mk i => intro q h; simp [Wi.pieces] at h; subst h; rfl
  | un x f ih =>
    intro q h
    simp only [Wi.pieces, List.nil_append, List.mem_cons] at h
    rcases h with rfl | h
    · rfl
    · rw [pieces_pre f [1]] at h
      obtain ⟨r, hr, rfl⟩ := List.mem_map.mp h
      simpa [Wi.at] using ih r hr
  | bi x f g ih ih2 =>
    intro q h
    simp only [Wi.pieces, List.nil_append, List.mem_cons, List.mem_append] at h
    rcases h with rfl | h | h
    · rfl
    · rw [pieces_pre f [1]] at h
      obtain ⟨r, hr, rfl⟩ := List.mem_map.mp h
      simpa [Wi.at] using ih r hr
    · rw [pieces_pre g [2]] at h
      obtain ⟨r, hr, rfl⟩ := List.mem_map.mp h
      simpa [Wi.at] using ih2 r hr
structure KidOk (t f : Wi) (k : Int) : Prop where
  ok : f.ok
  lt : f.size < t.size
  ix : ∀ w, gIx (.dat t.d) (.dat (.int k)) w = some (.dat f.d)
  nm : t.word ≠ "mark"
  lo : 1 ≤ k
  hi : ∀ w, ∃ n : Int, gLen (.dat t.d) w = some (.dat (.int n)) ∧ k ≤ n - 1
theorem kid_ok {t f : Wi} {k : Int} (ho : t.ok) (h : t.kid k = some f) : KidOk t f k := by
  cases t with
  | lf x => simp [Wi.kid] at h
  | mk i => simp [Wi.kid] at h
  | un x g =>
    by_cases c : k = 1
    · subst c; simp [Wi.kid] at h; subst h
      exact ⟨ho.2, by simp [Wi.size], fun w => by simp [gIx, toD, itemsD, Wi.d, atD1], fun e => by rcases one_cases ho.1 with z | z | z | z <;> rw [show (Wi.un x g).word = x from rfl, z] at e <;> exact absurd e (by decide), by omega, fun w => ⟨2, by simp [gLen, toD, lenD, Wi.d], by omega⟩⟩
    · simp [Wi.kid, c] at h
  | bi x a b =>
    have nm : (Wi.bi x a b).word ≠ "mark" := fun e => by rcases two_cases ho.1 with z | z | z <;> rw [show (Wi.bi x a b).word = x from rfl, z] at e <;> exact absurd e (by decide)
    by_cases c : k = 1
    · subst c; simp [Wi.kid] at h; subst h
      exact ⟨ho.2.1, by simp [Wi.size]; omega, fun w => by simp [gIx, toD, itemsD, Wi.d, atD1], nm, by omega, fun w => ⟨3, by simp [gLen, toD, lenD, Wi.d], by omega⟩⟩
    · by_cases c2 : k = 2
      · subst c2; simp [Wi.kid] at h; subst h
        exact ⟨ho.2.2, by simp [Wi.size]; omega, fun w => by simp [gIx, toD, itemsD, Wi.d, atD2], nm, by omega, fun w => ⟨3, by simp [gLen, toD, lenD, Wi.d], by omega⟩⟩
      · simp [Wi.kid, c, c2] at h
theorem at_ok : ∀ {p : List Int} {t u : Wi}, t.ok → t.at p = some u → u.ok ∧ u.size ≤ t.size
  | [], t, u, ho, h => by
    have : some t = some u := by cases t <;> simpa [Wi.at] using h
    cases this; exact ⟨ho, Nat.le_refl _⟩
  | k :: q, t, u, ho, h => by
    obtain ⟨f, h1, h2⟩ := at_cons h
    have K := kid_ok ho h1
    have := at_ok K.ok h2
    exact ⟨this.1, by have := K.lt; omega⟩
theorem nil_at {t u : Wi} (h : t.at [] = some u) : t = u := by cases t <;> simpa [Wi.at] using h
/-- a loop along a path -/
theorem path_loop {body : Env → Mo Out} {w : Sto} {j : Nat} (S : Env → Wi → Nat → Prop) (st : ∀ ρ t f k c, S ρ t c → t.ok → t.kid k = some f → Ok (mBind (mSet j (.int k) ρ) body) w (fun o w' => w' = w ∧ ∃ ρ', o = .nx ρ' ∧ S ρ' f (c + if t.word = "no" then 1 else 0))) :
    ∀ {p : List Int} {t u : Wi} {ρ : Env} {c : Nat}, S ρ t c → t.ok → t.at p = some u → ∃ ρ' c', forL (mSet j) body (p.map .int) ρ w = some (.ok (.nx ρ'), w) ∧ S ρ' u c'
  | [], t, u, ρ, c, hS, ho, h => by
    cases nil_at h
    exact ⟨ρ, c, rfl, hS⟩
  | k :: q, t, u, ρ, c, hS, ho, h => by
    obtain ⟨f, h1, h2⟩ := at_cons h
    obtain ⟨o, w1, e, rfl, ρ1, rfl, hS1⟩ := st ρ t f k c hS ho h1
    obtain ⟨ρ', c', e2, hS2⟩ := path_loop S st (p := q) hS1 (kid_ok ho h1).ok h2
    refine ⟨ρ', c', ?_, hS2⟩
    show forL _ _ (.int k :: q.map .int) _ _ = _
    unfold forL
    obtain ⟨ρ2, w2, g1, g2⟩ := ok_bind e
    rw [mBind_of g1, mBind_of g2]
    exact e2
/-- .. with how many "no" stand around -/
def nos : Wi → List Int → Nat
  | .un x f, k :: q => (if x = "no" then 1 else 0) + (if k = 1 then nos f q else 0)
  | .bi x f g, k :: q => (if x = "no" then 1 else 0) + (if k = 1 then nos f q else nos g q)
  | _, _ => 0
theorem nos_kid {t f : Wi} {k : Int} {q : List Int} (h : t.kid k = some f) : nos t (k :: q) = (if t.word = "no" then 1 else 0) + nos f q := by
  cases t with
  | lf x => simp [Wi.kid] at h
  | mk i => simp [Wi.kid] at h
  | un x g =>
    by_cases c : k = 1
    · subst c; simp [Wi.kid] at h; subst h; by_cases z : x = "no" <;> simp [nos, Wi.word, z]
    · simp [Wi.kid, c] at h
  | bi x a b =>
    by_cases c : k = 1
    · subst c; simp [Wi.kid] at h; subst h; by_cases z : x = "no" <;> simp [nos, Wi.word, z]
    · by_cases c2 : k = 2
      · subst c2; simp [Wi.kid] at h; subst h; by_cases z : x = "no" <;> simp [nos, Wi.word, z]
      · simp [Wi.kid, c, c2] at h
/-- the same, the count told -/
theorem count_loop {body : Env → Mo Out} {w : Sto} {j : Nat} (S : Env → Wi → Nat → Prop) (st : ∀ ρ t f k c, S ρ t c → t.ok → t.kid k = some f → ∃ ρ', mBind (mSet j (.int k) ρ) body w = some (.ok (.nx ρ'), w) ∧ S ρ' f (c + if t.word = "no" then 1 else 0)) :
    ∀ {p : List Int} {t u : Wi} {ρ : Env} {c : Nat}, S ρ t c → t.ok → t.at p = some u → ∃ ρ', forL (mSet j) body (p.map .int) ρ w = some (.ok (.nx ρ'), w) ∧ S ρ' u (c + nos t p)
  | [], t, u, ρ, c, hS, ho, h => by
    cases nil_at h
    refine ⟨ρ, rfl, ?_⟩
    have : nos t [] = 0 := by cases t <;> rfl
    rw [this]
    exact hS
  | k :: q, t, u, ρ, c, hS, ho, h => by
    obtain ⟨f, h1, h2⟩ := at_cons h
    obtain ⟨ρ1, e, hS1⟩ := st ρ t f k c hS ho h1
    obtain ⟨ρ', e2, hS2⟩ := count_loop S st (p := q) hS1 (kid_ok ho h1).ok h2
    refine ⟨ρ', ?_, ?_⟩
    · show forL _ _ (.int k :: q.map .int) _ _ = _
      unfold forL
      obtain ⟨ρ2, w2, g1, g2⟩ := ok_bind e
      rw [mBind_of g1, mBind_of g2]
      exact e2
    · rw [nos_kid h1, ← Nat.add_assoc]
      exact hS2
theorem tupI {i : Nat} {ρ : Env} {w : Sto} {p : List Int} (h : ρ[i]? = some (some (.dat (pathD p)))) : mItemsT (mV i) ρ w = some (.ok (p.map .int), w) := by
  unfold mItemsT
  rw [mBind_of (mV_of h)]
  rfl
theorem is_path_ok {t u : Wi} {p : List Int} (ho : t.ok) (h : t.at p = some u) (w : Sto) : gis_path [.dat t.d, .dat (pathD p)] w = some (.ok (.dat (.bool true)), w) := by
  obtain ⟨ρ', e, -⟩ := count_loop (body := bis_path0) (w := w) (j := 3) (fun ρ v _ => ∃ z, ρ = [some (.dat t.d), some (.dat (pathD p)), some (.dat v.d), z]) (fun ρ v f k c hS hv hk => by
    obtain ⟨z, rfl⟩ := hS
    have K := kid_ok hv hk
    obtain ⟨n, hn, hkn⟩ := K.hi w
    refine ⟨[some (.dat t.d), some (.dat (pathD p)), some (.dat f.d), some (.dat (.int k))], ?_, _, rfl⟩
    show bis_path0 [some (.dat t.d), some (.dat (pathD p)), some (.dat v.d), some (.dat (.int k))] w = _
    unfold bis_path0
    refine (mSeq_nx (ρ1 := [some (.dat t.d), some (.dat (pathD p)), some (.dat v.d), some (.dat (.int k))]) (w1 := w) ?_).trans ?_
    · have t1 : mTB (mBin (mBin (mV 2) (mC (.int 0)) gIx) (mC (.str "mark")) gEq) [some (.dat t.d), some (.dat (pathD p)), some (.dat v.d), some (.dat (.int k))] w = some (.ok false, w) := by
        have := mTB_of (eq_word (x := "mark") (t := v) (i := 2) (ρ := [some (.dat t.d), some (.dat (pathD p)), some (.dat v.d), some (.dat (.int k))]) (w := w) rfl)
        rw [this]
        simp [K.nm]
      have t2 : mTB (mCall gis_number (mCons (mV 3) (mCons (mC (.int 1)) (mCons (mBin (mUn (mV 2) gLen) (mC (.int 1)) gSub) mNil)))) [some (.dat t.d), some (.dat (pathD p)), some (.dat v.d), some (.dat (.int k))] w = some (.ok true, w) := by
        refine mTB_of ((mCall_of (mCons_of (mV_of rfl) (mCons_of (x := .dat (.int 1)) rfl (mCons_of (mBin_of (mUn_of (mV_of rfl) hn) (y := .dat (.int 1)) rfl (v := .dat (.int (n - 1))) rfl) rfl)))).trans ?_)
        rw [number_ok]
        simp [K.lo, hkn]
      rw [mIfS_of (k := false)]
      · rfl
      · show mBind (mTB (mBin (mBin (mV 2) (mC (.int 0)) gIx) (mC (.str "mark")) gEq) _) (fun c => if c then mPure true else mNot (mTB (mCall gis_number _)) _) w = _
        rw [mBind_of t1]
        show mBind (mTB (mCall gis_number _) _) (fun c => mPure (!c)) w = _
        rw [mBind_of t2]
        rfl
    · exact mAsg_of (mBin_of (mV_of rfl) (mV_of rfl) (K.ix w))) (p := p) (t := t) (u := u) (c := 0) ⟨none, rfl⟩ ho h
  refine def_dat (w' := []) ?_
  rw [List.append_nil]
  show mis_path [some (.dat t.d), some (.dat (pathD p)), none, none] w = _
  unfold mis_path
  refine (mSeq_nx (ρ1 := [some (.dat t.d), some (.dat (pathD p)), none, none]) (w1 := w) ?_).trans ?_
  · simp [mIfS, mNot, mTB, mBind, mUn, mV, gIsi, toD, pathD, tyD, isT, mPure, mSkip]
  refine (mSeq_nx (ρ1 := [some (.dat t.d), some (.dat (pathD p)), some (.dat t.d), none]) (w1 := w) (mAsg_of (mV_of rfl))).trans ?_
  refine (mSeq_nx ((mFor_of (tupI rfl)).trans e)).trans ?_
  rfl
theorem drop_of {m : Env → Mo SV} {ρ : Env} {w w1 : Sto} {v : SV} (h : m ρ w = some (.ok v, w1)) : mDrop m ρ w = some (.ok (.nx ρ), w1) := by
  unfold mDrop
  rw [mBind_of h]
  rfl
theorem need_path_ok {c : Cs} {t u : Wi} {p : List Int} (ho : t.ok) (h1 : t.size ≤ 12) (h2 : t.tm ≤ 5) (h : t.at p = some u) (w : Sto) : gneed_path c [.dat t.d, .dat (pathD p)] w = some (.ok (.dat (pathD p)), w) := by
  refine def_dat (w' := []) ?_
  rw [List.append_nil]
  show mneed_path c [some (.dat t.d), some (.dat (pathD p))] w = _
  unfold mneed_path
  refine (mSeq_nx (drop_of ((mCall_of (mCons_of (mV_of rfl) rfl)).trans (need_ok ho h1 h2 w)))).trans ?_
  refine (mSeq_nx (ρ1 := [some (.dat t.d), some (.dat (pathD p))]) (w1 := w) ?_).trans (mRet_dat (mV_of rfl))
  rw [mIfS_of (k := false)]
  · rfl
  · show mBind (mTB (mCall gis_path _) _) (fun c => mPure (!c)) w = _
    rw [mBind_of (mTB_of ((mCall_of (mCons_of (mV_of rfl) (mCons_of (mV_of rfl) rfl))).trans (is_path_ok ho h w)))]
    rfl
theorem part_at_ok {c : Cs} {t u : Wi} {p : List Int} (ho : t.ok) (h1 : t.size ≤ 12) (h2 : t.tm ≤ 5) (h : t.at p = some u) (w : Sto) : gpart_at c [.dat t.d, .dat (pathD p)] w = some (.ok (.dat u.d), w) := by
  obtain ⟨ρ', e, z, rfl⟩ := count_loop (body := bpart_at0 c) (w := w) (j := 3) (fun ρ v _ => ∃ z, ρ = [some (.dat t.d), some (.dat (pathD p)), some (.dat v.d), z]) (fun ρ v f k c0 hS hv hk => by
    obtain ⟨z, rfl⟩ := hS
    exact ⟨[some (.dat t.d), some (.dat (pathD p)), some (.dat f.d), some (.dat (.int k))], mAsg_of (mBin_of (mV_of rfl) (mV_of rfl) ((kid_ok hv hk).ix w)), _, rfl⟩) (p := p) (t := t) (u := u) (c := 0) ⟨none, rfl⟩ ho h
  refine def_dat (w' := []) ?_
  rw [List.append_nil]
  show mpart_at c [some (.dat t.d), some (.dat (pathD p)), none, none] w = _
  unfold mpart_at
  refine (mSeq_nx (drop_of ((mCall_of (mCons_of (mV_of rfl) (mCons_of (mV_of rfl) rfl))).trans (need_path_ok ho h1 h2 h w)))).trans ?_
  refine (mSeq_nx (ρ1 := [some (.dat t.d), some (.dat (pathD p)), some (.dat t.d), none]) (w1 := w) (mAsg_of (mV_of rfl))).trans ?_
  exact (mSeq_nx ((mFor_of (tupI rfl)).trans e)).trans (mRet_dat (mV_of rfl))
/-! ### signs -/
def evenB (t : Wi) (p : List Int) : Bool := decide ((nos t p : Int) % 2 = 0)
theorem is_plain_ok {c : Cs} {t u : Wi} {p : List Int} (ho : t.ok) (h1 : t.size ≤ 12) (h2 : t.tm ≤ 5) (h : t.at p = some u) (w : Sto) : gis_plain c [.dat t.d, .dat (pathD p)] w = some (.ok (.dat (.bool (evenB t p))), w) := by
  obtain ⟨ρ', e, z, rfl⟩ := count_loop (body := bis_plain0 c) (w := w) (j := 4) (fun ρ v n => ∃ z, ρ = [some (.dat t.d), some (.dat (pathD p)), some (.dat (.int (n : Nat))), some (.dat v.d), z]) (fun ρ v f k n hS hv hk => by
    obtain ⟨z, rfl⟩ := hS
    refine ⟨[some (.dat t.d), some (.dat (pathD p)), some (.dat (.int ((n + if v.word = "no" then 1 else 0 : Nat)))), some (.dat f.d), some (.dat (.int k))], ?_, _, rfl⟩
    show bis_plain0 c [some (.dat t.d), some (.dat (pathD p)), some (.dat (.int (n : Nat))), some (.dat v.d), some (.dat (.int k))] w = _
    unfold bis_plain0
    refine (mSeq_nx (ρ1 := [some (.dat t.d), some (.dat (pathD p)), some (.dat (.int ((n + if v.word = "no" then 1 else 0 : Nat)))), some (.dat v.d), some (.dat (.int k))]) (w1 := w) ?_).trans (mAsg_of (mBin_of (mV_of rfl) (mV_of rfl) ((kid_ok hv hk).ix w)))
    rw [mIfS_of (mTB_of (eq_word (x := "no") (t := v) rfl))]
    by_cases q : v.word = "no"
    · simp [q, mAugI, mBind, mC, mPure]
    · simp [q, mSkip, mPure]) (p := p) (t := t) (u := u) (c := 0) ⟨none, rfl⟩ ho h
  rw [Nat.zero_add] at e
  refine def_dat (w' := []) ?_
  rw [List.append_nil]
  show mis_plain c [some (.dat t.d), some (.dat (pathD p)), none, none, none] w = _
  unfold mis_plain
  refine (mSeq_nx (drop_of ((mCall_of (mCons_of (mV_of rfl) (mCons_of (mV_of rfl) rfl))).trans (need_path_ok ho h1 h2 h w)))).trans ?_
  refine (mSeq_nx (ρ1 := [some (.dat t.d), some (.dat (pathD p)), some (.dat (.int 0)), none, none]) (w1 := w) (mAsg_of rfl)).trans ?_
  refine (mSeq_nx (ρ1 := [some (.dat t.d), some (.dat (pathD p)), some (.dat (.int 0)), some (.dat t.d), none]) (w1 := w) (mAsg_of (mV_of rfl))).trans ?_
  refine (mSeq_nx ((mFor_of (tupI rfl)).trans e)).trans (mRet_dat ?_)
  refine mBin_of (mBin_of (mV_of rfl) (y := .dat (.int 2)) rfl (v := .dat (.int ((nos t p : Int) % 2))) ?_) (y := .dat (.int 0)) rfl ?_
  · simp [gI]
  · simp [gEq, toD, eqDD, SeqAt.shaped, PyData.canLay0, PyData.depth, PyData.eqv, evenB]; rfl
theorem law_even_ok {t u : Wi} {p : List Int} (ho : t.ok) (h : t.at p = some u) (w : Sto) : g_law_is_even [.dat t.d, .dat (pathD p)] w = some (.ok (.dat (.bool (evenB t p))), w) := by
  obtain ⟨ρ', e, z, rfl⟩ := count_loop (body := b_law_is_even0) (w := w) (j := 3) (fun ρ v n => ∃ z, ρ = [some (.dat v.d), some (.dat (pathD p)), some (.dat (.int (n : Nat))), z]) (fun ρ v f k n hS hv hk => by
    obtain ⟨z, rfl⟩ := hS
    refine ⟨[some (.dat f.d), some (.dat (pathD p)), some (.dat (.int ((n + if v.word = "no" then 1 else 0 : Nat)))), some (.dat (.int k))], ?_, _, rfl⟩
    show b_law_is_even0 [some (.dat v.d), some (.dat (pathD p)), some (.dat (.int (n : Nat))), some (.dat (.int k))] w = _
    unfold b_law_is_even0
    refine (mSeq_nx (ρ1 := [some (.dat v.d), some (.dat (pathD p)), some (.dat (.int ((n + if v.word = "no" then 1 else 0 : Nat)))), some (.dat (.int k))]) (w1 := w) ?_).trans (mAsg_of (mBin_of (mV_of rfl) (mV_of rfl) ((kid_ok hv hk).ix w)))
    refine mAsg_of (mBin_of (mV_of rfl) (mUn_of (eq_word (x := "no") (t := v) rfl) (v := .dat (.int (if v.word = "no" then 1 else 0))) ?_) ?_)
    · by_cases q : v.word = "no" <;> simp [gInt, q]
    · by_cases q : v.word = "no" <;> simp [gI, q]) (p := p) (t := t) (u := u) (c := 0) ⟨none, rfl⟩ ho h
  rw [Nat.zero_add] at e
  refine def_dat (w' := []) ?_
  rw [List.append_nil]
  show m_law_is_even [some (.dat t.d), some (.dat (pathD p)), none, none] w = _
  unfold m_law_is_even
  refine (mSeq_nx (ρ1 := [some (.dat t.d), some (.dat (pathD p)), some (.dat (.int 0)), none]) (w1 := w) (mAsg_of rfl)).trans ?_
  refine (mSeq_nx ((mFor_of (tupI rfl)).trans e)).trans (mRet_dat ?_)
  refine mBin_of (mBin_of (mUn_of (mV_of rfl) (v := .dat (.int (nos t p : Nat))) rfl) (y := .dat (.int 2)) rfl (v := .dat (.int ((nos t p : Int) % 2))) ?_) (y := .dat (.int 0)) rfl ?_
  · simp [gI]
  · simp [gEq, toD, eqDD, SeqAt.shaped, PyData.canLay0, PyData.depth, PyData.eqv, evenB]; rfl
/-! ### another part put in -/
def Wi.put : Wi → List Int → Wi → Wi
  | _, [], r => r
  | .un x f, _ :: q, r => .un x (f.put q r)
  | .bi x f g, k :: q, r => if k = 1 then .bi x (f.put q r) g else .bi x f (g.put q r)
  | t, _ :: _, _ => t
theorem path_nil {i : Nat} {ρ : Env} {w : Sto} {p : List Int} (h : ρ[i]? = some (some (.dat (pathD p)))) : mTB (mBin (mV i) (mTup mNil) gEq) ρ w = some (.ok (decide (p = [])), w) := by
  refine mTB_of (mBin_of (mV_of h) (y := .dat (.tuple [])) (by simp [mTup, mNil, mBind, mPure, fzs, fits_of]) ?_)
  have := eqDD_path (p := p) (q := [])
  simp only [gEq, toD]
  rw [show (PyData.tuple []) = pathD [] from rfl, this]
  rfl
theorem path_tail {i : Nat} {ρ : Env} {w : Sto} {k : Int} {q : List Int} (h : ρ[i]? = some (some (.dat (pathD (k :: q))))) : mCut (mV i) (mPart (mC (.int 1))) mNoP ρ w = some (.ok (.dat (pathD q)), w) := by
  simp [mCut, mBind, mV, h, mPart, mC, mPure, mNoP, gCut, pathD, cut1]
theorem path_head {i : Nat} {ρ : Env} {w : Sto} {k : Int} {q : List Int} (h : ρ[i]? = some (some (.dat (pathD (k :: q))))) : mBin (mV i) (mC (.int 0)) gIx ρ w = some (.ok (.dat (.int k)), w) :=
  mBin_of (mV_of h) (y := .dat (.int 0)) rfl (by simp [gIx, toD, itemsD, pathD, atD0])
/-- wish[:k] + (x,) + wish[k + 1:] -/
theorem splice {t f r : Wi} {k : Int} {q : List Int} (hk : t.kid k = some f) {ρ : Env} {w : Sto} {i j : Nat} {x : Env → Mo SV} (h1 : ρ[i]? = some (some (.dat t.d))) (h2 : ρ[j]? = some (some (.dat (.int k)))) (hx : x ρ w = some (.ok (.dat (f.put q r).d), w)) :
    mBin (mBin (mCut (mV i) mNoP (mPart (mV j))) (mTup (mCons x mNil)) gCat) (mCut (mV i) (mPart (mBin (mV j) (mC (.int 1)) gAdd)) mNoP) gCat ρ w = some (.ok (.dat (t.put (k :: q) r).d), w) := by
  have c1 : ∀ ds, t.d = .tuple ds → mCut (mV i) mNoP (mPart (mV j)) ρ w = some (.ok (.dat (.tuple (cutD ds none (some k)))), w) := fun ds e => by
    simp [mCut, mBind, mV, h1, h2, mPart, mPure, mNoP, gCut, e]
  have c2 : ∀ ds, t.d = .tuple ds → mCut (mV i) (mPart (mBin (mV j) (mC (.int 1)) gAdd)) mNoP ρ w = some (.ok (.dat (.tuple (cutD ds (some (k + 1)) none))), w) := fun ds e => by
    simp [mCut, mBind, mV, h1, h2, mPart, mPure, mNoP, gCut, e, mBin, mC, gI]
  have cl : ∀ (ds : List PyData) a b, (cutD ds a b).length ≤ ds.length := fun ds a b => by
    unfold cutD
    rw [List.length_take, List.length_drop]
    omega
  have fin : ∀ ds, t.d = .tuple ds → ds.length ≤ 3 → (t.put (k :: q) r).d = .tuple (cutD ds none (some k) ++ [(f.put q r).d] ++ cutD ds (some (k + 1)) none) →
      mBin (mBin (mCut (mV i) mNoP (mPart (mV j))) (mTup (mCons x mNil)) gCat) (mCut (mV i) (mPart (mBin (mV j) (mC (.int 1)) gAdd)) mNoP) gCat ρ w = some (.ok (.dat (t.put (k :: q) r).d), w) := fun ds e hl e2 => by
    rw [e2]
    have a1 := cl ds none (some k)
    have a2 := cl ds (some (k + 1)) none
    refine mBin_of (mBin_of (c1 ds e) (tup1 hx) (cat_tup (by simp; omega) _)) (c2 ds e) (cat_tup (by simp; omega) _)
  cases t with
  | lf x => simp [Wi.kid] at hk
  | mk i => simp [Wi.kid] at hk
  | un y g =>
    by_cases c : k = 1
    · subst c; simp [Wi.kid] at hk; subst hk
      exact fin [.str y, g.d] rfl (by simp) (by simp [Wi.put, Wi.d, cutD, HT.sIx])
    · simp [Wi.kid, c] at hk
  | bi y a b =>
    by_cases c : k = 1
    · subst c; simp [Wi.kid] at hk; subst hk
      exact fin [.str y, a.d, b.d] rfl (by simp) (by simp [Wi.put, Wi.d, cutD, HT.sIx])
    · by_cases c2 : k = 2
      · subst c2; simp [Wi.kid] at hk; subst hk
        exact fin [.str y, a.d, b.d] rfl (by simp) (by simp [Wi.put, Wi.d, cutD, HT.sIx])
      · simp [Wi.kid, c, c2] at hk
theorem with_ok : ∀ (n : Nat) {p : List Int} {t u r : Wi}, t.ok → t.at p = some u → p.length < n → ∀ w, recG ["hope", "path", "part", "place"] (m_law_with) n [.dat t.d, .dat (pathD p), .dat r.d] w = some (.ok (.dat (t.put p r).d), w)
  | 0, p, t, u, r, _, _, h, _ => by omega
  | n + 1, p, t, u, r, ho, h, hl, w => by
    refine def_dat (w' := []) ?_
    rw [List.append_nil]
    show m_law_with _ [some (.dat t.d), some (.dat (pathD p)), some (.dat r.d), none] w = _
    unfold m_law_with
    cases p with
    | nil =>
      have : mIfS (mTB (mBin (mV 1) (mTup mNil) gEq)) (mRet (mV 2)) mSkip [some (.dat t.d), some (.dat (pathD [])), some (.dat r.d), none] w = some (.ok (.rt (.dat r.d)), w) := by
        rw [mIfS_of (path_nil rfl)]
        exact mRet_dat (mV_of rfl)
      unfold mSeq
      rw [mBind_of this]
      cases t <;> rfl
    | cons k q =>
      obtain ⟨f, h1, h2⟩ := at_cons h
      refine (mSeq_nx (ρ1 := [some (.dat t.d), some (.dat (pathD (k :: q))), some (.dat r.d), none]) (w1 := w) ?_).trans ?_
      · rw [mIfS_of (path_nil rfl)]
        rfl
      refine (mSeq_nx (ρ1 := [some (.dat t.d), some (.dat (pathD (k :: q))), some (.dat r.d), some (.dat (.int k))]) (w1 := w) (mAsg_of (path_head rfl))).trans ?_
      refine mRet_dat (splice h1 rfl rfl ?_)
      refine (mCall_of (mCons_of (mBin_of (mV_of rfl) (mV_of rfl) ((kid_ok ho h1).ix w)) (mCons_of (path_tail rfl) (mCons_of (mV_of rfl) rfl)))).trans ?_
      exact with_ok n (kid_ok ho h1).ok h2 (by simp at hl; omega) w
theorem put_ok : ∀ (n : Nat) {p : List Int} {t u r : Wi}, t.ok → t.at p = some u → p.length < n → ∀ w, recG ["wish", "path", "part", "place", "inner"] (mput_at) n [.dat t.d, .dat (pathD p), .dat r.d] w = some (.ok (.dat (t.put p r).d), w)
  | 0, p, t, u, r, _, _, h, _ => by omega
  | n + 1, p, t, u, r, ho, h, hl, w => by
    refine def_dat (w' := []) ?_
    rw [List.append_nil]
    show mput_at _ [some (.dat t.d), some (.dat (pathD p)), some (.dat r.d), none, none] w = _
    unfold mput_at
    cases p with
    | nil =>
      have : mIfS (mTB (mBin (mV 1) (mTup mNil) gEq)) (mRet (mV 2)) mSkip [some (.dat t.d), some (.dat (pathD [])), some (.dat r.d), none, none] w = some (.ok (.rt (.dat r.d)), w) := by
        rw [mIfS_of (path_nil rfl)]
        exact mRet_dat (mV_of rfl)
      unfold mSeq
      rw [mBind_of this]
      cases t <;> rfl
    | cons k q =>
      obtain ⟨f, h1, h2⟩ := at_cons h
      refine (mSeq_nx (ρ1 := [some (.dat t.d), some (.dat (pathD (k :: q))), some (.dat r.d), none, none]) (w1 := w) ?_).trans ?_
      · rw [mIfS_of (path_nil rfl)]
        rfl
      refine (mSeq_nx (ρ1 := [some (.dat t.d), some (.dat (pathD (k :: q))), some (.dat r.d), some (.dat (.int k)), none]) (w1 := w) (mAsg_of (path_head rfl))).trans ?_
      refine (mSeq_nx (ρ1 := [some (.dat t.d), some (.dat (pathD (k :: q))), some (.dat r.d), some (.dat (.int k)), some (.dat (f.put q r).d)]) (w1 := w) (mAsg_of ?_)).trans ?_
      · refine (mCall_of (mCons_of (mBin_of (mV_of rfl) (mV_of rfl) ((kid_ok ho h1).ix w)) (mCons_of (path_tail rfl) (mCons_of (mV_of rfl) rfl)))).trans ?_
        exact put_ok n (kid_ok ho h1).ok h2 (by simp at hl; omega) w
      · exact mRet_dat (splice h1 rfl rfl (mV_of rfl))
end K03
end EG


set_option Elab.async false
set_option linter.all false
set_option maxRecDepth 100000
set_option maxHeartbeats 1000000
namespace EG
open PySem PySem.Spec PyProof.Rows L2
namespace K03
theorem def_len {N : List Str} {m : Env → Mo Out} {xs : List SV} {w w1 : Sto} {d : PyData} (h : m (startE N xs) w = some (.ok (.rt (.dat d)), w1)) (hl : w1.length = w.length) : mDef N m xs w = some (.ok (.dat d), w1) := by
  show endO w.length (m (startE N xs) w) = _
  rw [h]
  simp only [endO]
  rw [List.take_of_length_le (by omega)]
theorem nil_of {ρ : Env} {w : Sto} : mNil ρ w = some (.ok [], w) := rfl
section
variable {k : Nat} {cs : List Int}
theorem dr (hl : cs.length = 64) {w : Sto} {gs : List Int} {n : Int} (hk : w[k]? = some (.draw cs gs n)) (h0 : 0 ≤ n) (h1 : n ≤ 900000) {ρ : Env} {i : Nat} (hm : ρ[i]? = some (some (.obj k))) {X : Env → Mo SV} {L : Int} (hX : X ρ w = some (.ok (.dat (.int L)), w)) (l0 : 0 < L) (l1 : L < 1073741824) :
    ∃ (r : Int) (gs' : List Int), 0 ≤ r ∧ r < L ∧ mCall g_law_draw (mCons (mV i) (mCons X mNil)) ρ w = some (.ok (.dat (.int r)), w.set k (.draw cs gs' (n + 1))) := by
  obtain ⟨r, gs', r0, r1, e⟩ := draw_ok hk hl h0 h1 l0 l1
  exact ⟨r, gs', r0, r1, (mCall_of (mCons_of (mV_of hm) (mCons_of hX rfl))).trans e⟩
theorem at_set {w : Sto} {gs gs' : List Int} {n n' : Int} (hk : w[k]? = some (.draw cs gs n)) : (w.set k (.draw cs gs' n'))[k]? = some (.draw cs gs' n') := List.getElem?_set_self (List.getElem?_eq_some_iff.mp hk).1
theorem set2 {w : Sto} {a b : SO} : (w.set k a).set k b = w.set k b := by simp
def HopeOk (g : Fn) (k : Nat) (cs : List Int) (left timed : Nat) : Prop := ∀ (w : Sto) (gs : List Int) (n : Int), w[k]? = some (.draw cs gs n) → 0 ≤ n → n + 8 * left ≤ 900000 →
  ∃ (t : Wi) (gs' : List Int) (n' : Int), g [.obj k, .dat (.int left), .dat (.int timed)] w = some (.ok (.dat t.d), w.set k (.draw cs gs' n')) ∧ t.ok ∧ t.size ≤ left ∧ t.tm ≤ timed ∧ n ≤ n' ∧ n' ≤ n + 8 * left
theorem lst_at {ds : List PyData} {i : Int} {x : PyData} {a : Env → Mo SV} {b : Env → Mo SV} {ρ : Env} {w w1 w2 : Sto} (ha : a ρ w = some (.ok (.dat (.list ds)), w1)) (hb : b ρ w1 = some (.ok (.dat (.int i)), w2)) (h : atD ds i = some x) : mBin a b gIx ρ w = some (.ok (.dat x), w2) :=
  mBin_of ha hb (by simp [gIx, toD, itemsD, h])
theorem lst_strs {l : List Str} {es : Env → Mo (List SV)} {ρ : Env} {w : Sto} (h : es ρ w = some (.ok (l.map fun x => .dat (.str x)), w)) (hl : l.length ≤ 900) : mLst es ρ w = some (.ok (.dat (.list (l.map .str))), w) := by
  unfold mLst
  rw [mBind_of h]
  have : ∀ (l : List Str) (w : Sto), fzs (l.map fun x => SV.dat (.str x)) w = some (l.map .str, w) := fun l => by
    induction l with
    | nil => intro w; rfl
    | cons a r ih => intro w; simp [fzs, fz1, ih]
  have f : fitsN (l.map PyData.str).length = true := fits_of (by simp; omega)
  simp only [this, f, if_true]
/-- a leaf -/
theorem hope_leaf (hl : cs.length = 64) {w : Sto} {gs : List Int} {n : Int} (hk : w[k]? = some (.draw cs gs n)) (h0 : 0 ≤ n) (h1 : n + 2 ≤ 900000) {a b p x y z : Option SV} :
    ∃ (t : Wi) (gs' : List Int) (n' : Int), mSeq (mAsg 4 (mCall g_law_draw (mCons (mV 0) (mCons (mC (.int 5)) mNil))))
      (mRet (mIf (mTB (mBin (mV 4) (mC (.int 2)) gLt)) (mTup (mCons (mC (.str "mark")) (mCons (mCall g_law_draw (mCons (mV 0) (mCons (mC (.int 2)) mNil))) mNil))) (mBin (mLst (mCons (mTup (mCons (mC (.str "mark")) (mCons (mC (.int 2)) mNil))) (mCons (mTup (mCons (mC (.str "true")) mNil)) (mCons (mTup (mCons (mC (.str "false")) mNil)) mNil)))) (mBin (mV 4) (mC (.int 2)) gSub) gIx)))
      [some (.obj k), a, b, p, x, y, z] w = some (.ok (.rt (.dat t.d)), w.set k (.draw cs gs' n')) ∧ t.ok ∧ t.size = 1 ∧ t.tm = 0 ∧ n ≤ n' ∧ n' ≤ n + 2 := by
  obtain ⟨r, g1, r0, r1, e1⟩ := dr hl hk h0 (by omega) (ρ := [some (.obj k), a, b, p, x, y, z]) (i := 0) rfl (X := mC (.int 5)) (L := 5) rfl (by omega) (by omega)
  have hk1 := at_set (gs' := g1) (n' := n + 1) hk
  have go : ∀ t : Wi, ∀ gs' n', mIf (mTB (mBin (mV 4) (mC (.int 2)) gLt)) (mTup (mCons (mC (.str "mark")) (mCons (mCall g_law_draw (mCons (mV 0) (mCons (mC (.int 2)) mNil))) mNil))) (mBin (mLst (mCons (mTup (mCons (mC (.str "mark")) (mCons (mC (.int 2)) mNil))) (mCons (mTup (mCons (mC (.str "true")) mNil)) (mCons (mTup (mCons (mC (.str "false")) mNil)) mNil)))) (mBin (mV 4) (mC (.int 2)) gSub) gIx)
      [some (.obj k), a, b, p, some (.dat (.int r)), y, z] (w.set k (.draw cs g1 (n + 1))) = some (.ok (.dat t.d), w.set k (.draw cs gs' n')) → t.ok → t.size = 1 → t.tm = 0 → n ≤ n' → n' ≤ n + 2 →
      ∃ (t : Wi) (gs' : List Int) (n' : Int), mSeq (mAsg 4 (mCall g_law_draw (mCons (mV 0) (mCons (mC (.int 5)) mNil))))
      (mRet (mIf (mTB (mBin (mV 4) (mC (.int 2)) gLt)) (mTup (mCons (mC (.str "mark")) (mCons (mCall g_law_draw (mCons (mV 0) (mCons (mC (.int 2)) mNil))) mNil))) (mBin (mLst (mCons (mTup (mCons (mC (.str "mark")) (mCons (mC (.int 2)) mNil))) (mCons (mTup (mCons (mC (.str "true")) mNil)) (mCons (mTup (mCons (mC (.str "false")) mNil)) mNil)))) (mBin (mV 4) (mC (.int 2)) gSub) gIx)))
      [some (.obj k), a, b, p, x, y, z] w = some (.ok (.rt (.dat t.d)), w.set k (.draw cs gs' n')) ∧ t.ok ∧ t.size = 1 ∧ t.tm = 0 ∧ n ≤ n' ∧ n' ≤ n + 2 := fun t gs' n' e h2 h3 h4 h5 h6 =>
    ⟨t, gs', n', (mSeq_nx (mAsg_of e1)).trans (mRet_dat e), h2, h3, h4, h5, h6⟩
  have tst : mTB (mBin (mV 4) (mC (.int 2)) gLt) [some (.obj k), a, b, p, some (.dat (.int r)), y, z] (w.set k (.draw cs g1 (n + 1))) = some (.ok (decide (r < 2)), w.set k (.draw cs g1 (n + 1))) := mTB_of (mBin_of (mV_of rfl) (y := .dat (.int 2)) rfl rfl)
  have l3 : mLst (mCons (mTup (mCons (mC (.str "mark")) (mCons (mC (.int 2)) mNil))) (mCons (mTup (mCons (mC (.str "true")) mNil)) (mCons (mTup (mCons (mC (.str "false")) mNil)) mNil))) [some (.obj k), a, b, p, some (.dat (.int r)), y, z] (w.set k (.draw cs g1 (n + 1))) =
      some (.ok (.dat (.list [(Wi.mk 2).d, (Wi.lf "true").d, (Wi.lf "false").d])), w.set k (.draw cs g1 (n + 1))) := by
    simp [mLst, mCons, mNil, mTup, mC, mBind, mPure, fzs, fz1, fits_of, Wi.d]
  have s2 : mBin (mV 4) (mC (.int 2)) gSub [some (.obj k), a, b, p, some (.dat (.int r)), y, z] (w.set k (.draw cs g1 (n + 1))) = some (.ok (.dat (.int (r - 2))), w.set k (.draw cs g1 (n + 1))) := mBin_of (mV_of rfl) (y := .dat (.int 2)) rfl rfl
  by_cases c : r < 2
  · obtain ⟨i, g2, i0, i1, e2⟩ := dr hl hk1 (by omega) (by omega) (ρ := [some (.obj k), a, b, p, some (.dat (.int r)), y, z]) (i := 0) rfl (X := mC (.int 2)) (L := 2) rfl (by omega) (by omega)
    refine go (.mk i) g2 (n + 1 + 1) ?_ ⟨i0, by omega⟩ rfl rfl (by omega) (by omega)
    show mBind (mTB _ _) (fun k => if k then _ else _) _ = _
    rw [mBind_of tst]
    simp only [c, decide_true, if_true]
    rw [tup2 (d := .str "mark") rfl e2]
    simp [Wi.d]
  · have els : ∀ x, mBin (mLst (mCons (mTup (mCons (mC (.str "mark")) (mCons (mC (.int 2)) mNil))) (mCons (mTup (mCons (mC (.str "true")) mNil)) (mCons (mTup (mCons (mC (.str "false")) mNil)) mNil)))) (mBin (mV 4) (mC (.int 2)) gSub) gIx [some (.obj k), a, b, p, some (.dat (.int r)), y, z] (w.set k (.draw cs g1 (n + 1))) = x →
        mIf (mTB (mBin (mV 4) (mC (.int 2)) gLt)) (mTup (mCons (mC (.str "mark")) (mCons (mCall g_law_draw (mCons (mV 0) (mCons (mC (.int 2)) mNil))) mNil))) (mBin (mLst (mCons (mTup (mCons (mC (.str "mark")) (mCons (mC (.int 2)) mNil))) (mCons (mTup (mCons (mC (.str "true")) mNil)) (mCons (mTup (mCons (mC (.str "false")) mNil)) mNil)))) (mBin (mV 4) (mC (.int 2)) gSub) gIx)
      [some (.obj k), a, b, p, some (.dat (.int r)), y, z] (w.set k (.draw cs g1 (n + 1))) = x := fun x e => by
      show mBind (mTB _ _) (fun k => if k then _ else _) _ = _
      rw [mBind_of tst]
      simp only [c, decide_false, Bool.false_eq_true, if_false]
      exact e
    have hr : r = 2 ∨ r = 3 ∨ r = 4 := by omega
    rcases hr with rfl | rfl | rfl
    · exact go (.mk 2) g1 (n + 1) (els _ (lst_at l3 s2 (atD0 _ _))) ⟨by omega, by omega⟩ rfl rfl (by omega) (by omega)
    · exact go (.lf "true") g1 (n + 1) (els _ (lst_at l3 s2 (atD1 _ _ _))) (by simp [Wi.ok, Wi.leafs]) rfl rfl (by omega) (by omega)
    · exact go (.lf "false") g1 (n + 1) (els _ (lst_at l3 s2 (atD2 _ _ _ _))) (by simp [Wi.ok, Wi.leafs]) rfl rfl (by omega) (by omega)
/-- size = 1 + _law_draw(m, left - 2); near = _law_hope(m, size, T); (word, near, _law_hope(m, left - 1 - size, T2)) -/
theorem hope_two {gr : Fn} (hl : cs.length = 64) {left tA tB : Nat} (hL : 3 ≤ left) (hL2 : left ≤ 1000) {timedI : Int} (ih : ∀ l, 1 ≤ l → l < left → ∀ tt, HopeOk gr k cs l tt) {w : Sto} {gs : List Int} {n : Int} (hk : w[k]? = some (.draw cs gs n)) (h0 : 0 ≤ n) (h1 : n + 8 * left ≤ 900000 + 1)
    {p x y z : Option SV} {mA mB : Env → Mo SV} {mW : Env → Mo SV} {fst : Str → Prop}
    (hA : ∀ x y z w, mA [some (.obj k), some (.dat (.int left)), some (.dat (.int timedI)), p, x, y, z] w = some (.ok (.dat (.int tA)), w)) (hB : ∀ x y z w, mB [some (.obj k), some (.dat (.int left)), some (.dat (.int timedI)), p, x, y, z] w = some (.ok (.dat (.int tB)), w))
    (hW : ∀ (x y z : Option SV) (w : Sto) (gs : List Int) (n : Int), w[k]? = some (.draw cs gs n) → 0 ≤ n → n ≤ 900000 → ∃ wd gs' n', mW [some (.obj k), some (.dat (.int left)), some (.dat (.int timedI)), p, x, y, z] w = some (.ok (.dat (.str wd)), w.set k (.draw cs gs' n')) ∧ fst wd ∧ n ≤ n' ∧ n' ≤ n + 1) :
    ∃ (wd : Str) (f g : Wi) (gs' : List Int) (n' : Int), mSeq (mAsg 5 (mBin (mC (.int 1)) (mCall g_law_draw (mCons (mV 0) (mCons (mBin (mV 1) (mC (.int 2)) gSub) mNil))) gAdd))
      (mSeq (mAsg 6 (mCall gr (mCons (mV 0) (mCons (mV 5) (mCons mA mNil)))))
      (mRet (mTup (mCons mW (mCons (mV 6) (mCons (mCall gr (mCons (mV 0) (mCons (mBin (mBin (mV 1) (mC (.int 1)) gSub) (mV 5) gSub) (mCons mB mNil)))) mNil))))))
      [some (.obj k), some (.dat (.int left)), some (.dat (.int timedI)), p, x, y, z] w = some (.ok (.rt (.dat (Wi.bi wd f g).d)), w.set k (.draw cs gs' n')) ∧ fst wd ∧ f.ok ∧ g.ok ∧ f.size + g.size + 1 ≤ left ∧ f.tm ≤ tA ∧ g.tm ≤ tB ∧ n ≤ n' ∧ n' ≤ n + 8 * left - 1 := by
  have sub2 : mBin (mV 1) (mC (.int 2)) gSub [some (.obj k), some (.dat (.int left)), some (.dat (.int timedI)), p, x, y, z] w = some (.ok (.dat (.int (left - 2))), w) := mBin_of (mV_of rfl) (y := .dat (.int 2)) rfl rfl
  obtain ⟨r, g1, r0, r1, e1⟩ := dr hl hk h0 (by omega) (ρ := [some (.obj k), some (.dat (.int left)), some (.dat (.int timedI)), p, x, y, z]) (i := 0) rfl sub2 (by omega) (by omega)
  have hk1 := at_set (gs' := g1) (n' := n + 1) hk
  obtain ⟨s, hs⟩ : ∃ s : Nat, (s : Int) = 1 + r := ⟨(1 + r).toNat, by omega⟩
  have e2 : mAsg 5 (mBin (mC (.int 1)) (mCall g_law_draw (mCons (mV 0) (mCons (mBin (mV 1) (mC (.int 2)) gSub) mNil))) gAdd) [some (.obj k), some (.dat (.int left)), some (.dat (.int timedI)), p, x, y, z] w =
      some (.ok (.nx [some (.obj k), some (.dat (.int left)), some (.dat (.int timedI)), p, x, some (.dat (.int s)), z]), w.set k (.draw cs g1 (n + 1))) := by
    refine mAsg_of (mBin_of (x := .dat (.int 1)) rfl e1 ?_)
    rw [hs]
    rfl
  obtain ⟨f, g2, n2, e3, f1, f2, f3, m2, m2'⟩ := ih s (by omega) (by omega) tA (w.set k (.draw cs g1 (n + 1))) g1 (n + 1) hk1 (by omega) (by omega)
  have e4 : mAsg 6 (mCall gr (mCons (mV 0) (mCons (mV 5) (mCons mA mNil)))) [some (.obj k), some (.dat (.int left)), some (.dat (.int timedI)), p, x, some (.dat (.int s)), z] (w.set k (.draw cs g1 (n + 1))) =
      some (.ok (.nx [some (.obj k), some (.dat (.int left)), some (.dat (.int timedI)), p, x, some (.dat (.int s)), some (.dat f.d)]), w.set k (.draw cs g2 n2)) := by
    refine mAsg_of ((mCall_of (mCons_of (mV_of rfl) (mCons_of (mV_of rfl) (mCons_of (hA _ _ _ _) rfl)))).trans ?_)
    rw [e3, set2]
  have hk2 := at_set (gs' := g2) (n' := n2) hk
  obtain ⟨wd, g3, n3, e5, hw, m3, m3'⟩ := hW x (some (.dat (.int s))) (some (.dat f.d)) _ g2 n2 hk2 (by omega) (by omega)
  rw [set2] at e5
  have hk3 := at_set (gs' := g3) (n' := n3) hk
  obtain ⟨l2, hl2⟩ : ∃ l2 : Nat, (l2 : Int) = left - 1 - s := ⟨left - 1 - s, by omega⟩
  obtain ⟨g, g4, n4, e6, q1, q2, q3, m4, m4'⟩ := ih l2 (by omega) (by omega) tB (w.set k (.draw cs g3 n3)) g3 n3 hk3 (by omega) (by omega)
  refine ⟨wd, f, g, g4, n4, ?_, hw, f1, q1, by omega, f3, q3, by omega, by omega⟩
  have a1 : mBin (mBin (mV 1) (mC (.int 1)) gSub) (mV 5) gSub [some (.obj k), some (.dat (.int left)), some (.dat (.int timedI)), p, x, some (.dat (.int s)), some (.dat f.d)] (w.set k (.draw cs g3 n3)) = some (.ok (.dat (.int l2)), w.set k (.draw cs g3 n3)) := by
    refine mBin_of (mBin_of (mV_of rfl) (y := .dat (.int 1)) rfl (v := .dat (.int (left - 1))) rfl) (mV_of rfl) ?_
    rw [hl2]
    rfl
  rw [set2] at e6
  have e7 := (mCall_of (g := gr) (mCons_of (mV_of (i := 0) rfl) (mCons_of a1 (mCons_of (hB x (some (.dat (.int s))) (some (.dat f.d)) (w.set k (.draw cs g3 n3))) nil_of)))).trans e6
  exact (mSeq_nx e2).trans ((mSeq_nx e4).trans (mRet_dat (tup3 e5 (mV_of rfl) e7)))
/-- (word, _law_hope(m, left - 1, T)) -/
theorem hope_one {gr : Fn} {left tA : Nat} (hL : 2 ≤ left) (ih : ∀ l, 1 ≤ l → l < left → ∀ tt, HopeOk gr k cs l tt) {w : Sto} {gs : List Int} {n : Int} (hk : w[k]? = some (.draw cs gs n)) (h0 : 0 ≤ n) (h1 : n + 8 * left ≤ 900000 + 1)
    {ρ : Env} (hm : ρ[0]? = some (some (.obj k))) (h2 : ρ[1]? = some (some (.dat (.int left)))) {mA mW : Env → Mo SV} (hA : ∀ w, mA ρ w = some (.ok (.dat (.int tA)), w)) {fst : Str → Prop}
    (hW : ∃ wd gs' n', mW ρ w = some (.ok (.dat (.str wd)), w.set k (.draw cs gs' n')) ∧ fst wd ∧ n ≤ n' ∧ n' ≤ n + 1) :
    ∃ (wd : Str) (f : Wi) (gs' : List Int) (n' : Int), mRet (mTup (mCons mW (mCons (mCall gr (mCons (mV 0) (mCons (mBin (mV 1) (mC (.int 1)) gSub) (mCons mA mNil)))) mNil))) ρ w = some (.ok (.rt (.dat (Wi.un wd f).d)), w.set k (.draw cs gs' n')) ∧ fst wd ∧ f.ok ∧ f.size + 1 ≤ left ∧ f.tm ≤ tA ∧ n ≤ n' ∧ n' ≤ n + 8 * left - 1 := by
  obtain ⟨wd, g3, n3, e5, hw, m3, m3'⟩ := hW
  have hk3 := at_set (gs' := g3) (n' := n3) hk
  obtain ⟨l2, hl2⟩ : ∃ l2 : Nat, (l2 : Int) = left - 1 := ⟨left - 1, by omega⟩
  obtain ⟨g, g4, n4, e6, q1, q2, q3, m4, m4'⟩ := ih l2 (by omega) (by omega) tA (w.set k (.draw cs g3 n3)) g3 n3 hk3 (by omega) (by omega)
  have a1 : mBin (mV 1) (mC (.int 1)) gSub ρ (w.set k (.draw cs g3 n3)) = some (.ok (.dat (.int l2)), w.set k (.draw cs g3 n3)) := by
    refine mBin_of (mV_of h2) (y := .dat (.int 1)) rfl ?_
    rw [hl2]
    rfl
  rw [set2] at e6
  have e7 := (mCall_of (g := gr) (mCons_of (mV_of hm) (mCons_of a1 (mCons_of (hA (w.set k (.draw cs g3 n3))) nil_of)))).trans e6
  exact ⟨wd, g, g4, n4, mRet_dat (tup2 e5 e7), hw, q1, by omega, q3, by omega, by omega⟩
end
end K03
end EG


set_option Elab.async false
set_option linter.all false
set_option maxRecDepth 100000
set_option maxHeartbeats 1000000
namespace EG
open PySem PySem.Spec PyProof.Rows L2
namespace K03
section
variable {k : Nat} {cs : List Int}
/-- one word of some -/
theorem word_drawn (hl : cs.length = 64) {l : List Str} {es : Env → Mo (List SV)} {ρ : Env} {i : Nat} {L : Int} {fst : Str → Prop} (hm : ρ[i]? = some (some (.obj k))) (he : ∀ w, es ρ w = some (.ok (l.map fun x => .dat (.str x)), w)) (hz : l.length ≤ 900) (hL : (l.length : Int) = L) (l0 : 0 < L) (hf : ∀ x ∈ l, fst x)
    {w : Sto} {gs : List Int} {n : Int} (hk : w[k]? = some (.draw cs gs n)) (h0 : 0 ≤ n) (h1 : n ≤ 900000) :
    ∃ wd gs' n', mBin (mLst es) (mCall g_law_draw (mCons (mV i) (mCons (mC (.int L)) mNil))) gIx ρ w = some (.ok (.dat (.str wd)), w.set k (.draw cs gs' n')) ∧ fst wd ∧ n ≤ n' ∧ n' ≤ n + 1 := by
  obtain ⟨r, g1, r0, r1, e1⟩ := dr hl hk h0 h1 hm (X := mC (.int L)) (L := L) rfl l0 (by omega)
  have hlt : r.toNat < l.length := by omega
  have ix : atD (l.map PyData.str) r = some (.str l[r.toNat]) := by
    unfold atD
    rw [ixN_pos r0 (by rw [List.length_map]; omega), Option.bind_some, List.getElem?_map, List.getElem?_eq_getElem hlt]
    rfl
  exact ⟨l[r.toNat], g1, n + 1, lst_at (lst_strs (he w) hz) e1 ix, hf _ (List.getElem_mem _), by omega, by omega⟩
theorem hope_step (hl : cs.length = 64) {gr : Fn} {left timed : Nat} (hL : 1 ≤ left) (hL2 : left ≤ 1000) (ih : ∀ l, 1 ≤ l → l < left → ∀ tt, HopeOk gr k cs l tt) : HopeOk (mDef ["m", "left", "timed", "pick", "leaf", "size", "near"] (m_law_hope gr)) k cs left timed := by
  intro w gs n hk h0 h1
  have main : ∃ (t : Wi) (gs' : List Int) (n' : Int), m_law_hope gr [some (.obj k), some (.dat (.int left)), some (.dat (.int timed)), none, none, none, none] w = some (.ok (.rt (.dat t.d)), w.set k (.draw cs gs' n')) ∧ t.ok ∧ t.size ≤ left ∧ t.tm ≤ timed ∧ n ≤ n' ∧ n' ≤ n + 8 * left := by
    obtain ⟨r, g1, r0, r1, e1⟩ := dr hl hk h0 (by omega) (ρ := [some (.obj k), some (.dat (.int left)), some (.dat (.int timed)), none, none, none, none]) (i := 0) rfl (X := mC (.int 10)) (L := 10) rfl (by omega) (by omega)
    have hk1 := at_set (gs' := g1) (n' := n + 1) hk
    -- the tests
    have lt1 : ∀ (x y z : Option SV) (w : Sto) (i : Nat) (a b : Int), [some (.obj k), some (.dat (.int left)), some (.dat (.int timed)), some (.dat (.int r)), x, y, z][i]? = some (some (SV.dat (.int a))) → mTB (mBin (mV i) (mC (.int b)) gLt) [some (.obj k), some (.dat (.int left)), some (.dat (.int timed)), some (.dat (.int r)), x, y, z] w = some (.ok (decide (a < b)), w) := fun x y z w i a b h => mTB_of (mBin_of (mV_of h) (y := .dat (.int b)) rfl rfl)
    have gt1 : ∀ (x y z : Option SV) (w : Sto) (i : Nat) (a b : Int), [some (.obj k), some (.dat (.int left)), some (.dat (.int timed)), some (.dat (.int r)), x, y, z][i]? = some (some (SV.dat (.int a))) → mTB (mBin (mV i) (mC (.int b)) gGt) [some (.obj k), some (.dat (.int left)), some (.dat (.int timed)), some (.dat (.int r)), x, y, z] w = some (.ok (decide (b < a)), w) := fun x y z w i a b h => mTB_of (mBin_of (mV_of h) (y := .dat (.int b)) rfl rfl)
    have eq1 : ∀ (x y z : Option SV) (w : Sto) (i : Nat) (a b : Int), [some (.obj k), some (.dat (.int left)), some (.dat (.int timed)), some (.dat (.int r)), x, y, z][i]? = some (some (SV.dat (.int a))) → mTB (mBin (mV i) (mC (.int b)) gEq) [some (.obj k), some (.dat (.int left)), some (.dat (.int timed)), some (.dat (.int r)), x, y, z] w = some (.ok (decide (a = b)), w) := fun x y z w i a b h => mTB_of (mBin_of (mV_of h) (y := .dat (.int b)) rfl (by simp [gEq, toD, eqDD, SeqAt.shaped, PyData.canLay0, PyData.depth, PyData.eqv]; rfl))
    have or1 : ∀ (a b : Env → Mo Bool) (ρ : Env) (w : Sto) (p q : Bool), a ρ w = some (.ok p, w) → b ρ w = some (.ok q, w) → mOr a b ρ w = some (.ok (p || q), w) := fun a b ρ w p q h h' => by
      show mBind (a ρ) (fun c => if c then mPure true else b ρ) w = _
      rw [mBind_of h]
      cases p
      · simpa using h'
      · rfl
    have and1 : ∀ (a b : Env → Mo Bool) (ρ : Env) (w : Sto) (p q : Bool), a ρ w = some (.ok p, w) → b ρ w = some (.ok q, w) → mAnd a b ρ w = some (.ok (p && q), w) := fun a b ρ w p q h h' => by
      show mBind (a ρ) (fun c => if c then b ρ else mPure false) w = _
      rw [mBind_of h]
      cases p
      · rfl
      · simpa using h'
    have ret : ∀ (a b : Env → Mo Out) (ρ : Env) (w w1 : Sto) (d : PyData), a ρ w = some (.ok (.rt (.dat d)), w1) → mSeq a b ρ w = some (.ok (.rt (.dat d)), w1) := fun a b ρ w w1 d h => by
      unfold mSeq
      rw [mBind_of h]
      rfl
    unfold m_law_hope
    rw [mSeq_nx (mAsg_of e1)]
    simp only [List.set_cons_succ, List.set_cons_zero]
    have c1 := or1 _ _ _ _ _ _ (lt1 none none none (w.set k (.draw cs g1 (n + 1))) 1 left 2 rfl) (lt1 none none none (w.set k (.draw cs g1 (n + 1))) 3 r 2 rfl)
    by_cases q1 : (decide ((left : Int) < 2) || decide (r < 2)) = true
    · obtain ⟨t, gs', n', e, a1, a2, a3, a4, a5⟩ := hope_leaf hl hk1 (by omega) (by omega) (a := some (.dat (.int left))) (b := some (.dat (.int timed))) (p := some (.dat (.int r))) (x := none) (y := none) (z := none)
      refine ⟨t, gs', n', ret _ _ _ _ _ _ ?_, a1, by omega, by omega, by omega, by omega⟩
      rw [mIfS_of c1, if_pos q1, e, set2]
    · have skip1 : ∀ a, mIfS (mOr (mTB (mBin (mV 1) (mC (.int 2)) gLt)) (mTB (mBin (mV 3) (mC (.int 2)) gLt))) a mSkip [some (.obj k), some (.dat (.int left)), some (.dat (.int timed)), some (.dat (.int r)), none, none, none] (w.set k (.draw cs g1 (n + 1))) = some (.ok (.nx [some (.obj k), some (.dat (.int left)), some (.dat (.int timed)), some (.dat (.int r)), none, none, none]), w.set k (.draw cs g1 (n + 1))) := fun a => by
        rw [mIfS_of c1, if_neg q1]; rfl
      rw [mSeq_nx (skip1 _)]
      simp only [Bool.or_eq_true, decide_eq_true_eq, not_or] at q1
      have c2 := or1 _ _ _ _ _ _ (lt1 none none none (w.set k (.draw cs g1 (n + 1))) 3 r 4 rfl) (eq1 none none none (w.set k (.draw cs g1 (n + 1))) 2 timed 0 rfl)
      by_cases q2 : (decide (r < 4) || decide ((timed : Int) = 0)) = true
      · have c3 := or1 _ _ _ _ _ _ (lt1 none none none (w.set k (.draw cs g1 (n + 1))) 1 left 3 rfl) (eq1 none none none (w.set k (.draw cs g1 (n + 1))) 3 r 2 rfl)
        by_cases q3 : (decide ((left : Int) < 3) || decide (r = 2)) = true
        · obtain ⟨wd, f, gs', n', e, a1, a2, a3, a4, a5, a6⟩ := hope_one (gr := gr) (tA := timed) (by omega) ih hk1 (by omega) (by omega) (ρ := [some (.obj k), some (.dat (.int left)), some (.dat (.int timed)), some (.dat (.int r)), none, none, none]) rfl rfl (mA := mV 2) (mW := mC (.str "no")) (fun w => mV_of rfl) (fst := fun x => x = "no") ⟨"no", g1, n + 1, by simp [mC, mPure], rfl, by omega, by omega⟩
          subst a1
          refine ⟨.un "no" f, gs', n', ret _ _ _ _ _ _ ?_, ⟨by simp [Wi.ones], a2⟩, by simp [Wi.size]; omega, by simp [Wi.tm, Wi.isT]; exact a4, by omega, by omega⟩
          rw [mIfS_of c2, if_pos q2]
          refine ret _ _ _ _ _ _ ?_
          rw [mIfS_of c3, if_pos q3, e, set2]
        · simp only [Bool.or_eq_true, decide_eq_true_eq, not_or] at q3
          have hA : ∀ x y z w, mBin (mV 2) (mC (.int 2)) gFdiv [some (.obj k), some (.dat (.int left)), some (.dat (.int timed)), some (.dat (.int r)), x, y, z] w = some (.ok (.dat (.int ((timed / 2 : Nat)))), w) := fun x y z w => mBin_of (mV_of rfl) (y := .dat (.int 2)) rfl (by simp [gI])
          have hB : ∀ x y z w, mBin (mV 2) (mBin (mV 2) (mC (.int 2)) gFdiv) gSub [some (.obj k), some (.dat (.int left)), some (.dat (.int timed)), some (.dat (.int r)), x, y, z] w = some (.ok (.dat (.int ((timed - timed / 2 : Nat)))), w) := fun x y z w => mBin_of (mV_of rfl) (hA x y z w) (by simp [gI]; omega)
          obtain ⟨wd, f, g, gs', n', e, a1, a2, a3, a4, a5, a6, a7, a8⟩ := hope_two (gr := gr) hl (left := left) (tA := timed / 2) (tB := timed - timed / 2) (by omega) hL2 (timedI := timed) ih hk1 (by omega) (by omega) (p := some (.dat (.int r))) (x := none) (y := none) (z := none) hA hB (mW := mBin (mLst (mCons (mC (.str "and")) (mCons (mC (.str "or")) mNil))) (mCall g_law_draw (mCons (mV 0) (mCons (mC (.int 2)) mNil))) gIx) (fst := fun x => x = "and" ∨ x = "or")
            (fun x y z w gs n h h' h'' => word_drawn hl (l := ["and", "or"]) (L := 2) rfl (fun w => rfl) (by simp) rfl (by omega) (by simp) h h' h'')
          refine ⟨.bi wd f g, gs', n', ret _ _ _ _ _ _ ?_, ⟨by rcases a1 with rfl | rfl <;> simp [Wi.twos], a2, a3⟩, by simp [Wi.size]; omega, ?_, by omega, by omega⟩
          · rw [mIfS_of c2, if_pos q2]
            refine (mSeq_nx (ρ1 := [some (.obj k), some (.dat (.int left)), some (.dat (.int timed)), some (.dat (.int r)), none, none, none]) (w1 := w.set k (.draw cs g1 (n + 1))) ?_).trans ?_
            · rw [mIfS_of c3, if_neg (by simp; omega)]; rfl
            · rw [e, set2]
          · have : Wi.isT wd = false := by rcases a1 with rfl | rfl <;> decide
            simp [Wi.tm, this]; omega
      · have skip2 : ∀ a, mIfS (mOr (mTB (mBin (mV 3) (mC (.int 4)) gLt)) (mTB (mBin (mV 2) (mC (.int 0)) gEq))) a mSkip [some (.obj k), some (.dat (.int left)), some (.dat (.int timed)), some (.dat (.int r)), none, none, none] (w.set k (.draw cs g1 (n + 1))) = some (.ok (.nx [some (.obj k), some (.dat (.int left)), some (.dat (.int timed)), some (.dat (.int r)), none, none, none]), w.set k (.draw cs g1 (n + 1))) := fun a => by
          rw [mIfS_of c2, if_neg q2]; rfl
        rw [mSeq_nx (skip2 _)]
        simp only [Bool.or_eq_true, decide_eq_true_eq, not_or] at q2
        have c4 := and1 _ _ _ _ _ _ (gt1 none none none (w.set k (.draw cs g1 (n + 1))) 1 left 2 rfl) (lt1 none none none (w.set k (.draw cs g1 (n + 1))) 3 r 6 rfl)
        have hA1 : ∀ x y z w, mBin (mV 2) (mC (.int 1)) gSub [some (.obj k), some (.dat (.int left)), some (.dat (.int timed)), some (.dat (.int r)), x, y, z] w = some (.ok (.dat (.int ((timed - 1 : Nat)))), w) := fun x y z w => mBin_of (mV_of rfl) (y := .dat (.int 1)) rfl (by simp [gI]; omega)
        by_cases q4 : (decide (2 < (left : Int)) && decide (r < 6)) = true
        · simp only [Bool.and_eq_true, decide_eq_true_eq] at q4
          have hA : ∀ x y z w, mBin (mBin (mV 2) (mC (.int 1)) gSub) (mC (.int 2)) gFdiv [some (.obj k), some (.dat (.int left)), some (.dat (.int timed)), some (.dat (.int r)), x, y, z] w = some (.ok (.dat (.int (((timed - 1) / 2 : Nat)))), w) := fun x y z w => mBin_of (hA1 x y z w) (y := .dat (.int 2)) rfl (by simp [gI])
          have hB : ∀ x y z w, mBin (mBin (mV 2) (mC (.int 1)) gSub) (mBin (mBin (mV 2) (mC (.int 1)) gSub) (mC (.int 2)) gFdiv) gSub [some (.obj k), some (.dat (.int left)), some (.dat (.int timed)), some (.dat (.int r)), x, y, z] w = some (.ok (.dat (.int ((timed - 1 - (timed - 1) / 2 : Nat)))), w) := fun x y z w => mBin_of (hA1 x y z w) (hA x y z w) (by simp [gI]; omega)
          obtain ⟨wd, f, g, gs', n', e, a1, a2, a3, a4, a5, a6, a7, a8⟩ := hope_two (gr := gr) hl (left := left) (tA := (timed - 1) / 2) (tB := timed - 1 - (timed - 1) / 2) (by omega) hL2 (timedI := timed) ih hk1 (by omega) (by omega) (p := some (.dat (.int r))) (x := none) (y := none) (z := none) hA hB (mW := mC (.str "till")) (fst := fun x => x = "till")
            (fun x y z w gs n h h' h'' => ⟨"till", gs, n, by rw [show w.set k (.draw cs gs n) = w from by apply List.ext_getElem?; intro j; by_cases hj : k = j; { subst hj; rw [at_set h, h] }; { rw [List.getElem?_set_ne hj] }]; rfl, rfl, by omega, by omega⟩)
          subst a1
          refine ⟨.bi "till" f g, gs', n', ret _ _ _ _ _ _ ?_, ⟨by simp [Wi.twos], a2, a3⟩, by simp [Wi.size]; omega, ?_, by omega, by omega⟩
          · rw [mIfS_of c4, if_pos (by simp; omega), e, set2]
          · have : Wi.isT "till" = true := by decide
            simp [Wi.tm, this]; omega
        · obtain ⟨wd, f, gs', n', e, a1, a2, a3, a4, a5, a6⟩ := hope_one (gr := gr) (tA := timed - 1) (by omega) ih hk1 (by omega) (by omega) (ρ := [some (.obj k), some (.dat (.int left)), some (.dat (.int timed)), some (.dat (.int r)), none, none, none]) rfl rfl (mA := mBin (mV 2) (mC (.int 1)) gSub) (mW := mBin (mLst (mCons (mC (.str "next")) (mCons (mC (.str "ever")) (mCons (mC (.str "always")) mNil)))) (mCall g_law_draw (mCons (mV 0) (mCons (mC (.int 3)) mNil))) gIx) (fun w => hA1 _ _ _ w) (fst := fun x => x = "next" ∨ x = "ever" ∨ x = "always")
            (word_drawn hl (l := ["next", "ever", "always"]) (L := 3) rfl (fun w => rfl) (by simp) rfl (by omega) (by simp) hk1 (by omega) (by omega))
          have : Wi.isT wd = true := by rcases a1 with rfl | rfl | rfl <;> decide
          refine ⟨.un wd f, gs', n', ?_, ⟨by rcases a1 with rfl | rfl | rfl <;> simp [Wi.ones], a2⟩, by simp [Wi.size]; omega, by simp [Wi.tm, this]; omega, by omega, by omega⟩
          refine (mSeq_nx (ρ1 := [some (.obj k), some (.dat (.int left)), some (.dat (.int timed)), some (.dat (.int r)), none, none, none]) (w1 := w.set k (.draw cs g1 (n + 1))) ?_).trans ?_
          · rw [mIfS_of c4, if_neg q4]; rfl
          · rw [e, set2]
  obtain ⟨t, gs', n', e, r⟩ := main
  exact ⟨t, gs', n', def_len e (by simp), r⟩
theorem hope_ok (hl : cs.length = 64) : ∀ (f : Nat) {left : Nat} (timed : Nat), 1 ≤ left → left ≤ f → left ≤ 1000 → HopeOk (recG ["m", "left", "timed", "pick", "leaf", "size", "near"] (m_law_hope) f) k cs left timed
  | 0, left, timed, h1, h2, _ => by omega
  | f + 1, left, timed, h1, h2, h3 => hope_step hl h1 h3 fun l a b tt => hope_ok hl f tt a (by omega) (by omega)
end
end K03
end EG


set_option Elab.async false
set_option linter.all false
set_option maxRecDepth 100000
set_option maxHeartbeats 1000000
namespace EG
open PySem PySem.Spec PyProof.Rows L2
namespace K03
/-! ### what may be shown -/
structure Sh (d : PyData) (dp n : Nat) : Prop where
  s : d.showable = true
  h : d.depth ≤ dp
  l : d.shown.length ≤ n
theorem Sh.mono {d : PyData} {a b n m : Nat} (s : Sh d a n) (h1 : a ≤ b) (h2 : n ≤ m) : Sh d b m := ⟨s.s, Nat.le_trans s.h h1, Nat.le_trans s.l h2⟩
theorem sum_le {ds : List PyData} {n : Nat} (h : ∀ d ∈ ds, d.shown.length ≤ n) : ((PyData.shownAll ds).map (·.length)).sum ≤ ds.length * n := by
  induction ds with
  | nil => simp [PyData.shownAll]
  | cons a r ih =>
    have h1 := h a List.mem_cons_self
    have h2 := ih fun d hd => h d (List.mem_cons_of_mem _ hd)
    simp only [PyData.shownAll, List.map_cons, List.sum_cons, List.length_cons]
    rw [Nat.add_mul, Nat.one_mul]
    omega
theorem shown_len : ∀ {ds : List PyData}, (PyData.shownAll ds).length = ds.length
  | [] => rfl
  | _ :: r => congrArg (· + 1) (shown_len (ds := r))
theorem all_show {ds : List PyData} (h : ∀ d ∈ ds, d.showable = true) : PyData.showableAll ds = true := by
  induction ds with
  | nil => rfl
  | cons a r ih => simp only [PyData.showableAll, h a List.mem_cons_self, ih fun d hd => h d (List.mem_cons_of_mem _ hd), Bool.and_self]
theorem all_depth {ds : List PyData} {n : Nat} (h : ∀ d ∈ ds, d.depth ≤ n) : PyData.depthAll ds ≤ n := by
  induction ds with
  | nil => simp [PyData.depthAll]
  | cons a r ih =>
    have h1 := h a List.mem_cons_self
    have h2 := ih fun d hd => h d (List.mem_cons_of_mem _ hd)
    simp only [PyData.depthAll]
    omega
theorem sh_tup {ds : List PyData} {dp n : Nat} (h : ∀ d ∈ ds, Sh d dp n) : Sh (.tuple ds) (dp + 1) (ds.length * (n + 2) + 3) := by
  refine ⟨all_show fun d hd => (h d hd).s, ?_, ?_⟩
  · have := all_depth fun d hd => (h d hd).h
    simp only [PyData.depth]; omega
  · have h1 := tupleText_len_le (PyData.shownAll ds)
    have h2 := sum_le fun d hd => (h d hd).l
    rw [shown_len] at h1
    have e : (PyData.tuple ds).shown = tupleText (PyData.shownAll ds) := by simp only [PyData.shown]
    rw [e, Nat.mul_add]
    omega
theorem sh_lst {ds : List PyData} {dp n : Nat} (h : ∀ d ∈ ds, Sh d dp n) : Sh (.list ds) (dp + 1) (ds.length * (n + 2) + 3) := by
  refine ⟨all_show fun d hd => (h d hd).s, ?_, ?_⟩
  · have := all_depth fun d hd => (h d hd).h
    simp only [PyData.depth]; omega
  · have h1 := listText_len_le (PyData.shownAll ds)
    have h2 := sum_le fun d hd => (h d hd).l
    rw [shown_len] at h1
    have e : (PyData.list ds).shown = listText (PyData.shownAll ds) := by simp only [PyData.shown]
    rw [e, Nat.mul_add]
    omega
theorem sh_bool (b : Bool) : Sh (.bool b) 0 5 := by
  cases b <;> exact ⟨rfl, Nat.le_refl _, by decide +kernel⟩
theorem sh_int {i : Int} (h : 0 ≤ i) (h2 : i ≤ 3) : Sh (.int i) 0 2 := by
  have : i = 0 ∨ i = 1 ∨ i = 2 ∨ i = 3 := by omega
  rcases this with rfl | rfl | rfl | rfl <;> exact ⟨by decide +kernel, Nat.le_refl _, by decide +kernel⟩
theorem sh_word {x : Str} (h : x ∈ Wi.leafs ∨ x ∈ Wi.ones ∨ x ∈ Wi.twos ∨ x = "mark") : Sh (.str x) 0 10 := by
  rcases h with h | h | h | h
  · rcases leaf_cases h with rfl | rfl <;> exact ⟨rfl, Nat.le_refl _, by decide +kernel⟩
  · rcases one_cases h with rfl | rfl | rfl | rfl <;> exact ⟨rfl, Nat.le_refl _, by decide +kernel⟩
  · rcases two_cases h with rfl | rfl | rfl <;> exact ⟨rfl, Nat.le_refl _, by decide +kernel⟩
  · subst h; exact ⟨rfl, Nat.le_refl _, by decide +kernel⟩
theorem sh_d : ∀ {t : Wi}, t.ok → Sh t.d t.size (20 * t.size)
  | .lf x, h => (sh_tup (ds := [.str x]) (dp := 0) (n := 10) (fun d hd => by rw [List.mem_singleton.mp hd]; exact sh_word (.inl h))).mono (by simp [Wi.size]) (by simp [Wi.size])
  | .mk i, h => (sh_tup (ds := [.str "mark", .int i]) (dp := 0) (n := 6) (fun d hd => by
      rcases List.mem_cons.mp hd with rfl | hd
      · exact ⟨rfl, Nat.le_refl _, by decide +kernel⟩
      · rw [List.mem_singleton.mp hd]; exact (sh_int h.1 h.2).mono (Nat.le_refl _) (by omega))).mono (by simp [Wi.size]) (by simp [Wi.size])
  | .un x f, h => by
    have h1 := sh_word (.inr (.inl h.1))
    have h2 := sh_d h.2
    have e : (Wi.un x f).d.shown = tupleText (PyData.shownAll [.str x, f.d]) := by simp only [PyData.shown, Wi.d]
    have l := tupleText_len_le (PyData.shownAll [.str x, f.d])
    have l1 := h1.l
    have l2 := h2.l
    have d2 := h2.h
    refine ⟨by have := h1.s; have := h2.s; simp_all [Wi.d, PyData.showable, PyData.showableAll], by simp only [Wi.d, PyData.depth, PyData.depthAll, Wi.size] at *; omega, ?_⟩
    rw [e]
    simp only [PyData.shownAll, List.map_cons, List.map_nil, List.sum_cons, List.sum_nil, List.length_cons, List.length_nil, Wi.size] at l ⊢
    simp only [PyData.shownAll] at *
    omega
  | .bi x f g, h => by
    have h1 := sh_word (.inr (.inr (.inl h.1)))
    have h2 := sh_d h.2.1
    have h3 := sh_d h.2.2
    have e : (Wi.bi x f g).d.shown = tupleText (PyData.shownAll [.str x, f.d, g.d]) := by simp only [PyData.shown, Wi.d]
    have l := tupleText_len_le (PyData.shownAll [.str x, f.d, g.d])
    have l1 := h1.l
    have l2 := h2.l
    have l3 := h3.l
    have d2 := h2.h
    have d3 := h3.h
    refine ⟨by have := h1.s; have := h2.s; have := h3.s; simp_all [Wi.d, PyData.showable, PyData.showableAll], by simp only [Wi.d, PyData.depth, PyData.depthAll, Wi.size] at *; omega, ?_⟩
    rw [e]
    simp only [PyData.shownAll, List.map_cons, List.map_nil, List.sum_cons, List.sum_nil, List.length_cons, List.length_nil, Wi.size] at l ⊢
    simp only [PyData.shownAll] at *
    omega
theorem path_ents (t : Wi) : ∀ p, (∀ k ∈ p, k = 1 ∨ k = 2) → ∀ q ∈ Wi.pieces p t, ∀ k ∈ q.1, k = (1 : Int) ∨ k = 2 := by
  induction t with
  | lf x => intro p hp q hq; simp [Wi.pieces] at hq; subst hq; exact hp
  | mk i => intro p hp q hq; simp [Wi.pieces] at hq; subst hq; exact hp
  | un x f ih =>
    intro p hp q hq
    simp only [Wi.pieces, List.mem_cons] at hq
    rcases hq with rfl | hq
    · exact hp
    · exact ih _ (fun k hk => by rcases List.mem_append.mp hk with z | z; exact hp k z; exact .inl (List.mem_singleton.mp z)) q hq
  | bi x f g ih ih2 =>
    intro p hp q hq
    simp only [Wi.pieces, List.mem_cons, List.mem_append] at hq
    rcases hq with rfl | hq | hq
    · exact hp
    · exact ih _ (fun k hk => by rcases List.mem_append.mp hk with z | z; exact hp k z; exact .inl (List.mem_singleton.mp z)) q hq
    · exact ih2 _ (fun k hk => by rcases List.mem_append.mp hk with z | z; exact hp k z; exact .inr (List.mem_singleton.mp z)) q hq
theorem sh_path {p : List Int} (h : ∀ k ∈ p, k = (1 : Int) ∨ k = 2) (hl : p.length ≤ 60) : Sh (pathD p) 1 300 := by
  refine (sh_tup (ds := p.map .int) (dp := 0) (n := 2) fun d hd => ?_).mono (Nat.le_refl _) (by simp; omega)
  obtain ⟨k, hk, rfl⟩ := List.mem_map.mp hd
  rcases h k hk with rfl | rfl <;> exact sh_int (by omega) (by omega)
theorem repr_ok {d : PyData} {dp n : Nat} (s : Sh d dp n) (h1 : dp ≤ 60) (h2 : n ≤ 1000000) (w : Sto) : gRepr (.dat d) w = some (.dat (.str d.shown)) := by
  have h3 : d.shown.length ≤ sizeLine := by have := s.l; rw [sizeLine_eq]; omega
  have h4 : d.depth ≤ 60 := Nat.le_trans s.h h1
  simp [gRepr, toD, s.s, h3, h4]
theorem like_ok {d : PyData} {dp n : Nat} (s : Sh d dp n) (h1 : dp ≤ 60) (h2 : n ≤ 1000000) (w : Sto) : g_law_like [.dat d, .dat d] w = some (.ok (.dat (.bool true)), w) := by
  refine def_dat (w' := []) ?_
  rw [List.append_nil]
  show m_law_like [some (.dat d), some (.dat d)] w = _
  refine mRet_dat (mBin_of (mUn_of (mV_of rfl) (repr_ok s h1 h2 w)) (mUn_of (mV_of rfl) (repr_ok s h1 h2 w)) ?_)
  simp [gEq, toD, eqDD]
/-! ### hardened, softened, another part put in -/
theorem put_wf : ∀ {p : List Int} {t u r : Wi}, t.ok → r.ok → t.at p = some u → (t.put p r).ok ∧ (t.put p r).size ≤ t.size + r.size
  | [], t, u, r, ho, hr, h => by
    have e : t.put [] r = r := by cases t <;> rfl
    rw [e]; exact ⟨hr, by omega⟩
  | k :: q, t, u, r, ho, hr, h => by
    obtain ⟨f, h1, h2⟩ := at_cons h
    have ih := put_wf (kid_ok ho h1).ok hr h2
    cases t with
    | lf x => simp [Wi.kid] at h1
    | mk i => simp [Wi.kid] at h1
    | un x g =>
      by_cases c : k = 1
      · subst c; simp [Wi.kid] at h1; subst h1
        exact ⟨⟨ho.1, ih.1⟩, by simp [Wi.put, Wi.size]; omega⟩
      · simp [Wi.kid, c] at h1
    | bi x a b =>
      by_cases c : k = 1
      · subst c; simp [Wi.kid] at h1; subst h1
        exact ⟨by simpa [Wi.put] using ⟨ho.1, ih.1, ho.2.2⟩, by simp [Wi.put, Wi.size]; omega⟩
      · by_cases c2 : k = 2
        · subst c2; simp [Wi.kid] at h1; subst h1
          exact ⟨by simpa [Wi.put] using ⟨ho.1, ho.2.1, ih.1⟩, by simp [Wi.put, Wi.size]; omega⟩
        · simp [Wi.kid, c, c2] at h1
def cst (b : Bool) : Wi := if b then .lf "true" else .lf "false"
theorem cst_ok (b : Bool) : (cst b).ok := by cases b <;> simp [cst, Wi.ok, Wi.leafs]
theorem cst_size (b : Bool) : (cst b).size = 1 := by cases b <;> rfl
theorem tupW {x : Str} {ρ : Env} {w : Sto} : mTup (mCons (mC (.str x)) mNil) ρ w = some (.ok (.dat (.tuple [.str x])), w) := tup1 rfl
section
variable {c : Cs} {t u : Wi} {p : List Int}
theorem worst_ok (ho : t.ok) (h1 : t.size ≤ 12) (h2 : t.tm ≤ 5) (h : t.at p = some u) (w : Sto) : gworst c [.dat t.d, .dat (pathD p)] w = some (.ok (.dat (cst (!evenB t p)).d), w) := by
  refine def_dat (w' := []) ?_
  rw [List.append_nil]
  show mworst c [some (.dat t.d), some (.dat (pathD p))] w = _
  unfold mworst
  have tst : mTB (mCall (gis_plain c) (mCons (mV 0) (mCons (mV 1) mNil))) [some (.dat t.d), some (.dat (pathD p))] w = some (.ok (evenB t p), w) := mTB_of ((mCall_of (mCons_of (mV_of rfl) (mCons_of (mV_of rfl) nil_of))).trans (is_plain_ok ho h1 h2 h w))
  cases q : evenB t p with
  | true =>
    rw [q] at tst
    have : mIfS (mTB (mCall (gis_plain c) (mCons (mV 0) (mCons (mV 1) mNil)))) (mRet (mTup (mCons (mC (.str "false")) mNil))) mSkip [some (.dat t.d), some (.dat (pathD p))] w = some (.ok (.rt (.dat (.tuple [.str "false"]))), w) := by
      rw [mIfS_of tst]
      exact mRet_dat tupW
    unfold mSeq
    rw [mBind_of this]
    rfl
  | false =>
    rw [q] at tst
    refine (mSeq_nx (ρ1 := [some (.dat t.d), some (.dat (pathD p))]) (w1 := w) ?_).trans (mRet_dat tupW)
    rw [mIfS_of tst]
    rfl
theorem hardened_ok (ho : t.ok) (h1 : t.size ≤ 12) (h2 : t.tm ≤ 5) (h : t.at p = some u) (hp : p.length < 24) (w : Sto) : ghardened c [.dat t.d, .dat (pathD p)] w = some (.ok (.dat (t.put p (cst (!evenB t p))).d), w) := by
  refine def_dat (w' := []) ?_
  rw [List.append_nil]
  show mhardened c [some (.dat t.d), some (.dat (pathD p))] w = _
  have e := (mCall_of (g := gworst c) (ρ := [some (.dat t.d), some (.dat (pathD p))]) (w := w) (mCons_of (mV_of (i := 0) rfl) (mCons_of (mV_of (i := 1) rfl) nil_of))).trans (worst_ok ho h1 h2 h w)
  exact mRet_dat ((mCall_of (mCons_of (mV_of rfl) (mCons_of (mV_of rfl) (mCons_of e nil_of)))).trans (put_ok 24 ho h hp w))
theorem softened_ok (ho : t.ok) (h1 : t.size ≤ 12) (h2 : t.tm ≤ 5) (h : t.at p = some u) (hp : p.length < 24) (w : Sto) : gsoftened c [.dat t.d, .dat (pathD p)] w = some (.ok (.dat (t.put p (cst (evenB t p))).d), w) := by
  refine def_dat (w' := []) ?_
  rw [List.append_nil]
  show msoftened c [some (.dat t.d), some (.dat (pathD p))] w = _
  unfold msoftened
  have tst : mTB (mCall (gis_plain c) (mCons (mV 0) (mCons (mV 1) mNil))) [some (.dat t.d), some (.dat (pathD p))] w = some (.ok (evenB t p), w) := mTB_of ((mCall_of (mCons_of (mV_of rfl) (mCons_of (mV_of rfl) nil_of))).trans (is_plain_ok ho h1 h2 h w))
  have put (x : Str) (b : Bool) (hb : (cst b).d = .tuple [.str x]) : mRet (mCall putG (mCons (mV 0) (mCons (mV 1) (mCons (mTup (mCons (mC (.str x)) mNil)) mNil)))) [some (.dat t.d), some (.dat (pathD p))] w = some (.ok (.rt (.dat (t.put p (cst b)).d)), w) := by
    have q := put_ok 24 (r := cst b) ho h hp w
    rw [hb] at q
    exact mRet_dat ((mCall_of (mCons_of (mV_of rfl) (mCons_of (mV_of rfl) (mCons_of tupW nil_of)))).trans q)
  cases q : evenB t p with
  | true =>
    rw [q] at tst
    have : mIfS (mTB (mCall (gis_plain c) (mCons (mV 0) (mCons (mV 1) mNil)))) (mRet (mCall putG (mCons (mV 0) (mCons (mV 1) (mCons (mTup (mCons (mC (.str "true")) mNil)) mNil))))) mSkip [some (.dat t.d), some (.dat (pathD p))] w = some (.ok (.rt (.dat (t.put p (cst true)).d)), w) := by
      rw [mIfS_of tst]
      exact put "true" true rfl
    unfold mSeq
    rw [mBind_of this]
    rfl
  | false =>
    rw [q] at tst
    refine (mSeq_nx (ρ1 := [some (.dat t.d), some (.dat (pathD p))]) (w1 := w) ?_).trans (put "false" false rfl)
    rw [mIfS_of tst]
    rfl
theorem replaced_ok {r : Wi} (ho : t.ok) (h1 : t.size ≤ 12) (h2 : t.tm ≤ 5) (h : t.at p = some u) (hp : p.length < 24) (hr : r.ok) (r1 : r.size ≤ 12) (r2 : r.tm ≤ 5) (h3 : (t.put p r).size ≤ 12) (h4 : (t.put p r).tm ≤ 5) (w : Sto) : greplaced c [.dat t.d, .dat (pathD p), .dat r.d] w = some (.ok (.dat (t.put p r).d), w) := by
  refine def_dat (w' := []) ?_
  rw [List.append_nil]
  show mreplaced c [some (.dat t.d), some (.dat (pathD p)), some (.dat r.d)] w = _
  unfold mreplaced
  refine (mSeq_nx (drop_of ((mCall_of (mCons_of (mV_of rfl) (mCons_of (mV_of rfl) nil_of))).trans (need_path_ok ho h1 h2 h w)))).trans ?_
  refine (mSeq_nx (drop_of ((mCall_of (mCons_of (mV_of rfl) nil_of)).trans (need_ok hr r1 r2 w)))).trans ?_
  have e := (mCall_of (g := putG) (ρ := [some (.dat t.d), some (.dat (pathD p)), some (.dat r.d)]) (w := w) (mCons_of (mV_of (i := 0) rfl) (mCons_of (mV_of (i := 1) rfl) (mCons_of (mV_of (i := 2) rfl) nil_of)))).trans (put_ok 24 ho h hp w)
  exact mRet_dat ((mCall_of (mCons_of e nil_of)).trans (need_ok (put_wf ho hr h).1 h3 h4 w))
theorem replaced_bad {r : Wi} (ho : t.ok) (h1 : t.size ≤ 12) (h2 : t.tm ≤ 5) (h : t.at p = some u) (hp : p.length < 24) (hr : r.ok) (r1 : r.size ≤ 12) (r2 : r.tm ≤ 5) (h3 : ¬ ((t.put p r).size ≤ 12 ∧ (t.put p r).tm ≤ 5)) (w : Sto) : greplaced c [.dat t.d, .dat (pathD p), .dat r.d] w = some (.err c.wish [.tuple [.str "path", .tuple []]], w) := by
  refine def_err (w' := []) ?_
  rw [List.append_nil]
  show mreplaced c [some (.dat t.d), some (.dat (pathD p)), some (.dat r.d)] w = _
  unfold mreplaced
  refine (mSeq_nx (drop_of ((mCall_of (mCons_of (mV_of rfl) (mCons_of (mV_of rfl) nil_of))).trans (need_path_ok ho h1 h2 h w)))).trans ?_
  refine (mSeq_nx (drop_of ((mCall_of (mCons_of (mV_of rfl) nil_of)).trans (need_ok hr r1 r2 w)))).trans ?_
  have e := (mCall_of (g := putG) (ρ := [some (.dat t.d), some (.dat (pathD p)), some (.dat r.d)]) (w := w) (mCons_of (mV_of (i := 0) rfl) (mCons_of (mV_of (i := 1) rfl) (mCons_of (mV_of (i := 2) rfl) nil_of)))).trans (put_ok 24 ho h hp w)
  have e2 := (mCall_of (mCons_of e nil_of)).trans (need_bad (c := c) (put_wf ho hr h).1 (by have := (put_wf (r := r) ho hr h).2; omega) h3 w)
  show mBind (mCall (gneed_wish c) _ _) _ w = _
  unfold mBind
  rw [e2]
end
end K03
end EG


set_option Elab.async false
set_option linter.all false
set_option maxRecDepth 100000
set_option maxHeartbeats 1000000
namespace EG
open PySem PySem.Spec PyProof.Rows L2
namespace K03
theorem fzs_dat : ∀ (ds : List PyData) (w : Sto), fzs (ds.map SV.dat) w = some (ds, w)
  | [], w => rfl
  | d :: r, w => by simp [fzs, fz1, fzs_dat r]
theorem lst_of {es : Env → Mo (List SV)} {ρ : Env} {w w1 : Sto} {ds : List PyData} (h : es ρ w = some (.ok (ds.map SV.dat), w1)) (hl : ds.length ≤ 1000) : mLst es ρ w = some (.ok (.dat (.list ds)), w1) := by
  unfold mLst
  rw [mBind_of h]
  simp only [fzs_dat, fits_of hl, if_true]
/-- what stands at a path, by walking all parts -/
theorem here_ok {t u : Wi} {p : List Int} (h : (p, u) ∈ Wi.pieces [] t) : ∃ r, (((Wi.pieces [] t).map pcD).filter fun d => match d with | .tuple [a, _] => (eqDD a (pathD p)).getD false | _ => false).map (fun d => match d with | .tuple [_, b] => b | d => d) = u.d :: r := by
  have gen : ∀ l : List PW, (∀ q ∈ l, t.at q.1 = some q.2) → (p, u) ∈ l → ∃ r, ((l.map pcD).filter fun d => match d with | .tuple [a, _] => (eqDD a (pathD p)).getD false | _ => false).map (fun d => match d with | .tuple [_, b] => b | d => d) = u.d :: r := fun l => by
    induction l with
    | nil => intro _ h; cases h
    | cons q l ih =>
      intro ha hm
      have e : (match pcD q with | .tuple [a, _] => (eqDD a (pathD p)).getD false | _ => false) = decide (q.1 = p) := by
        show (eqDD (pathD q.1) (pathD p)).getD false = _
        rw [eqDD_path]
        rfl
      by_cases c : q.1 = p
      · rw [List.map_cons, List.filter_cons_of_pos (by rw [e]; simp [c])]
        have a1 := ha q List.mem_cons_self
        have a2 := ha (p, u) hm
        rw [c] at a1
        have : q.2 = u := Option.some.inj (a1.symm.trans a2)
        exact ⟨_, by rw [List.map_cons, ← this]; rfl⟩
      · rw [List.map_cons, List.filter_cons_of_neg (by rw [e]; simp [c])]
        rcases List.mem_cons.mp hm with z | z
        · rw [← z] at c; exact absurd rfl c
        · exact ih (fun q hq => ha q (List.mem_cons_of_mem _ hq)) z
  exact gen _ (mem_at t) h
theorem tm_count (t : Wi) (ho : t.ok) : ∀ p, ((Wi.pieces p t).filter fun q => Wi.isT q.2.word).length = t.tm := by
  induction t with
  | lf x => intro p; rcases leaf_cases ho with rfl | rfl <;> rfl
  | mk i => intro p; rfl
  | un x f ih =>
    intro p
    have := ih ho.2 (p ++ [1])
    by_cases q : Wi.isT x = true
    · rw [Wi.pieces, List.filter_cons_of_pos (by exact q), List.length_cons, this]; simp [Wi.tm, q]
    · rw [Wi.pieces, List.filter_cons_of_neg (by exact q), this]; simp [Wi.tm, q]
  | bi x f g ih ih2 =>
    intro p
    have a := ih ho.2.1 (p ++ [1])
    have b := ih2 ho.2.2 (p ++ [2])
    by_cases q : Wi.isT x = true
    · rw [Wi.pieces, List.filter_cons_of_pos (by exact q), List.length_cons, List.filter_append, List.length_append, a, b]; simp [Wi.tm, q]
    · rw [Wi.pieces, List.filter_cons_of_neg (by exact q), List.filter_append, List.length_append, a, b]; simp [Wi.tm, q]
theorem tstT (ρ : Env) (w : Sto) : mTup (mCons (mC (.str "next")) (mCons (mC (.str "till")) (mCons (mC (.str "ever")) (mCons (mC (.str "always")) mNil)))) ρ w = some (.ok (.dat (.tuple (List.map PyData.str ["next", "till", "ever", "always"]))), w) := by
  simp [mTup, mCons, mNil, mC, mBind, mPure, fzs, fz1, fits_of]
def wordD : PyData → PyData
  | .tuple [_, .tuple (x :: _)] => x
  | d => d
theorem wordD_pc (q : PW) : wordD (pcD q) = .str q.2.word := by
  obtain ⟨a, b⟩ := q
  cases b <;> rfl
abbrev rE (a p r : PyData) (l : List (Option SV)) : Env := some (.dat a) :: some (.dat p) :: some (.dat r) :: l
/-- .. in the stores that come up -/
theorem lc_ok2 {set : PyData → Env → Mo Env} {cond : Env → Mo Bool} {elt : Env → Mo SV} {ρ : Env} {w : Sto} (ρd : PyData → Env) (p : PyData → Bool) (F : PyData → PyData) : ∀ {ds acc : List PyData}, (∀ d ∈ ds, ∀ y, set d ρ (w ++ [y]) = some (.ok (ρd d), w ++ [y]) ∧ cond (ρd d) (w ++ [y]) = some (.ok (p d), w ++ [y]) ∧ (p d = true → elt (ρd d) (w ++ [y]) = some (.ok (.dat (F d)), w ++ [y]))) →
    acc.length + ds.length ≤ sizeLine → lcL w.length set cond elt ds ρ (w ++ [.lst acc]) = some (.ok (), w ++ [.lst (acc ++ (ds.filter p).map F)])
  | [], acc, _, _ => by simp [lcL, mPure]
  | d :: r, acc, h, hz => by
    obtain ⟨h1, h2, h3⟩ := h d List.mem_cons_self (.lst acc)
    have hz' : acc.length + (r.length + 1) ≤ sizeLine := hz
    unfold lcL
    rw [mBind_of h1, mBind_of h2]
    cases hp : p d with
    | false =>
      simp only [Bool.false_eq_true, if_false]
      rw [lc_ok2 ρd p F (fun d hd => h d (List.mem_cons_of_mem _ hd)) (by omega)]
      simp [hp]
    | true =>
      have hs : ∀ y, (w ++ [SO.lst acc]).set w.length y = w ++ [y] := fun y => by simp
      have hl : acc.length < sizeLine := by omega
      simp only [if_true]
      rw [show ∀ f : SV → Mo Unit, mBind (elt (ρd d)) f (w ++ [SO.lst acc]) = f (.dat (F d)) (w ++ [SO.lst acc]) from fun f => mBind_of (h3 hp)]
      simp only [fz1, List.getElem?_concat_length, if_pos hl, hs]
      rw [lc_ok2 ρd p F (acc := acc ++ [F d]) (fun d hd => h d (List.mem_cons_of_mem _ hd)) (by rw [List.length_append, List.length_singleton]; omega)]
      simp [hp]
theorem begun_okT (o : SO) (ns : List Int) (hz : ns.length ≤ 63) : ∃ cs : List Int, cs.length = 64 ∧ g_law_begun [.scr ns] [o] = some (.ok (.obj 3), [o, .dead, .dead, .draw cs (greats ns) 0]) := by
  obtain ⟨cs, hl, hf⟩ := folded_ok ns [o, .dic []]
  refine ⟨cs, hl, ?_⟩
  have e1 : mDisp [Sum.inr "cells", Sum.inr "great", Sum.inr "spot"] (mCons (mCall g_law_folded (mCons (mV 0) mNil)) (mCons (mLst mNil) (mCons (mC (.int 0)) mNil))) [some (.scr ns), none, none] [o] = some (.ok (.obj 1), [o, .dic [(Sum.inr "cells", .list (cs.map .int)), (Sum.inr "great", .list []), (Sum.inr "spot", .int 0)]]) := by
    simp [mBind, mPure, mSeq, mAsg, mBin, mUn, mV, mC, mRet, gI, mDef, endO, startE, fzR, mCons, mNil, mDisp, mCall, hf, mLst, fzs, fz1, dspO, fitsN, sizeLine_eq]
  have e2 : mLcO (mItemsL (mV 0)) [2] (mSet 2) mYes (mIf (mTB (mBin (mV 2) (mBin (mC (.int 10)) (mC (.int 18)) gPow) gGe)) (mV 2) (mC (.int 0))) [some (.scr ns), some (.obj 1), none] [o, .dic [(Sum.inr "cells", .list (cs.map .int)), (Sum.inr "great", .list []), (Sum.inr "spot", .int 0)]] =
      some (.ok (.obj 2), [o, .dic [(Sum.inr "cells", .list (cs.map .int)), (Sum.inr "great", .list []), (Sum.inr "spot", .int 0)], .lst ((greats ns).map .int)]) := by
    have e := lc_ok (set := mSet 2) (cond := mYes) (elt := mIf (mTB (mBin (mV 2) (mBin (mC (.int 10)) (mC (.int 18)) gPow) gGe)) (mV 2) (mC (.int 0))) (ρ := wipeE [some (.scr ns), some (.obj 1), none] [2]) (w := [o, .dic [(Sum.inr "cells", .list (cs.map .int)), (Sum.inr "great", .list []), (Sum.inr "spot", .int 0)]])
      (fun d => [some (.scr ns), some (.obj 1), some (.dat d)]) (fun _ => true) (fun d => match d with | .int c => .int (if 1000000000000000000 ≤ c then c else 0) | d => d) (ds := ns.map .int) (acc := []) (fun d hd w' => by
        obtain ⟨c, hc, rfl⟩ := List.mem_map.mp hd
        refine ⟨rfl, rfl, fun _ => ?_⟩
        by_cases z : 1000000000000000000 ≤ c
        · simp [mBind, mPure, mSeq, mAsg, mBin, mUn, mV, mC, mRet, gI, mDef, endO, startE, fzR, mCons, mNil, mIf, mTB, z]
        · simp [mBind, mPure, mSeq, mAsg, mBin, mUn, mV, mC, mRet, gI, mDef, endO, startE, fzR, mCons, mNil, mIf, mTB, z]) (by rw [List.length_map, List.length_nil, sizeLine_eq]; omega)
    have g : mItemsL (mV 0) [some (.scr ns), some (.obj 1), none] [o, .dic [(Sum.inr "cells", .list (cs.map .int)), (Sum.inr "great", .list []), (Sum.inr "spot", .int 0)]] = some (.ok (ns.map .int), [o, .dic [(Sum.inr "cells", .list (cs.map .int)), (Sum.inr "great", .list []), (Sum.inr "spot", .int 0)]]) := rfl
    unfold mLcO
    rw [mBind_of g]
    simp only [e]
    simp [mBind, mPure, mSeq, mAsg, mBin, mUn, mV, mC, mRet, gI, mDef, endO, startE, fzR, mCons, mNil, greats]
    rw [List.filter_eq_self.mpr (by simp [mBind, mPure, mSeq, mAsg, mBin, mUn, mV, mC, mRet, gI, mDef, endO, startE, fzR, mCons, mNil]), List.map_map]
    rfl
  have e3 : m_law_begun [some (.scr ns), none, none] [o] = some (.ok (.rt (.obj 3)), [o, .dead, .dead, .draw cs (greats ns) 0]) := by
    unfold m_law_begun
    refine (mSeq_nx (mAsg_of e1)).trans ?_
    refine (mSeq_nx (ρ1 := [some (.scr ns), some (.obj 3), none]) (w1 := [o, .dead, .dead, .draw cs (greats ns) 0]) ?_).trans ?_
    · refine (mBind_of e2).trans ?_
      simp [mBind, mPure, mSeq, mAsg, mBin, mUn, mV, mC, mRet, gI, mDef, endO, startE, fzR, mCons, mNil, begO, ints_eq]
    · simp [mBind, mPure, mSeq, mAsg, mBin, mUn, mV, mC, mRet, gI, mDef, endO, startE, fzR, mCons, mNil]
  show endO 1 (m_law_begun [some (.scr ns), none, none] [o]) = _
  rw [e3]
  simp [mBind, mPure, mSeq, mAsg, mBin, mUn, mV, mC, mRet, gI, mDef, endO, startE, fzR, mCons, mNil]
abbrev lamQ : Str := "_law_right.<locals>.<lambda>"
theorem told_tail (c : Cs) (w : Sto) : m_law_told c ((headE 5 1 2).set 2 (some (.exc (c.wish, [("path", .tuple [])])))) w = some (.ok (.rt (.dat (.tuple [.str "wish", .tuple []]))), w) := by
  have s1 : SeqAt.shaped (.int 1) = true := by decide +kernel
  have s2 : (PyData.int 1).eqv (PyData.int 1) = true := by decide +kernel
  simp [s1, s2, m_law_told, headE, gIsNo, isNo, gIsE, gFld, sizeLine_eq, mBind, mPure, mSeq, mAsg, mBin, mUn, mV, mC, mRet, gI, mDef, endO, startE, fzR, mCons, mNil, mCall, mTB, mOr, mAnd, mNot, mIfS, mIf, mTup, mLst, mLstO, fzs, fz1, gIsi, toD, tyD, isT, gIx, itemsD, atD, ixN, gLen, lenD, gEq, gNe, eqDD, mSkip, mOrV, mAndV, mNotV, gIn, flatD, eqF, fitsN, mChain, gInW, gIxW, mSet, mSets, mSetT, mAsgG, mPop, mExt, extO, toL, mAugI, mAsg2, mDrop, mApp, appO, isLst, gRevL, mCut, gCut, mPart, mNoP, gCat, mTr, mItemsT, mItemsL, mEnumK, mRaise, gTuple, gInt]
theorem right_ok {c : Cs} {t u r : Wi} {p : List Int} (ho : t.ok) (h1 : t.size ≤ 12) (h2 : t.tm ≤ 5) (hm : (p, u) ∈ Wi.pieces [] t) (hr : r.ok) (r1 : r.size ≤ 8) (r2 : r.tm ≤ 3) (w : Sto) (hT : isTab w 0 c.tab lamQ = true) : g_law_right c [.dat t.d, .dat (pathD p), .dat r.d] w = some (.ok (.dat (.bool true)), w) := by
  have h : t.at p = some u := mem_at t _ hm
  have hp : p.length < 24 := by have := pieces_path t [] _ hm; simp at this; omega
  have hents := path_ents t [] (fun _ z => nomatch z) _ hm
  obtain ⟨here, hhere⟩ := here_ok hm
  have hu := at_ok ho h
  obtain ⟨fo, fz⟩ := put_wf (r := r) ho hr h
  -- all that is told
  generalize hE : evenB t p = e at *
  refine def_dat (w' := []) ?_
  rw [List.append_nil]
  show m_law_right c (rE t.d (pathD p) r.d [none, none, none, none, none, none, none, none, none, none, none]) w = _
  unfold m_law_right
  have s1 : ∀ l, mCall g_law_is_even (mCons (mV 0) (mCons (mV 1) mNil)) (rE t.d (pathD p) r.d l) w = some (.ok (.dat (.bool e)), w) := fun l => by
    have := (mCall_of (g := g_law_is_even) (ρ := rE t.d (pathD p) r.d l) (w := w) (mCons_of (mV_of (i := 0) rfl) (mCons_of (mV_of (i := 1) rfl) nil_of))).trans (law_even_ok ho h w)
    rw [hE] at this
    exact this
  refine (mSeq_nx (ρ1 := rE t.d (pathD p) r.d [some (.dat (.bool e)), none, none, none, none, none, none, none, none, none, none]) (w1 := w) (mAsg_of (s1 _))).trans ?_
  refine (mSeq_nx (ρ1 := rE t.d (pathD p) r.d [some (.dat (.bool e)), some (.dat (.list [(cst (!e)).d, (cst e).d])), none, none, none, none, none, none, none, none, none]) (w1 := w) (mAsg_of (v := .dat (.list [(cst (!e)).d, (cst e).d])) ?_)).trans ?_
  · show mBind (mTB (mV 3) _) (fun k => if k then _ else _) w = _
    rw [mBind_of (mTB_of (mV_of rfl))]
    cases e
    · exact lst_of (ds := [.tuple [.str "true"], .tuple [.str "false"]]) (mCons_of tupW (mCons_of tupW nil_of)) (by decide)
    · exact lst_of (ds := [.tuple [.str "false"], .tuple [.str "true"]]) (mCons_of tupW (mCons_of tupW nil_of)) (by decide)
  -- here
  refine (mSeq_nx (ρ1 := rE t.d (pathD p) r.d [some (.dat (.bool e)), some (.dat (.list [(cst (!e)).d, (cst e).d])), some (.dat u.d), none, none, none, none, none, none, none, none]) (w1 := w) (mAsg_of (v := .dat u.d) ?_)).trans ?_
  · have it : mItemsL (mCall piecesG (mCons (mV 0) mNil)) (rE t.d (pathD p) r.d [some (.dat (.bool e)), some (.dat (.list [(cst (!e)).d, (cst e).d])), none, none, none, none, none, none, none, none, none]) w = some (.ok ((Wi.pieces [] t).map pcD), w) := by
      unfold mItemsL
      rw [mBind_of ((mCall_of (mCons_of (mV_of rfl) nil_of)).trans (pieces_ok 24 ho (by omega) (by omega) w))]
    have l := lc_ok (set := mSetT [(mSet 12), (mSet 13)]) (cond := mTB (mBin (mV 12) (mV 1) gEq)) (elt := mV 13) (ρ := rE t.d (pathD p) r.d [some (.dat (.bool e)), some (.dat (.list [(cst (!e)).d, (cst e).d])), none, none, none, none, none, none, none, none, none]) (w := w)
      (fun d => match d with | .tuple [a, b] => rE t.d (pathD p) r.d [some (.dat (.bool e)), some (.dat (.list [(cst (!e)).d, (cst e).d])), none, none, none, none, none, none, none, some (.dat a), some (.dat b)] | _ => [])
      (fun d => match d with | .tuple [a, _] => (eqDD a (pathD p)).getD false | _ => false) (fun d => match d with | .tuple [_, b] => b | d => d) (ds := (Wi.pieces [] t).map pcD) (acc := []) (fun d hd w' => by
        obtain ⟨q, hq, rfl⟩ := List.mem_map.mp hd
        refine ⟨rfl, ?_, fun _ => rfl⟩
        refine mTB_of (mBin_of (mV_of rfl) (mV_of rfl) ?_)
        show gEq (.dat (pathD q.1)) (.dat (pathD p)) w' = some (.dat (.bool ((eqDD (pathD q.1) (pathD p)).getD false)))
        simp only [gEq, toD, eqDD_path]
        rfl) (by have := sz; simp [pieces_len]; omega)
    rw [List.nil_append, hhere] at l
    exact lst_at (mLc_of it l) (i := 0) rfl (atD0 _ _)
  have g1 : ∀ (g : Fn) (l : List (Option SV)) (d : PyData), (∀ w, g [.dat t.d, .dat (pathD p)] w = some (.ok (.dat d), w)) → mCall g (mCons (mV 0) (mCons (mV 1) mNil)) (rE t.d (pathD p) r.d l) w = some (.ok (.dat d), w) := fun g l d hg => (mCall_of (mCons_of (mV_of rfl) (mCons_of (mV_of rfl) nil_of))).trans (hg w)
  have pl := fun w => is_plain_ok (c := c) ho h1 h2 h w
  have wo := fun w => worst_ok (c := c) ho h1 h2 h w
  have ha := fun w => hardened_ok (c := c) ho h1 h2 h hp w
  have so := fun w => softened_ok (c := c) ho h1 h2 h hp w
  simp only [hE] at pl wo ha so
  let due : List PyData := [u.d, .bool e, (cst (!e)).d, (t.put p (cst (!e))).d, (t.put p (cst e)).d]
  refine (mSeq_nx (ρ1 := rE t.d (pathD p) r.d [some (.dat (.bool e)), some (.dat (.list [(cst (!e)).d, (cst e).d])), some (.dat u.d), some (.dat (.list due)), none, none, none, none, none, none, none]) (w1 := w) (mAsg_of (v := .dat (.list due)) ?_)).trans ?_
  · exact lst_of (ds := due) (mCons_of (g1 _ _ _ fun w => part_at_ok ho h1 h2 h w) (mCons_of (g1 _ _ _ pl) (mCons_of (g1 _ _ _ wo) (mCons_of (g1 _ _ _ ha) (mCons_of (g1 _ _ _ so) nil_of))))) (by simp [due])
  have wi : ∀ (l : List (Option SV)) (m : Env → Mo SV) (x : Wi), m (rE t.d (pathD p) r.d l) w = some (.ok (.dat x.d), w) → mCall withG (mCons (mV 0) (mCons (mV 1) (mCons m mNil))) (rE t.d (pathD p) r.d l) w = some (.ok (.dat (t.put p x).d), w) := fun l m x hx => (mCall_of (mCons_of (mV_of rfl) (mCons_of (mV_of rfl) (mCons_of hx nil_of)))).trans (with_ok 24 ho h hp w)
  refine (mSeq_nx (ρ1 := rE t.d (pathD p) r.d [some (.dat (.bool e)), some (.dat (.list [(cst (!e)).d, (cst e).d])), some (.dat u.d), some (.dat (.list due)), some (.dat (.list due)), none, none, none, none, none, none]) (w1 := w) (mAsg_of (v := .dat (.list due)) ?_)).trans ?_
  · have c0 : mBin (mV 4) (mC (.int 0)) gIx (rE t.d (pathD p) r.d [some (.dat (.bool e)), some (.dat (.list [(cst (!e)).d, (cst e).d])), some (.dat u.d), some (.dat (.list due)), none, none, none, none, none, none, none]) w = some (.ok (.dat (cst (!e)).d), w) := lst_at (mV_of rfl) (i := 0) rfl (atD0 _ _)
    have c1 : mBin (mV 4) (mC (.int 1)) gIx (rE t.d (pathD p) r.d [some (.dat (.bool e)), some (.dat (.list [(cst (!e)).d, (cst e).d])), some (.dat u.d), some (.dat (.list due)), none, none, none, none, none, none, none]) w = some (.ok (.dat (cst e).d), w) := lst_at (mV_of rfl) (i := 1) rfl (atD1 _ _ _)
    exact lst_of (ds := due) (mCons_of (mV_of rfl) (mCons_of (mV_of rfl) (mCons_of c0 (mCons_of (wi _ _ _ c0) (mCons_of (wi _ _ _ c1) nil_of))))) (by simp [due])
  have shw : ∀ (x : Wi), x.ok → x.size ≤ 24 → Sh x.d 24 480 := fun x hx hz => (sh_d hx).mono hz (by omega)
  have shp : ∀ b, Sh (t.put p (cst b)).d 24 480 := fun b => by
    have q := put_wf (r := cst b) ho (cst_ok b) h
    rw [cst_size] at q
    exact shw _ q.1 (by omega)
  have shd : Sh (.list due) 25 2500 := (sh_lst (ds := due) (dp := 24) (n := 480) (fun d hd => by
    have hd : d = u.d ∨ d = .bool e ∨ d = (cst (!e)).d ∨ d = (t.put p (cst (!e))).d ∨ d = (t.put p (cst e)).d := by simpa [due] using hd
    rcases hd with rfl | rfl | rfl | rfl | rfl
    · exact shw _ hu.1 (by omega)
    · exact (sh_bool e).mono (by omega) (by omega)
    · exact shw _ (cst_ok _) (by rw [cst_size]; omega)
    · exact shp _
    · exact shp _)).mono (by omega) (by simp [due])
  refine (mSeq_nx (ρ1 := rE t.d (pathD p) r.d [some (.dat (.bool e)), some (.dat (.list [(cst (!e)).d, (cst e).d])), some (.dat u.d), some (.dat (.list due)), some (.dat (.list due)), none, none, none, none, none, none]) (w1 := w) ?_).trans ?_
  · rw [mIfS_of (k := false)]
    · rfl
    · show mBind (mTB (mCall g_law_like _) _) (fun c => mPure (!c)) w = _
      rw [mBind_of (mTB_of ((mCall_of (mCons_of (mV_of rfl) (mCons_of (mV_of rfl) nil_of))).trans (like_ok shd (by omega) (by omega) w)))]
      rfl
  -- another part
  let far := t.put p r
  have fz2 : far.size ≤ 20 := by show (t.put p r).size ≤ 20; omega
  refine (mSeq_nx (ρ1 := rE t.d (pathD p) r.d [some (.dat (.bool e)), some (.dat (.list [(cst (!e)).d, (cst e).d])), some (.dat u.d), some (.dat (.list due)), some (.dat (.list due)), some (.dat far.d), none, none, none, none, none]) (w1 := w) (mAsg_of (wi _ _ r (mV_of rfl)))).trans ?_
  let words : List PyData := (Wi.pieces [] far).map fun q => .str q.2.word
  refine (mSeq_nx (ρ1 := rE t.d (pathD p) r.d [some (.dat (.bool e)), some (.dat (.list [(cst (!e)).d, (cst e).d])), some (.dat u.d), some (.dat (.list due)), some (.dat (.list due)), some (.dat far.d), some (.dat (.list words)), none, none, none, none]) (w1 := w) (mAsg_of (v := .dat (.list words)) ?_)).trans ?_
  · have it : mItemsL (mCall piecesG (mCons (mV 8) mNil)) (rE t.d (pathD p) r.d [some (.dat (.bool e)), some (.dat (.list [(cst (!e)).d, (cst e).d])), some (.dat u.d), some (.dat (.list due)), some (.dat (.list due)), some (.dat far.d), none, none, none, none, none]) w = some (.ok ((Wi.pieces [] far).map pcD), w) := by
      unfold mItemsL
      rw [mBind_of ((mCall_of (mCons_of (mV_of rfl) nil_of)).trans (pieces_ok 24 fo (by omega) (by omega) w))]
    refine mLc_of it ?_
    have l := lc_ok (set := mSetT [(mSet 12), (mSet 13)]) (cond := mYes) (elt := mBin (mV 13) (mC (.int 0)) gIx) (ρ := rE t.d (pathD p) r.d [some (.dat (.bool e)), some (.dat (.list [(cst (!e)).d, (cst e).d])), some (.dat u.d), some (.dat (.list due)), some (.dat (.list due)), some (.dat far.d), none, none, none, none, none]) (w := w)
      (fun d => match d with | .tuple [a, b] => rE t.d (pathD p) r.d [some (.dat (.bool e)), some (.dat (.list [(cst (!e)).d, (cst e).d])), some (.dat u.d), some (.dat (.list due)), some (.dat (.list due)), some (.dat far.d), none, none, none, some (.dat a), some (.dat b)] | _ => [])
      (fun _ => true) wordD (ds := (Wi.pieces [] far).map pcD) (acc := []) (fun d hd w' => by
        obtain ⟨q, hq, rfl⟩ := List.mem_map.mp hd
        refine ⟨rfl, rfl, fun _ => ?_⟩
        have := word_at (t := q.2) (i := 13) (w := w') (ρ := rE t.d (pathD p) r.d [some (.dat (.bool e)), some (.dat (.list [(cst (!e)).d, (cst e).d])), some (.dat u.d), some (.dat (.list due)), some (.dat (.list due)), some (.dat far.d), none, none, none, some (.dat (pathD q.1)), some (.dat q.2.d)]) rfl
        rw [wordD_pc]
        exact this) (by have := sz; simp [pieces_len]; omega)
    rw [List.filter_eq_self.mpr (fun _ _ => rfl), List.nil_append, List.map_map] at l
    have ew : (Wi.pieces [] far).map (wordD ∘ pcD) = words := List.map_congr_left fun q _ => wordD_pc q
    rw [ew] at l
    exact l
  let timed : List PyData := words.filter fun d => match d with | .str x => Wi.isT x | _ => false
  refine (mSeq_nx (ρ1 := rE t.d (pathD p) r.d [some (.dat (.bool e)), some (.dat (.list [(cst (!e)).d, (cst e).d])), some (.dat u.d), some (.dat (.list due)), some (.dat (.list due)), some (.dat far.d), some (.dat (.list words)), some (.dat (.list timed)), none, none, none]) (w1 := w) (mAsg_of (v := .dat (.list timed)) ?_)).trans ?_
  · have it : mItemsL (mV 9) (rE t.d (pathD p) r.d [some (.dat (.bool e)), some (.dat (.list [(cst (!e)).d, (cst e).d])), some (.dat u.d), some (.dat (.list due)), some (.dat (.list due)), some (.dat far.d), some (.dat (.list words)), none, none, none, none]) w = some (.ok words, w) := rfl
    refine mLc_of it ?_
    have l := lc_ok (set := mSet 11) (cond := mTB (mBin (mV 11) (mTup (mCons (mC (.str "next")) (mCons (mC (.str "till")) (mCons (mC (.str "ever")) (mCons (mC (.str "always")) mNil))))) (gIn false))) (elt := mV 11) (ρ := rE t.d (pathD p) r.d [some (.dat (.bool e)), some (.dat (.list [(cst (!e)).d, (cst e).d])), some (.dat u.d), some (.dat (.list due)), some (.dat (.list due)), some (.dat far.d), some (.dat (.list words)), none, none, none, none]) (w := w)
      (fun d => rE t.d (pathD p) r.d [some (.dat (.bool e)), some (.dat (.list [(cst (!e)).d, (cst e).d])), some (.dat u.d), some (.dat (.list due)), some (.dat (.list due)), some (.dat far.d), some (.dat (.list words)), none, some (.dat d), none, none])
      (fun d => match d with | .str x => Wi.isT x | _ => false) id (ds := words) (acc := []) (fun d hd w' => by
        obtain ⟨q, hq, rfl⟩ := List.mem_map.mp hd
        refine ⟨rfl, ?_, fun _ => rfl⟩
        have e := timed_in (x := q.2.word)
        refine mTB_of (mBin_of (mV_of rfl) (tstT _ _) ?_)
        simp only [List.map_cons, List.map_nil, gIn, toD, itemsD, Option.bind_some, flatD, List.all_cons, List.all_nil, Bool.and_self, if_true, Bool.false_eq_true, if_false, e]) (by have := sz; simp [words, pieces_len]; omega)
    rw [List.nil_append, List.map_id] at l
    exact l
  have wl : words.length = far.size := by simp [words, pieces_len]
  have tl : timed.length = far.tm := by
    have := tm_count far fo []
    rw [← this]
    show ((((Wi.pieces [] far).map fun q => PyData.str q.2.word)).filter fun d => match d with | .str x => Wi.isT x | _ => false).length = _
    rw [List.filter_map, List.length_map]
    rfl
  have big : mOr (mTB (mBin (mUn (mV 9) gLen) (mC (.int 12)) gGt)) (mTB (mBin (mUn (mV 10) gLen) (mC (.int 5)) gGt)) (rE t.d (pathD p) r.d [some (.dat (.bool e)), some (.dat (.list [(cst (!e)).d, (cst e).d])), some (.dat u.d), some (.dat (.list due)), some (.dat (.list due)), some (.dat far.d), some (.dat (.list words)), some (.dat (.list timed)), none, none, none]) w =
      some (.ok (decide (¬ (far.size ≤ 12 ∧ far.tm ≤ 5))), w) := by
    have a := mTB_of (mBin_of (mUn_of (mV_of (i := 9) (ρ := rE t.d (pathD p) r.d [some (.dat (.bool e)), some (.dat (.list [(cst (!e)).d, (cst e).d])), some (.dat u.d), some (.dat (.list due)), some (.dat (.list due)), some (.dat far.d), some (.dat (.list words)), some (.dat (.list timed)), none, none, none]) (w := w) rfl) (g := gLen) (v := .dat (.int far.size)) (by simp [gLen, toD, lenD, wl])) (mb := mC (.int 12)) (y := .dat (.int 12)) rfl (g := gGt) (v := .dat (.bool (decide ((12 : Int) < far.size)))) rfl)
    have b := mTB_of (mBin_of (mUn_of (mV_of (i := 10) (ρ := rE t.d (pathD p) r.d [some (.dat (.bool e)), some (.dat (.list [(cst (!e)).d, (cst e).d])), some (.dat u.d), some (.dat (.list due)), some (.dat (.list due)), some (.dat far.d), some (.dat (.list words)), some (.dat (.list timed)), none, none, none]) (w := w) rfl) (g := gLen) (v := .dat (.int far.tm)) (by simp [gLen, toD, lenD, tl])) (mb := mC (.int 5)) (y := .dat (.int 5)) rfl (g := gGt) (v := .dat (.bool (decide ((5 : Int) < far.tm)))) rfl)
    show mBind (mTB _ _) (fun c => if c then mPure true else mTB _ _) w = _
    rw [mBind_of a]
    by_cases q : (12 : Int) < far.size
    · have : ¬ (far.size ≤ 12 ∧ far.tm ≤ 5) := by omega
      simp only [q, decide_true, if_true, this, not_false_eq_true]
      rfl
    · simp only [q, decide_false, Bool.false_eq_true, if_false, b]
      have : decide ((5 : Int) < far.tm) = decide (¬ (far.size ≤ 12 ∧ far.tm ≤ 5)) := by rw [decide_eq_decide]; omega
      rw [this]
  have rep : ∀ l x, greplaced c [.dat t.d, .dat (pathD p), .dat r.d] w = x → mCall (greplaced c) (mCons (mV 0) (mCons (mV 1) (mCons (mV 2) mNil))) (rE t.d (pathD p) r.d l) w = x := fun l x hx => (mCall_of (mCons_of (mV_of rfl) (mCons_of (mV_of rfl) (mCons_of (mV_of rfl) nil_of)))).trans hx
  by_cases hb : far.size ≤ 12 ∧ far.tm ≤ 5
  · refine (mSeq_nx (ρ1 := rE t.d (pathD p) r.d [some (.dat (.bool e)), some (.dat (.list [(cst (!e)).d, (cst e).d])), some (.dat u.d), some (.dat (.list due)), some (.dat (.list due)), some (.dat far.d), some (.dat (.list words)), some (.dat (.list timed)), none, none, none]) (w1 := w) ?_).trans ?_
    · rw [mIfS_of big]
      simp [hb, mSkip, mPure]
    · have ok := replaced_ok (c := c) ho h1 h2 h hp hr (by omega) (by omega) hb.1 hb.2 w
      have sh2 : Sh (.list [far.d, far.d]) 25 1000 := (sh_lst (ds := [far.d, far.d]) (dp := 24) (n := 480) (fun d hd => by
        have : d = far.d := by simpa using hd
        rw [this]; exact shw _ fo (by omega))).mono (by omega) (by simp)
      exact mRet_dat ((mCall_of (mCons_of (lst_of (ds := [far.d, far.d]) (mCons_of (rep _ _ ok) (mCons_of (rep _ _ ok) nil_of)) (by simp)) (mCons_of (lst_of (ds := [far.d, far.d]) (mCons_of (mV_of rfl) (mCons_of (mV_of rfl) nil_of)) (by simp)) nil_of))).trans (like_ok sh2 (by omega) (by omega) w))
  · have bad := replaced_bad (c := c) ho h1 h2 h hp hr (by omega) (by omega) hb w
    have told : mTold c (mCall (greplaced c) (mCons (mV 0) (mCons (mV 1) (mCons (mV 2) mNil)))) (rE t.d (pathD p) r.d [some (.dat (.bool e)), some (.dat (.list [(cst (!e)).d, (cst e).d])), some (.dat u.d), some (.dat (.list due)), some (.dat (.list due)), some (.dat far.d), some (.dat (.list words)), some (.dat (.list timed)), none, none, none]) w = some (.ok (.dat (.tuple [.str "wish", .tuple []])), w) := by
      unfold mTold mTry
      rw [if_pos hT, rep _ _ bad]
      show (if c.wish ∈ [c.wish] then endR w.length (m_law_told c ((headE 5 1 2).set 2 (some (.exc (c.wish, [("path", .tuple [])])))) w) else none) = _
      rw [if_pos (by simp), told_tail]
      show some (Res.ok (SV.dat _), w.take w.length) = _
      rw [List.take_length]
    have f0 : fitsN 0 = true := fits_of (by decide)
    have nilT : ∀ ρ w, mTup mNil ρ w = some (.ok (.dat (.tuple [])), w) := fun ρ w => by simp [mTup, mNil, mBind, mPure, fzs, f0]
    have : mIfS (mOr (mTB (mBin (mUn (mV 9) gLen) (mC (.int 12)) gGt)) (mTB (mBin (mUn (mV 10) gLen) (mC (.int 5)) gGt))) (mRet (mBin (mTold c (mCall (greplaced c) (mCons (mV 0) (mCons (mV 1) (mCons (mV 2) mNil))))) (mTup (mCons (mC (.str "wish")) (mCons (mTup mNil) mNil))) gEq)) mSkip (rE t.d (pathD p) r.d [some (.dat (.bool e)), some (.dat (.list [(cst (!e)).d, (cst e).d])), some (.dat u.d), some (.dat (.list due)), some (.dat (.list due)), some (.dat far.d), some (.dat (.list words)), some (.dat (.list timed)), none, none, none]) w = some (.ok (.rt (.dat (.bool true))), w) := by
      rw [mIfS_of big]
      simp only [hb, not_false_eq_true, decide_true, if_true]
      refine mRet_dat (mBin_of told (tup2 (d := .str "wish") rfl (nilT _ _)) ?_)
      have sh : SeqAt.shaped (.tuple [.str "wish", .tuple []]) = true := by decide +kernel
      show (eqDD _ _).map _ = _
      rw [show eqDD (.tuple [.str "wish", .tuple []]) (.tuple [.str "wish", .tuple []]) = (if SeqAt.shaped (.tuple [.str "wish", .tuple []]) && SeqAt.shaped (.tuple [.str "wish", .tuple []]) then some (PyData.eqv (.tuple [.str "wish", .tuple []]) (.tuple [.str "wish", .tuple []])) else none) from rfl, sh]
      rfl
    unfold mSeq
    rw [mBind_of this]
    rfl
end K03
end EG


set_option Elab.async false
set_option linter.all false
set_option maxRecDepth 100000
set_option maxHeartbeats 1000000
namespace EG
open PySem PySem.Spec PyProof.Rows L2
namespace K03
theorem int_drawn {k : Nat} {cs : List Int} (hl : cs.length = 64) {a b : Int} {ρ : Env} {i : Nat} (hm : ρ[i]? = some (some (.obj k))) {w : Sto} {gs : List Int} {n : Int} (hk : w[k]? = some (.draw cs gs n)) (h0 : 0 ≤ n) (h1 : n ≤ 900000) :
    ∃ x gs', mBin (mLst (mCons (mC (.int a)) (mCons (mC (.int b)) mNil))) (mCall g_law_draw (mCons (mV i) (mCons (mC (.int 2)) mNil))) gIx ρ w = some (.ok (.dat (.int x)), w.set k (.draw cs gs' (n + 1))) ∧ (x = a ∨ x = b) := by
  obtain ⟨r, g1, r0, r1, e1⟩ := dr hl hk h0 h1 hm (X := mC (.int 2)) (L := 2) rfl (by omega) (by omega)
  have l := lst_of (ρ := ρ) (w := w) (w1 := w) (es := mCons (mC (.int a)) (mCons (mC (.int b)) mNil)) (ds := [.int a, .int b]) rfl (by simp)
  have : r = 0 ∨ r = 1 := by omega
  rcases this with rfl | rfl
  · exact ⟨a, g1, lst_at l e1 (atD0 _ _), .inl rfl⟩
  · exact ⟨b, g1, lst_at l e1 (atD1 _ _ _), .inr rfl⟩
theorem timedL_mem {t : Wi} (ho : t.ok) : (∀ e ∈ timedL t, ∃ u : Wi, u.ok ∧ u.size ≤ t.size ∧ e = u.d) ∧ (timedL t).length ≤ t.size := by
  have gen : ∀ (l : List PW) (acc : List PyData), (∀ q ∈ l, q.2.ok ∧ q.2.size ≤ t.size) → (∀ e ∈ acc, ∃ u : Wi, u.ok ∧ u.size ≤ t.size ∧ e = u.d) →
      (∀ e ∈ l.foldl (fun acc q => addT acc q.2) acc, ∃ u : Wi, u.ok ∧ u.size ≤ t.size ∧ e = u.d) ∧ (l.foldl (fun acc q => addT acc q.2) acc).length ≤ acc.length + l.length := fun l => by
    induction l with
    | nil => intro acc _ h; exact ⟨h, by simp⟩
    | cons q l ih =>
      intro acc hl ha
      obtain ⟨q1, q2⟩ := hl q List.mem_cons_self
      have h := ih (addT acc q.2) (fun x hx => hl x (List.mem_cons_of_mem _ hx)) (fun e he => by
        unfold addT at he
        split at he
        · rcases List.mem_append.mp he with z | z
          · exact ha e z
          · exact ⟨q.2, q1, q2, List.mem_singleton.mp z⟩
        · exact ha e he)
      have := addT_len (acc := acc) (u := q.2)
      exact ⟨h.1, by have := h.2; simp only [List.foldl_cons, List.length_cons]; omega⟩
  have := gen (Wi.pieces [] t) [] (fun q hq => pieces_sub t ho [] q hq) (fun _ h => nomatch h)
  refine ⟨this.1, ?_⟩
  have h := this.2
  rw [pieces_len] at h
  show ((Wi.pieces [] t).foldl (fun acc q => addT acc q.2) []).length ≤ _
  simpa using h
abbrev hopeG : Fn := recG ["m", "left", "timed", "pick", "leaf", "size", "near"] (m_law_hope) 13
abbrev lE (s : SV) (k : Nat) (a b d e f g h i j l m : Option SV) : Env := [some s, some (.obj k), a, b, d, e, f, g, h, i, j, l, m]
def waysD (t : Wi) : PyData := .tuple ((Wi.pieces [] t).map fun q => pathD q.1)
theorem eq_str (x : Str) (w : Sto) : gNe (.dat (.str x)) (.dat (.str x)) w = some (.dat (.bool false)) := by
  show (eqDD (.str x) (.str x)).map (fun b => SV.dat (.bool (!b))) = _
  rw [show eqDD (.str x) (.str x) = some (decide (x = x)) from rfl]
  simp
theorem isTab_set {w : Sto} {k : Nat} {o : SO} {P : Addr} {q : Str} (h : isTab w 0 P q = true) (hk : k ≠ 0) : isTab (w.set k o) 0 P q = true := by
  unfold isTab at h ⊢
  rw [List.getElem?_set_ne hk]
  exact h
theorem isTab_app {w : Sto} {y : SO} {P : Addr} {q : Str} (h : isTab w 0 P q = true) : isTab (w ++ [y]) 0 P q = true := by
  cases w with
  | nil => cases h
  | cons a r => exact h
theorem turn_ok {c : Cs} {k : Nat} {cs : List Int} (hl : cs.length = 64) {s : SV} {a b d e f g h i j l m : Option SV} {w : Sto} {gs : List Int} {n : Int} (hT : isTab w 0 c.tab lamQ = true) (hk0 : k ≠ 0) (hk : w[k]? = some (.draw cs gs n)) (h0 : 0 ≤ n) (h1 : n + 200 ≤ 900000) :
    ∃ (b' d' e' g' h' i' j' l' m' : Option SV) (gs' : List Int) (n' : Int), blaw0 c (lE s k a b d e f g h i j l m) w = some (.ok (.nx (lE s k a b' d' e' f g' h' i' j' l' m')), w.set k (.draw cs gs' n')) ∧ n ≤ n' ∧ n' ≤ n + 200 := by
  unfold blaw0
  -- a wish
  obtain ⟨x, g1, e1, hx⟩ := int_drawn hl (a := 12) (b := 6) (ρ := lE s k a b d e f g h i j l m) (i := 1) rfl hk h0 (by omega)
  have hk1 := at_set (gs' := g1) (n' := n + 1) hk
  obtain ⟨L, hL⟩ : ∃ L : Nat, (L : Int) = x := ⟨x.toNat, by omega⟩
  obtain ⟨t, g2, n2, e2, t1, t2, t3, m2, m2'⟩ := hope_ok (k := k) hl 13 (left := L) 5 (by omega) (by omega) (by omega) (w.set k (.draw cs g1 (n + 1))) g1 (n + 1) hk1 (by omega) (by omega)
  rw [set2] at e2
  have hk2 := at_set (gs' := g2) (n' := n2) hk
  -- a part
  obtain ⟨y, g3, e3, hy⟩ := int_drawn hl (a := 2) (b := 8) (ρ := lE s k a b d e f g h i j l m) (i := 1) rfl hk2 (by omega) (by omega)
  rw [set2] at e3
  have hk3 := at_set (gs' := g3) (n' := n2 + 1) hk
  obtain ⟨Y, hY⟩ : ∃ Y : Nat, (Y : Int) = y := ⟨y.toNat, by omega⟩
  obtain ⟨r, g4, n4, e4, r1, r2, r3, m4, m4'⟩ := hope_ok (k := k) hl 13 (left := Y) 3 (by omega) (by omega) (by omega) (w.set k (.draw cs g3 (n2 + 1))) g3 (n2 + 1) hk3 (by omega) (by omega)
  rw [set2] at e4
  rw [← hL] at e1
  rw [← hY] at e3
  have c1 := (mCall_of (g := hopeG) (mCons_of (mV_of (i := 1) rfl) (mCons_of e1 (mCons_of (a := mC (.int 5)) (x := .dat (.int 5)) rfl nil_of)))).trans e2
  have c2 := (mCall_of (g := hopeG) (mCons_of (mV_of (i := 1) rfl) (mCons_of e3 (mCons_of (a := mC (.int 3)) (x := .dat (.int 3)) rfl nil_of)))).trans e4
  obtain ⟨w2, hw2⟩ : ∃ w2 : Sto, w2 = w.set k (.draw cs g4 n4) := ⟨_, rfl⟩
  have hT2 : isTab w2 0 c.tab lamQ = true := by rw [hw2]; exact isTab_set hT hk0
  rw [← hw2] at c2
  have ht12 : t.size ≤ 12 := by omega
  have hr8 : r.size ≤ 8 := by omega
  have st1 : mAsgG (mTup (mCons (mCall hopeG (mCons (mV 1) (mCons (mBin (mLst (mCons (mC (.int 12)) (mCons (mC (.int 6)) mNil))) (mCall g_law_draw (mCons (mV 1) (mCons (mC (.int 2)) mNil))) gIx) (mCons (mC (.int 5)) mNil)))) (mCons (mCall hopeG (mCons (mV 1) (mCons (mBin (mLst (mCons (mC (.int 2)) (mCons (mC (.int 8)) mNil))) (mCall g_law_draw (mCons (mV 1) (mCons (mC (.int 2)) mNil))) gIx) (mCons (mC (.int 3)) mNil)))) mNil))) (mSetT [(mSet 3), (mSet 7)]) (lE s k a b d e f g h i j l m) w =
      some (.ok (.nx (lE s k a (some (.dat t.d)) d e f (some (.dat r.d)) h i j l m)), w2) := by
    unfold mAsgG
    rw [mBind_of (tup2 c1 c2)]
    rfl
  refine ⟨some (.dat t.d), some (.dat (.list [waysD t, waysD t, .tuple (timedL t), .tuple (timedL t)])), some (.dat (waysD t)), some (.dat r.d), some (.dat (.str (PyData.list [t.d, r.d]).shown)), some (.dat (.list ((Wi.pieces [] t).map pcD))), some (.dat (.tuple (timedL t))), l, m, g4, n4, ?_, by omega, by omega⟩
  rw [← hw2]
  refine (mSeq_nx st1).trans ?_
  have shT : Sh t.d 12 240 := (sh_d t1).mono ht12 (by omega)
  have shR : Sh r.d 12 240 := (sh_d r1).mono (by omega) (by omega)
  have shTR : Sh (.list [t.d, r.d]) 13 500 := (sh_lst (ds := [t.d, r.d]) (dp := 12) (n := 240) (fun z hz => by
    have hz : z = t.d ∨ z = r.d := by simpa using hz
    rcases hz with rfl | rfl
    · exact shT
    · exact shR)).mono (by omega) (by simp)
  have rp : ∀ (b' d' e' f' h' i' j' : Option SV), mUn (mLst (mCons (mV 3) (mCons (mV 7) mNil))) gRepr (lE s k a (some (.dat t.d)) d' e' f' (some (.dat r.d)) h' i' j' l m) w2 = some (.ok (.dat (.str (PyData.list [t.d, r.d]).shown)), w2) := fun b' d' e' f' h' i' j' =>
    mUn_of (lst_of (ds := [t.d, r.d]) (mCons_of (mV_of rfl) (mCons_of (mV_of rfl) nil_of)) (by simp)) (repr_ok shTR (by omega) (by omega) w2)
  refine (mSeq_nx (ρ1 := lE s k a (some (.dat t.d)) d e f (some (.dat r.d)) (some (.dat (.str (PyData.list [t.d, r.d]).shown))) (some (.dat (.list ((Wi.pieces [] t).map pcD)))) j l m) (w1 := w2) ?_).trans ?_
  · have pc := (mCall_of (g := piecesG) (ρ := lE s k a (some (.dat t.d)) d e f (some (.dat r.d)) h i j l m) (w := w2) (mCons_of (mV_of (i := 3) rfl) nil_of)).trans (pieces_ok 24 t1 (by omega) (by omega) w2)
    unfold mPar
    rw [mBind_of (mCons_of (rp none _ _ _ _ _ _) (mCons_of pc nil_of))]
    rfl
  have call1 : ∀ (G : Fn) (v : PyData) (d' e' h' i' j' : Option SV), (∀ w, G [.dat t.d] w = some (.ok (.dat v), w)) → mCall G (mCons (mV 3) mNil) (lE s k a (some (.dat t.d)) d' e' f (some (.dat r.d)) h' i' j' l m) w2 = some (.ok (.dat v), w2) := fun G v d' e' h' i' j' hG => (mCall_of (mCons_of (mV_of rfl) nil_of)).trans (hG w2)
  refine (mSeq_nx (ρ1 := lE s k a (some (.dat t.d)) (some (.dat (.list [waysD t, waysD t, .tuple (timedL t), .tuple (timedL t)]))) e f (some (.dat r.d)) (some (.dat (.str (PyData.list [t.d, r.d]).shown))) (some (.dat (.list ((Wi.pieces [] t).map pcD)))) j l m) (w1 := w2) (mAsg_of (v := .dat (.list [waysD t, waysD t, .tuple (timedL t), .tuple (timedL t)])) ?_)).trans ?_
  · have p1 := call1 (gpaths c) (waysD t) d e (some (.dat (.str (PyData.list [t.d, r.d]).shown))) (some (.dat (.list ((Wi.pieces [] t).map pcD)))) j (fun w => paths_ok t1 ht12 t3 w)
    have p2 := call1 (gtimed_parts c) (.tuple (timedL t)) d e (some (.dat (.str (PyData.list [t.d, r.d]).shown))) (some (.dat (.list ((Wi.pieces [] t).map pcD)))) j (fun w => timed_parts_ok t1 ht12 t3 w)
    exact lst_of (ds := [waysD t, waysD t, .tuple (timedL t), .tuple (timedL t)]) (mCons_of p1 (mCons_of p1 (mCons_of p2 (mCons_of p2 nil_of)))) (by simp)
  refine (mSeq_nx (ρ1 := lE s k a (some (.dat t.d)) (some (.dat (.list [waysD t, waysD t, .tuple (timedL t), .tuple (timedL t)]))) (some (.dat (waysD t))) f (some (.dat r.d)) (some (.dat (.str (PyData.list [t.d, r.d]).shown))) (some (.dat (.list ((Wi.pieces [] t).map pcD)))) (some (.dat (.tuple (timedL t)))) l m) (w1 := w2) ?_).trans ?_
  · have lc := lc_ok (set := mSetT [(mSet 11), (mSet 12)]) (cond := mYes) (elt := mV 11) (ρ := lE s k a (some (.dat t.d)) (some (.dat (.list [waysD t, waysD t, .tuple (timedL t), .tuple (timedL t)]))) e f (some (.dat r.d)) (some (.dat (.str (PyData.list [t.d, r.d]).shown))) (some (.dat (.list ((Wi.pieces [] t).map pcD)))) j none none) (w := w2)
      (fun z => match z with | .tuple [p, q] => lE s k a (some (.dat t.d)) (some (.dat (.list [waysD t, waysD t, .tuple (timedL t), .tuple (timedL t)]))) e f (some (.dat r.d)) (some (.dat (.str (PyData.list [t.d, r.d]).shown))) (some (.dat (.list ((Wi.pieces [] t).map pcD)))) j (some (.dat p)) (some (.dat q)) | _ => [])
      (fun _ => true) (fun z => match z with | .tuple [p, _] => p | z => z) (ds := (Wi.pieces [] t).map pcD) (acc := []) (fun z hz w' => by
        obtain ⟨q, hq, rfl⟩ := List.mem_map.mp hz
        exact ⟨rfl, rfl, fun _ => rfl⟩) (by have := sz; simp [pieces_len]; omega)
    rw [List.filter_eq_self.mpr (fun _ _ => rfl), List.nil_append, List.map_map] at lc
    have a1 : mUn (mLc (mItemsL (mV 9)) [11, 12] (mSetT [(mSet 11), (mSet 12)]) mYes (mV 11)) gTuple (lE s k a (some (.dat t.d)) (some (.dat (.list [waysD t, waysD t, .tuple (timedL t), .tuple (timedL t)]))) e f (some (.dat r.d)) (some (.dat (.str (PyData.list [t.d, r.d]).shown))) (some (.dat (.list ((Wi.pieces [] t).map pcD)))) j l m) w2 = some (.ok (.dat (waysD t)), w2) := by
      refine mUn_of (mLc_of (w1 := w2) rfl lc) ?_
      rfl
    have a2 := mUn_of (g := gTuple) (v := .dat (.tuple (timedL t))) (call1 g_law_timed (.list (timedL t)) (some (.dat (.list [waysD t, waysD t, .tuple (timedL t), .tuple (timedL t)]))) e (some (.dat (.str (PyData.list [t.d, r.d]).shown))) (some (.dat (.list ((Wi.pieces [] t).map pcD)))) j (fun w => law_timed_ok t1 (by omega) w)) rfl
    unfold mPar
    rw [mBind_of (mCons_of a1 (mCons_of a2 nil_of))]
    rfl
  -- all alike
  have tmem := timedL_mem t1
  have shW : Sh (waysD t) 13 4000 := (sh_tup (ds := (Wi.pieces [] t).map fun q : PW => pathD q.1) (dp := 1) (n := 300) (fun z hz => by
    obtain ⟨q, hq, rfl⟩ := List.mem_map.mp hz
    have := pieces_path t [] q hq
    exact sh_path (path_ents t [] (fun _ z => nomatch z) q hq) (by simp at this; omega))).mono (by omega) (by simp [pieces_len]; omega)
  have shX : Sh (.tuple (timedL t)) 13 4000 := (sh_tup (ds := timedL t) (dp := 12) (n := 240) (fun z hz => by
    obtain ⟨u, u1, u2, rfl⟩ := tmem.1 z hz
    exact (sh_d u1).mono (by omega) (by omega))).mono (by omega) (by have := tmem.2; have : (timedL t).length * (240 + 2) ≤ 12 * 242 := Nat.mul_le_mul (by omega) (by omega); omega)
  have shA : Sh (.list [waysD t, waysD t, .tuple (timedL t), .tuple (timedL t)]) 14 20000 := (sh_lst (ds := [waysD t, waysD t, .tuple (timedL t), .tuple (timedL t)]) (dp := 13) (n := 4000) (fun z hz => by
    have hz : z = waysD t ∨ z = .tuple (timedL t) := by simpa using hz
    rcases hz with rfl | rfl
    · exact shW
    · exact shX)).mono (by omega) (by simp)
  generalize hR : lE s k a (some (.dat t.d)) (some (.dat (.list [waysD t, waysD t, .tuple (timedL t), .tuple (timedL t)]))) (some (.dat (waysD t))) f (some (.dat r.d)) (some (.dat (.str (PyData.list [t.d, r.d]).shown))) (some (.dat (.list ((Wi.pieces [] t).map pcD)))) (some (.dat (.tuple (timedL t)))) l m = ρ
  have v3 : ρ[3]? = some (some (.dat t.d)) := by rw [← hR]; rfl
  have v4 : ρ[4]? = some (some (.dat (.list [waysD t, waysD t, .tuple (timedL t), .tuple (timedL t)]))) := by rw [← hR]; rfl
  have v5 : ρ[5]? = some (some (.dat (waysD t))) := by rw [← hR]; rfl
  have v7 : ρ[7]? = some (some (.dat r.d)) := by rw [← hR]; rfl
  have v8 : ρ[8]? = some (some (.dat (.str (PyData.list [t.d, r.d]).shown))) := by rw [← hR]; rfl
  have v10 : ρ[10]? = some (some (.dat (.tuple (timedL t)))) := by rw [← hR]; rfl
  refine (mSeq_nx (ρ1 := ρ) (w1 := w2) ?_).trans ?_
  · rw [mIfS_of (k := false)]
    · rfl
    · show mBind (mTB (mCall g_law_like _) _) (fun c => mPure (!c)) w2 = _
      rw [mBind_of (mTB_of ((mCall_of (mCons_of (mV_of v4) (mCons_of (lst_of (ds := [waysD t, waysD t, .tuple (timedL t), .tuple (timedL t)]) (mCons_of (mV_of v5) (mCons_of (mV_of v5) (mCons_of (mV_of v10) (mCons_of (mV_of v10) nil_of)))) (by simp)) nil_of))).trans (like_ok shA (by omega) (by omega) w2)))]
      rfl
  · have it : mItemsT (mV 5) ρ w2 = some (.ok ((Wi.pieces [] t).map fun q => pathD q.1), w2) := by
      unfold mItemsT
      rw [mBind_of (mV_of v5)]
      rfl
    have lc := lc_ok2 (set := mSet 11) (cond := mNot (mTB (mCall (g_law_right c) (mCons (mV 3) (mCons (mV 11) (mCons (mV 7) mNil)))))) (elt := mV 11) (ρ := wipeE ρ [11]) (w := w2) (fun z => (wipeE ρ [11]).set 11 (some (.dat z))) (fun _ => false) id (ds := (Wi.pieces [] t).map fun q => pathD q.1) (acc := []) (fun z hz w' => by
        obtain ⟨q, hq, rfl⟩ := List.mem_map.mp hz
        refine ⟨rfl, ?_, fun hh => nomatch hh⟩
        have q3 : ((wipeE ρ [11]).set 11 (some (.dat (pathD q.1))))[3]? = some (some (.dat t.d)) := by rw [← hR]; rfl
        have q7 : ((wipeE ρ [11]).set 11 (some (.dat (pathD q.1))))[7]? = some (some (.dat r.d)) := by rw [← hR]; rfl
        have q11 : ((wipeE ρ [11]).set 11 (some (.dat (pathD q.1))))[11]? = some (some (.dat (pathD q.1))) := by rw [← hR]; rfl
        show mBind (mTB (mCall (g_law_right c) _) _) (fun c => mPure (!c)) (w2 ++ [w']) = _
        rw [mBind_of (mTB_of ((mCall_of (mCons_of (mV_of q3) (mCons_of (mV_of q11) (mCons_of (mV_of q7) nil_of)))).trans (right_ok (u := q.2) t1 ht12 t3 hq r1 hr8 r3 (w2 ++ [w']) (isTab_app hT2))))]
        rfl) (by have := sz; simp [pieces_len]; omega)
    have em : ([] ++ (((Wi.pieces [] t).map fun q => pathD q.1).filter fun _ => false).map id) = ([] : List PyData) := by simp
    rw [em] at lc
    have t1' : mTB (mBin (mLc (mItemsT (mV 5)) [11] (mSet 11) (mNot (mTB (mCall (g_law_right c) (mCons (mV 3) (mCons (mV 11) (mCons (mV 7) mNil)))))) (mV 11)) (mLst mNil) gNe) ρ w2 = some (.ok false, w2) := by
      refine mTB_of (mBin_of (mLc_of it lc) (lst_of (ds := []) nil_of (by simp)) ?_)
      have sh : SeqAt.shaped (.list []) = true := by decide +kernel
      show (eqDD (.list []) (.list [])).map (fun b => SV.dat (.bool (!b))) = _
      rw [show eqDD (.list []) (.list []) = (if SeqAt.shaped (.list []) && SeqAt.shaped (.list []) then some (PyData.eqv (.list []) (.list [])) else none) from rfl, sh]
      rfl
    have t2' : mTB (mBin (mUn (mLst (mCons (mV 3) (mCons (mV 7) mNil))) gRepr) (mV 8) gNe) ρ w2 = some (.ok false, w2) :=
      mTB_of (mBin_of (mUn_of (lst_of (ds := [t.d, r.d]) (mCons_of (mV_of v3) (mCons_of (mV_of v7) nil_of)) (by simp)) (repr_ok shTR (by omega) (by omega) w2)) (mV_of v8) (eq_str _ _))
    rw [mIfS_of (k := false)]
    · rfl
    · show mBind (mTB _ _) (fun c => if c then mPure true else mTB _ _) w2 = _
      rw [mBind_of t1']
      exact t2'
theorem turns_ok {c : Cs} {k : Nat} {cs : List Int} (hl : cs.length = 64) {s : SV} : ∀ (ds : List PyData) {a b d e f g h i j l m : Option SV} {w : Sto} {gs : List Int} {n : Int}, isTab w 0 c.tab lamQ = true → k ≠ 0 → w[k]? = some (.draw cs gs n) → 0 ≤ n → n + 200 * ds.length ≤ 900000 →
    ∃ (a' b' d' e' g' h' i' j' l' m' : Option SV) (gs' : List Int) (n' : Int), forL (mSet 2) (blaw0 c) ds (lE s k a b d e f g h i j l m) w = some (.ok (.nx (lE s k a' b' d' e' f g' h' i' j' l' m')), w.set k (.draw cs gs' n'))
  | [], a, b, d, e, f, g, h, i, j, l, m, w, gs, n, hT, hk0, hk, h0, h1 => ⟨a, b, d, e, g, h, i, j, l, m, gs, n, by
      have : w.set k (.draw cs gs n) = w := by
        apply List.ext_getElem?
        intro z
        by_cases hz : k = z
        · subst hz; rw [at_set hk, hk]
        · rw [List.getElem?_set_ne hz]
      rw [this]
      rfl⟩
  | z :: r, a, b, d, e, f, g, h, i, j, l, m, w, gs, n, hT, hk0, hk, h0, h1 => by
    have h1' : n + 200 * ((r.length : Int) + 1) ≤ 900000 := by simpa using h1
    obtain ⟨b', d', e', g', h', i', j', l', m', g1, n1, t1, t2, t3⟩ := turn_ok (c := c) hl (s := s) (a := some (.dat z)) (b := b) (d := d) (e := e) (f := f) (g := g) (h := h) (i := i) (j := j) (l := l) (m := m) hT hk0 hk h0 (by omega)
    obtain ⟨a2, b2, d2, e2, g2, h2, i2, j2, l2, m2, gs2, n2, u1⟩ := turns_ok hl r (a := some (.dat z)) (b := b') (d := d') (e := e') (f := f) (g := g') (h := h') (i := i') (j := j') (l := l') (m := m') (s := s) (c := c) (isTab_set hT hk0) hk0 (at_set (gs' := g1) (n' := n1) hk) (by omega) (by omega)
    refine ⟨a2, b2, d2, e2, g2, h2, i2, j2, l2, m2, gs2, n2, ?_⟩
    unfold forL
    refine (mBind_of (a := lE s k (some (.dat z)) b d e f g h i j l m) (w1 := w) rfl).trans ?_
    rw [mBind_of t1]
    rw [set2] at u1
    exact u1
end K03
end EG


set_option Elab.async false
set_option linter.all false
set_option maxRecDepth 100000
set_option maxHeartbeats 1000000
namespace EG
open PySem PySem.Spec PyProof.Rows L2
namespace K03
def hopeW : Wi := .un "no" (.bi "and" (.un "no" (.mk 1)) (.un "ever" (.un "no" (.mk 1))))
theorem hopeW_ok : hopeW.ok := by simp [hopeW, Wi.ok, Wi.ones, Wi.twos]
theorem hopeW_tm : hopeW.tm ≤ 5 := by decide +kernel
theorem law_ok {c : Cs} (ns : List Int) (hz : ns.length ≤ 63) : ∃ w', glaw c [.scr ns] [.tab c.tab lamQ] = some (.ok (.dat (.bool true)), w') := by
  obtain ⟨cs, hl, hb⟩ := begun_okT (.tab c.tab lamQ) ns hz
  obtain ⟨a, b, d, e, g, h, i, j, l, m, gs, n, ht⟩ := turns_ok (c := c) (k := 3) hl (s := .scr ns) (intsFrom 0 7) (a := none) (b := none) (d := none) (e := none) (f := none) (g := none) (h := none) (i := none) (j := none) (l := none) (m := none) (w := [.tab c.tab lamQ, .dead, .dead, .draw cs (greats ns) 0]) (gs := greats ns) (n := 0) (by simp [isTab]) (by decide) rfl (by omega) (by simp [intsFrom])
  obtain ⟨w, hw⟩ : ∃ w : Sto, w = [SO.tab c.tab lamQ, .dead, .dead, .draw cs (greats ns) 0].set 3 (.draw cs gs n) := ⟨_, rfl⟩
  rw [← hw] at ht
  have f0 : fitsN 0 = true := fits_of (by decide)
  have f1 : fitsN 1 = true := fits_of (by decide)
  have f2 : fitsN 2 = true := fits_of (by decide)
  have f3 : fitsN 3 = true := fits_of (by decide)
  have f4 : fitsN 4 = true := fits_of (by decide)
  have f7 : fitsN 7 = true := fits_of (by decide)
  have key : mlaw c (lE (.scr ns) 3 none none none none none none none none none none none |>.set 1 none) [.tab c.tab lamQ] = some (.ok (.rt (.dat (.bool true))), w) := by
    unfold mlaw
    refine (mSeq_nx (ρ1 := lE (.scr ns) 3 none none none none none none none none none none none) (w1 := [.tab c.tab lamQ, .dead, .dead, .draw cs (greats ns) 0]) (mAsg_of ((mCall_of (mCons_of (mV_of rfl) nil_of)).trans hb))).trans ?_
    refine (mSeq_nx ((mFor_of (ds := intsFrom 0 7) (w1 := [.tab c.tab lamQ, .dead, .dead, .draw cs (greats ns) 0]) (by simp [mRange1, mBind, mC, mPure, in62])).trans ht)).trans ?_
    refine (mSeq_nx (ρ1 := lE (.scr ns) 3 a (some (.dat hopeW.d)) d e none g h i j l m) (w1 := w) (mAsg_of (v := .dat hopeW.d) ?_)).trans ?_
    · simp [mTup, mCons, mNil, mC, mBind, mPure, fzs, fz1, f2, f3, hopeW, Wi.d]
    have pl : ∀ (p : List Int) (u : Wi) (v : Bool) (x : Env → Mo SV) (d' e' f' : Option SV), hopeW.at p = some u → evenB hopeW p = v → x (lE (.scr ns) 3 a (some (.dat hopeW.d)) d' e' f' g h i j l m) w = some (.ok (.dat (pathD p)), w) → mCall (gis_plain c) (mCons (mV 3) (mCons x mNil)) (lE (.scr ns) 3 a (some (.dat hopeW.d)) d' e' f' g h i j l m) w = some (.ok (.dat (.bool v)), w) := fun p u v x d' e' f' hp hv hx => by
      rw [← hv]
      exact (mCall_of (mCons_of (mV_of rfl) (mCons_of hx nil_of))).trans (is_plain_ok hopeW_ok (by decide) hopeW_tm hp w)
    have ha : ∀ (p : List Int) (u : Wi) (r : Wi) (x : Env → Mo SV) (d' e' f' : Option SV), hopeW.at p = some u → hopeW.put p (cst (!evenB hopeW p)) = r → p.length < 24 → x (lE (.scr ns) 3 a (some (.dat hopeW.d)) d' e' f' g h i j l m) w = some (.ok (.dat (pathD p)), w) → mCall (ghardened c) (mCons (mV 3) (mCons x mNil)) (lE (.scr ns) 3 a (some (.dat hopeW.d)) d' e' f' g h i j l m) w = some (.ok (.dat r.d), w) := fun p u r x d' e' f' hp hv hl hx => by
      rw [← hv]
      exact (mCall_of (mCons_of (mV_of rfl) (mCons_of hx nil_of))).trans (hardened_ok hopeW_ok (by decide) hopeW_tm hp hl w)
    refine (mSeq_nx (ρ1 := lE (.scr ns) 3 a (some (.dat hopeW.d)) (some (.dat (.list [waysD hopeW, .bool false, .bool true, .bool true]))) e none g h i j l m) (w1 := w) (mAsg_of (v := .dat (.list [waysD hopeW, .bool false, .bool true, .bool true])) ?_)).trans ?_
    · have pa := (mCall_of (g := gpaths c) (ρ := lE (.scr ns) 3 a (some (.dat hopeW.d)) d e none g h i j l m) (w := w) (mCons_of (mV_of (i := 3) rfl) nil_of)).trans (paths_ok hopeW_ok (by decide) hopeW_tm w)
      exact lst_of (ds := [waysD hopeW, .bool false, .bool true, .bool true]) (mCons_of pa (mCons_of (pl [1, 1] _ false _ _ _ _ rfl (by decide +kernel) (by simp [mTup, mCons, mNil, mC, mBind, mPure, fzs, fz1, f2, pathD])) (mCons_of (pl [1, 1, 1] _ true _ _ _ _ rfl (by decide +kernel) (by simp [mTup, mCons, mNil, mC, mBind, mPure, fzs, fz1, f3, pathD])) (mCons_of (pl [1, 2, 1, 1] _ true _ _ _ _ rfl (by decide +kernel) (by simp [mTup, mCons, mNil, mC, mBind, mPure, fzs, fz1, f4, pathD])) nil_of)))) (by simp)
    refine (mSeq_nx (ρ1 := lE (.scr ns) 3 a (some (.dat hopeW.d)) (some (.dat (.list [waysD hopeW, .bool false, .bool true, .bool true]))) (some (.dat (waysD hopeW))) none g h i j l m) (w1 := w) (mAsg_of (v := .dat (waysD hopeW)) ?_)).trans ?_
    · simp [mTup, mCons, mNil, mC, mBind, mPure, fzs, fz1, f0, f1, f2, f3, f4, f7, hopeW, waysD, Wi.pieces, pathD]
    refine (mSeq_nx (ρ1 := lE (.scr ns) 3 a (some (.dat hopeW.d)) (some (.dat (.list [waysD hopeW, .bool false, .bool true, .bool true]))) (some (.dat (waysD hopeW))) none g h i j l m) (w1 := w) ?_).trans ?_
    · have nilP : ∀ ρ w, mTup mNil ρ w = some (.ok (.dat (pathD [])), w) := fun ρ w => by simp [mTup, mNil, mBind, mPure, fzs, f0, pathD]
      rw [mIfS_of (k := false) (w1 := w)]
      · rfl
      · refine mTB_of (mBin_of (mBin_of (mV_of rfl) (lst_of (ds := [.bool true]) (mCons_of (pl [] _ true _ _ _ _ rfl (by decide +kernel) (nilP _ _)) nil_of) (by simp)) (cat_lst (by simp) _)) (lst_of (ds := [waysD hopeW, .bool false, .bool true, .bool true, .bool true]) (mCons_of (mV_of rfl) (mCons_of rfl (mCons_of rfl (mCons_of rfl (mCons_of rfl nil_of))))) (by simp)) ?_)
        have sh : SeqAt.shaped (.list [waysD hopeW, .bool false, .bool true, .bool true, .bool true]) = true := by decide +kernel
        have ev : PyData.eqv (.list [waysD hopeW, .bool false, .bool true, .bool true, .bool true]) (.list [waysD hopeW, .bool false, .bool true, .bool true, .bool true]) = true := by decide +kernel
        show (if SeqAt.shaped (.list [waysD hopeW, .bool false, .bool true, .bool true, .bool true]) && SeqAt.shaped (.list [waysD hopeW, .bool false, .bool true, .bool true, .bool true]) then some (PyData.eqv (.list [waysD hopeW, .bool false, .bool true, .bool true, .bool true]) (.list [waysD hopeW, .bool false, .bool true, .bool true, .bool true])) else none).map (fun b => SV.dat (.bool (!b))) = _
        rw [sh, ev]
        rfl
    let farW : Wi := .un "no" (.bi "and" (.un "no" (.mk 1)) (.lf "true"))
    refine (mSeq_nx (ρ1 := lE (.scr ns) 3 a (some (.dat hopeW.d)) (some (.dat (.list [waysD hopeW, .bool false, .bool true, .bool true]))) (some (.dat (waysD hopeW))) (some (.dat farW.d)) g h i j l m) (w1 := w) (mAsg_of (v := .dat farW.d) ?_)).trans ?_
    · simp [mTup, mCons, mNil, mC, mBind, mPure, fzs, fz1, f1, f2, f3, farW, Wi.d]
    refine mRet_dat ?_
    have same : ∀ (t : Wi) (w : Sto), SeqAt.shaped t.d = true → PyData.eqv t.d t.d = true → t.d = t.d → gEq (.dat t.d) (.dat t.d) w = some (.dat (.bool true)) := fun t w h1 h2 _ => by
      have : eqDD t.d t.d = (if SeqAt.shaped t.d && SeqAt.shaped t.d then some (PyData.eqv t.d t.d) else none) := by cases t <;> rfl
      show (eqDD t.d t.d).map (fun b => SV.dat (.bool b)) = _
      rw [this, h1, h2]
      rfl
    have b1 := mBin_of (g := gEq) (ha [1, 2] _ farW (mTup (mCons (mC (.int 1)) (mCons (mC (.int 2)) mNil))) (some (.dat (.list [waysD hopeW, .bool false, .bool true, .bool true]))) (some (.dat (waysD hopeW))) (some (.dat farW.d)) rfl (by rw [show evenB hopeW [1, 2] = false from by decide +kernel]; rfl) (by decide) (by simp [mTup, mCons, mNil, mC, mBind, mPure, fzs, fz1, f2, pathD])) (mV_of (i := 6) rfl) (same farW w (by decide +kernel) (by decide +kernel) rfl)
    have b2 := mBin_of (g := gEq) (ha [] _ (.lf "false") (mTup mNil) (some (.dat (.list [waysD hopeW, .bool false, .bool true, .bool true]))) (some (.dat (waysD hopeW))) (some (.dat farW.d)) rfl (by rw [show evenB hopeW [] = true from by decide +kernel]; rfl) (by decide) (by simp [mTup, mNil, mBind, mPure, fzs, f0, pathD])) (tupW (x := "false")) (same (.lf "false") w (by decide +kernel) (by decide +kernel) rfl)
    show mBind (mTB _ _) (fun c => if c then _ else _) w = _
    rw [mBind_of (mTB_of b1)]
    exact b2
  refine ⟨w.take 1, ?_⟩
  have st : startE ["script", "m", "turn", "hope", "said", "ways", "far", "part", "kept_so", "some", "timed", "path", "own"] [SV.scr ns] = (lE (.scr ns) 3 none none none none none none none none none none none |>.set 1 none) := rfl
  unfold glaw mDef
  rw [st, key]
  rfl
end K03
end EG


set_option Elab.async false
set_option linter.all false
set_option maxRecDepth 100000
set_option maxHeartbeats 4000000
namespace EG
namespace K03
open PySem PySem.Spec PyProof.Rows L2
def initOf (i : Nat) : Stmt := match topS i with
  | .ClassDef _ _ _ body _ _ _ _ _ _ _ => body.getD 0 (.Pass ⟨0, 0, 0, 0⟩)
  | s => s
section
variable {P : Program} {w : World} {K : PySem.W.Frag} {mg : Str → Option Value} {base : Heap} {f C CW : Addr} {fd : FuncData}
structure WishF (K : PySem.W.Frag) (mg : Str → Option Value) (CW : Addr) : Prop where
  hm : mg "WishError" = some (.ref CW)
  rd : PySem.W.readsIn K CW (.type "type") = true
  ga : PySem.W.specialIn K (.ref CW) "__getattribute__" = some (some (.builtin "type.__getattribute__"))
  fi : PySem.W.findCls K (.ref CW) (.type "type") "__init__" = some (.val (.builtin "ValueError.__init__"))
theorem scIBadWish : FnScope ["self", "path"] ["self", "path"] (defScope (initOf 3)) := ⟨rfl, rfl, rfl, by decide +kernel, rfl, by decide +kernel, by decide +kernel⟩
theorem iBadWish (T : EC K C "ValueError" "ValueError.__new__" "ValueError.__init__" [.type "ValueError", .type "Exception", .type "BaseException", .type "object"]) (ht0 : PySem.W.takerIn K C "path" = some none) (W : WishF K mg CW) (F : Fun K "__init__" "BadWish.__init__" (initOf 3) f fd) : FnG P w K mg base 1 f fd ["self", "path"] (spIni C ["path"]) :=
  ini1 T ht0 (by decide +kernel) F scIBadWish rfl (fun cdv A outer s H E => ps_expr (pe_gin (MI.own CW W.hm W.rd W.ga W.fi) (by decide +kernel) rfl (pa_cons (pv 0) (pa_cons pe_str pa_nil)))) (fun cdv A outer s H E => ps_gst (pv 0) (pv 1))
theorem scIBadPath : FnScope ["self", "value"] ["self", "value"] (defScope (initOf 4)) := ⟨rfl, rfl, rfl, by decide +kernel, rfl, by decide +kernel, by decide +kernel⟩
theorem iBadPath (T : EC K C "ValueError" "ValueError.__new__" "ValueError.__init__" [.type "ValueError", .type "Exception", .type "BaseException", .type "object"]) (ht0 : PySem.W.takerIn K C "value" = some none) (W : WishF K mg CW) (F : Fun K "__init__" "BadPath.__init__" (initOf 4) f fd) : FnG P w K mg base 1 f fd ["self", "value"] (spIni C ["value"]) :=
  ini1 T ht0 (by decide +kernel) F scIBadPath rfl (fun cdv A outer s H E => ps_expr (pe_gin (MI.own CW W.hm W.rd W.ga W.fi) (by decide +kernel) rfl (pa_cons (pv 0) (pa_cons pe_str pa_nil)))) (fun cdv A outer s H E => ps_gst (pv 0) (pv 1))
end
theorem cls_some {K : PySem.W.Frag} {C : Addr} (h : PySem.W.hasDictIn K C = true) : (PySem.W.clsIn K C).isSome = true := by
  obtain ⟨cd, e, _⟩ := PySem.W.any_some h
  rw [e]
  rfl
theorem tab_mk {K : PySem.W.Frag} {x : Str} {f c t : Addr} {oc ob : Value} {od oe : Option Addr} {fd : FuncData} {sl sm : Array (Option Value)} {vs : Array Value} (h1 : PySem.W.nsIn K mainGlobals x = some (some (.ref f))) (h2 : K.lookup f = some ⟨oc, od, .func fd, sl⟩) (h3 : fd.code = .ref c)
    (h4 : K.lookup c = some ⟨ob, oe, .fields vs, sm⟩) (h5 : vs[11]? = some (.ref t)) : PySem.W.tabIn K x = some (c, t) := by
  unfold PySem.W.tabIn
  simp only [h1, h2, h3, h4, h5]
theorem kwB1 {fd : FuncData} {a : Str} (h : ∀ (s : Shared) (u x : Value), BindsTo s fd ⟨[u], [(a, x)]⟩ [(("self" : Str), u), (a, x)]) : ∀ (r : Bool) (ks : List Str), turn r ks = [a] → ∀ (s : Shared) (u : Value) (ws : List Value), ws.length = ks.length → BindsTo s fd ⟨[u], ks.zip ws⟩ ([("self" : Str), a].zip (u :: turn r ws)) := fun r ks e s u ws hl => by
  have e2 : ks = [a] := by
    cases r
    · exact e
    · have := congrArg List.reverse e
      simpa [turn] using this
  subst e2
  match ws, hl with
  | [x], _ => cases r <;> exact h s u x
theorem all_mk {P : Program} {w : World} {K : PySem.W.Frag} {h : Heap} {mg : Str → Option Value} {fa : Addr} (X : K.In h) (G : h.Ns mainGlobals mg) (hfa : mg "law" = some (.ref fa)) {cWishError cTooGreat cBadMachine cBadWish cBadPath cBadRun cBadNumber cBadPaper fiswhole fisnumber fhasform fwithin fneedwish fispath fneedpath fwalked fpaths fpartat fputat freplaced fisplain fworst fhardened funliketimed ftimedparts fsoftened flawmixed flawfolded flawdraw flawbegun flawlike flawhope flawpieces flawwith flawiseven flawtimed flawtold flawright flaw kA tA fBadWish fBadPath tuA diA : Addr} {odiswhole aniswhole odisnumber anisnumber odhasform anhasform odwithin anwithin odneedwish anneedwish odispath anispath odneedpath anneedpath odwalked anwalked odpaths anpaths odpartat anpartat odputat anputat odreplaced anreplaced odisplain anisplain odworst anworst odhardened anhardened odunliketimed anunliketimed odtimedparts antimedparts odsoftened ansoftened odlawmixed anlawmixed odlawfolded anlawfolded odlawdraw anlawdraw odlawbegun anlawbegun odlawlike anlawlike odlawhope anlawhope odlawpieces anlawpieces odlawwith anlawwith odlawiseven anlawiseven odlawtimed anlawtimed odlawtold anlawtold odlawright anlawright odlaw anlaw odBadWish anBadWish odBadPath anBadPath odA odT : Option Addr} {sliswhole slisnumber slhasform slwithin slneedwish slispath slneedpath slwalked slpaths slpartat slputat slreplaced slisplain slworst slhardened slunliketimed sltimedparts slsoftened sllawmixed sllawfolded sllawdraw sllawbegun sllawlike sllawhope sllawpieces sllawwith sllawiseven sllawtimed sllawtold sllawright sllaw slBadWish slBadPath slA slT : Array (Option Value)} {ociswhole kViswhole dciswhole pmiswhole ctiswhole cdiswhole ocisnumber kVisnumber dcisnumber pmisnumber ctisnumber cdisnumber ochasform kVhasform dchasform pmhasform cthasform cdhasform ocwithin kVwithin dcwithin pmwithin ctwithin cdwithin ocneedwish kVneedwish dcneedwish pmneedwish ctneedwish cdneedwish ocispath kVispath dcispath pmispath ctispath cdispath ocneedpath kVneedpath dcneedpath pmneedpath ctneedpath cdneedpath ocwalked kVwalked dcwalked pmwalked ctwalked cdwalked ocpaths kVpaths dcpaths pmpaths ctpaths cdpaths ocpartat kVpartat dcpartat pmpartat ctpartat cdpartat ocputat kVputat dcputat pmputat ctputat cdputat ocreplaced kVreplaced dcreplaced pmreplaced ctreplaced cdreplaced ocisplain kVisplain dcisplain pmisplain ctisplain cdisplain ocworst kVworst dcworst pmworst ctworst cdworst ochardened kVhardened dchardened pmhardened cthardened cdhardened ocunliketimed kVunliketimed dcunliketimed pmunliketimed ctunliketimed cdunliketimed octimedparts kVtimedparts dctimedparts pmtimedparts cttimedparts cdtimedparts ocsoftened kVsoftened dcsoftened pmsoftened ctsoftened cdsoftened oclawmixed kVlawmixed dclawmixed pmlawmixed ctlawmixed cdlawmixed oclawfolded kVlawfolded dclawfolded pmlawfolded ctlawfolded cdlawfolded oclawdraw kVlawdraw dclawdraw pmlawdraw ctlawdraw cdlawdraw oclawbegun kVlawbegun dclawbegun pmlawbegun ctlawbegun cdlawbegun oclawlike kVlawlike dclawlike pmlawlike ctlawlike cdlawlike oclawhope kVlawhope dclawhope pmlawhope ctlawhope cdlawhope oclawpieces kVlawpieces dclawpieces pmlawpieces ctlawpieces cdlawpieces oclawwith kVlawwith dclawwith pmlawwith ctlawwith cdlawwith oclawiseven kVlawiseven dclawiseven pmlawiseven ctlawiseven cdlawiseven oclawtimed kVlawtimed dclawtimed pmlawtimed ctlawtimed cdlawtimed oclawtold kVlawtold dclawtold pmlawtold ctlawtold cdlawtold oclawright kVlawright dclawright pmlawright ctlawright oclaw kVlaw dclaw pmlaw ctlaw cdlaw ocBadWish kVBadWish dcBadWish pmBadWish ctBadWish cdBadWish ocBadPath kVBadPath dcBadPath pmBadPath ctBadPath cdBadPath ocA : Value} {vsA itT : Array Value} {nT nD : Nat} {esD : Array DictEntry} {tiMOSTMARK tiMOSTPARTS tiMOSTTIMED : Tok}
    (aWishError : PySem.W.nsIn K mainGlobals "WishError" = some (some (.ref cWishError))) (aTooGreat : PySem.W.nsIn K mainGlobals "TooGreat" = some (some (.ref cTooGreat))) (aBadMachine : PySem.W.nsIn K mainGlobals "BadMachine" = some (some (.ref cBadMachine))) (aBadWish : PySem.W.nsIn K mainGlobals "BadWish" = some (some (.ref cBadWish))) (aBadPath : PySem.W.nsIn K mainGlobals "BadPath" = some (some (.ref cBadPath))) (aBadRun : PySem.W.nsIn K mainGlobals "BadRun" = some (some (.ref cBadRun))) (aBadNumber : PySem.W.nsIn K mainGlobals "BadNumber" = some (some (.ref cBadNumber))) (aBadPaper : PySem.W.nsIn K mainGlobals "BadPaper" = some (some (.ref cBadPaper))) (aiswhole : PySem.W.nsIn K mainGlobals "is_whole" = some (some (.ref fiswhole))) (liswhole : K.lookup fiswhole = some ⟨ociswhole, odiswhole, .func (PySem.W.fnOf "is_whole" "is_whole" (defArgs sis_whole) (defBody sis_whole) (defScope sis_whole) .none kViswhole dciswhole pmiswhole aniswhole cdiswhole ctiswhole), sliswhole⟩) (ciswhole : PySem.W.codeIn K cdiswhole "is_whole" = true) (kiswhole : PySem.W.keepIn K (.ref fiswhole) = true) (aisnumber : PySem.W.nsIn K mainGlobals "is_number" = some (some (.ref fisnumber))) (lisnumber : K.lookup fisnumber = some ⟨ocisnumber, odisnumber, .func (PySem.W.fnOf "is_number" "is_number" (defArgs sis_number) (defBody sis_number) (defScope sis_number) .none kVisnumber dcisnumber pmisnumber anisnumber cdisnumber ctisnumber), slisnumber⟩) (cisnumber : PySem.W.codeIn K cdisnumber "is_number" = true) (kisnumber : PySem.W.keepIn K (.ref fisnumber) = true) (ahasform : PySem.W.nsIn K mainGlobals "_has_form" = some (some (.ref fhasform))) (lhasform : K.lookup fhasform = some ⟨ochasform, odhasform, .func (PySem.W.fnOf "_has_form" "_has_form" (defArgs s_has_form) (defBody s_has_form) (defScope s_has_form) .none kVhasform dchasform pmhasform anhasform cdhasform cthasform), slhasform⟩) (chasform : PySem.W.codeIn K cdhasform "_has_form" = true) (khasform : PySem.W.keepIn K (.ref fhasform) = true) (awithin : PySem.W.nsIn K mainGlobals "_within" = some (some (.ref fwithin))) (lwithin : K.lookup fwithin = some ⟨ocwithin, odwithin, .func (PySem.W.fnOf "_within" "_within" (defArgs s_within) (defBody s_within) (defScope s_within) .none kVwithin dcwithin pmwithin anwithin cdwithin ctwithin), slwithin⟩) (cwithin : PySem.W.codeIn K cdwithin "_within" = true) (kwithin : PySem.W.keepIn K (.ref fwithin) = true) (aneedwish : PySem.W.nsIn K mainGlobals "need_wish" = some (some (.ref fneedwish))) (lneedwish : K.lookup fneedwish = some ⟨ocneedwish, odneedwish, .func (PySem.W.fnOf "need_wish" "need_wish" (defArgs sneed_wish) (defBody sneed_wish) (defScope sneed_wish) .none kVneedwish dcneedwish pmneedwish anneedwish cdneedwish ctneedwish), slneedwish⟩) (cneedwish : PySem.W.codeIn K cdneedwish "need_wish" = true) (kneedwish : PySem.W.keepIn K (.ref fneedwish) = true) (aispath : PySem.W.nsIn K mainGlobals "is_path" = some (some (.ref fispath))) (lispath : K.lookup fispath = some ⟨ocispath, odispath, .func (PySem.W.fnOf "is_path" "is_path" (defArgs sis_path) (defBody sis_path) (defScope sis_path) .none kVispath dcispath pmispath anispath cdispath ctispath), slispath⟩) (cispath : PySem.W.codeIn K cdispath "is_path" = true) (kispath : PySem.W.keepIn K (.ref fispath) = true) (aneedpath : PySem.W.nsIn K mainGlobals "need_path" = some (some (.ref fneedpath))) (lneedpath : K.lookup fneedpath = some ⟨ocneedpath, odneedpath, .func (PySem.W.fnOf "need_path" "need_path" (defArgs sneed_path) (defBody sneed_path) (defScope sneed_path) .none kVneedpath dcneedpath pmneedpath anneedpath cdneedpath ctneedpath), slneedpath⟩) (cneedpath : PySem.W.codeIn K cdneedpath "need_path" = true) (kneedpath : PySem.W.keepIn K (.ref fneedpath) = true) (awalked : PySem.W.nsIn K mainGlobals "walked" = some (some (.ref fwalked))) (lwalked : K.lookup fwalked = some ⟨ocwalked, odwalked, .func (PySem.W.fnOf "walked" "walked" (defArgs swalked) (defBody swalked) (defScope swalked) .none kVwalked dcwalked pmwalked anwalked cdwalked ctwalked), slwalked⟩) (cwalked : PySem.W.codeIn K cdwalked "walked" = true) (kwalked : PySem.W.keepIn K (.ref fwalked) = true) (apaths : PySem.W.nsIn K mainGlobals "paths" = some (some (.ref fpaths))) (lpaths : K.lookup fpaths = some ⟨ocpaths, odpaths, .func (PySem.W.fnOf "paths" "paths" (defArgs spaths) (defBody spaths) (defScope spaths) .none kVpaths dcpaths pmpaths anpaths cdpaths ctpaths), slpaths⟩) (cpaths : PySem.W.codeIn K cdpaths "paths" = true) (kpaths : PySem.W.keepIn K (.ref fpaths) = true) (apartat : PySem.W.nsIn K mainGlobals "part_at" = some (some (.ref fpartat))) (lpartat : K.lookup fpartat = some ⟨ocpartat, odpartat, .func (PySem.W.fnOf "part_at" "part_at" (defArgs spart_at) (defBody spart_at) (defScope spart_at) .none kVpartat dcpartat pmpartat anpartat cdpartat ctpartat), slpartat⟩) (cpartat : PySem.W.codeIn K cdpartat "part_at" = true) (kpartat : PySem.W.keepIn K (.ref fpartat) = true) (aputat : PySem.W.nsIn K mainGlobals "put_at" = some (some (.ref fputat))) (lputat : K.lookup fputat = some ⟨ocputat, odputat, .func (PySem.W.fnOf "put_at" "put_at" (defArgs sput_at) (defBody sput_at) (defScope sput_at) .none kVputat dcputat pmputat anputat cdputat ctputat), slputat⟩) (cputat : PySem.W.codeIn K cdputat "put_at" = true) (kputat : PySem.W.keepIn K (.ref fputat) = true) (areplaced : PySem.W.nsIn K mainGlobals "replaced" = some (some (.ref freplaced))) (lreplaced : K.lookup freplaced = some ⟨ocreplaced, odreplaced, .func (PySem.W.fnOf "replaced" "replaced" (defArgs sreplaced) (defBody sreplaced) (defScope sreplaced) .none kVreplaced dcreplaced pmreplaced anreplaced cdreplaced ctreplaced), slreplaced⟩) (creplaced : PySem.W.codeIn K cdreplaced "replaced" = true) (kreplaced : PySem.W.keepIn K (.ref freplaced) = true) (aisplain : PySem.W.nsIn K mainGlobals "is_plain" = some (some (.ref fisplain))) (lisplain : K.lookup fisplain = some ⟨ocisplain, odisplain, .func (PySem.W.fnOf "is_plain" "is_plain" (defArgs sis_plain) (defBody sis_plain) (defScope sis_plain) .none kVisplain dcisplain pmisplain anisplain cdisplain ctisplain), slisplain⟩) (cisplain : PySem.W.codeIn K cdisplain "is_plain" = true) (kisplain : PySem.W.keepIn K (.ref fisplain) = true) (aworst : PySem.W.nsIn K mainGlobals "worst" = some (some (.ref fworst))) (lworst : K.lookup fworst = some ⟨ocworst, odworst, .func (PySem.W.fnOf "worst" "worst" (defArgs sworst) (defBody sworst) (defScope sworst) .none kVworst dcworst pmworst anworst cdworst ctworst), slworst⟩) (cworst : PySem.W.codeIn K cdworst "worst" = true) (kworst : PySem.W.keepIn K (.ref fworst) = true) (ahardened : PySem.W.nsIn K mainGlobals "hardened" = some (some (.ref fhardened))) (lhardened : K.lookup fhardened = some ⟨ochardened, odhardened, .func (PySem.W.fnOf "hardened" "hardened" (defArgs shardened) (defBody shardened) (defScope shardened) .none kVhardened dchardened pmhardened anhardened cdhardened cthardened), slhardened⟩) (chardened : PySem.W.codeIn K cdhardened "hardened" = true) (khardened : PySem.W.keepIn K (.ref fhardened) = true) (aunliketimed : PySem.W.nsIn K mainGlobals "unlike_timed" = some (some (.ref funliketimed))) (lunliketimed : K.lookup funliketimed = some ⟨ocunliketimed, odunliketimed, .func (PySem.W.fnOf "unlike_timed" "unlike_timed" (defArgs sunlike_timed) (defBody sunlike_timed) (defScope sunlike_timed) .none kVunliketimed dcunliketimed pmunliketimed anunliketimed cdunliketimed ctunliketimed), slunliketimed⟩) (cunliketimed : PySem.W.codeIn K cdunliketimed "unlike_timed" = true) (kunliketimed : PySem.W.keepIn K (.ref funliketimed) = true) (atimedparts : PySem.W.nsIn K mainGlobals "timed_parts" = some (some (.ref ftimedparts))) (ltimedparts : K.lookup ftimedparts = some ⟨octimedparts, odtimedparts, .func (PySem.W.fnOf "timed_parts" "timed_parts" (defArgs stimed_parts) (defBody stimed_parts) (defScope stimed_parts) .none kVtimedparts dctimedparts pmtimedparts antimedparts cdtimedparts cttimedparts), sltimedparts⟩) (ctimedparts : PySem.W.codeIn K cdtimedparts "timed_parts" = true) (ktimedparts : PySem.W.keepIn K (.ref ftimedparts) = true) (asoftened : PySem.W.nsIn K mainGlobals "softened" = some (some (.ref fsoftened))) (lsoftened : K.lookup fsoftened = some ⟨ocsoftened, odsoftened, .func (PySem.W.fnOf "softened" "softened" (defArgs ssoftened) (defBody ssoftened) (defScope ssoftened) .none kVsoftened dcsoftened pmsoftened ansoftened cdsoftened ctsoftened), slsoftened⟩) (csoftened : PySem.W.codeIn K cdsoftened "softened" = true) (ksoftened : PySem.W.keepIn K (.ref fsoftened) = true) (alawmixed : PySem.W.nsIn K mainGlobals "_law_mixed" = some (some (.ref flawmixed))) (llawmixed : K.lookup flawmixed = some ⟨oclawmixed, odlawmixed, .func (PySem.W.fnOf "_law_mixed" "_law_mixed" (defArgs s_law_mixed) (defBody s_law_mixed) (defScope s_law_mixed) .none kVlawmixed dclawmixed pmlawmixed anlawmixed cdlawmixed ctlawmixed), sllawmixed⟩) (clawmixed : PySem.W.codeIn K cdlawmixed "_law_mixed" = true) (klawmixed : PySem.W.keepIn K (.ref flawmixed) = true) (alawfolded : PySem.W.nsIn K mainGlobals "_law_folded" = some (some (.ref flawfolded))) (llawfolded : K.lookup flawfolded = some ⟨oclawfolded, odlawfolded, .func (PySem.W.fnOf "_law_folded" "_law_folded" (defArgs s_law_folded) (defBody s_law_folded) (defScope s_law_folded) .none kVlawfolded dclawfolded pmlawfolded anlawfolded cdlawfolded ctlawfolded), sllawfolded⟩) (clawfolded : PySem.W.codeIn K cdlawfolded "_law_folded" = true) (klawfolded : PySem.W.keepIn K (.ref flawfolded) = true) (alawdraw : PySem.W.nsIn K mainGlobals "_law_draw" = some (some (.ref flawdraw))) (llawdraw : K.lookup flawdraw = some ⟨oclawdraw, odlawdraw, .func (PySem.W.fnOf "_law_draw" "_law_draw" (defArgs s_law_draw) (defBody s_law_draw) (defScope s_law_draw) .none kVlawdraw dclawdraw pmlawdraw anlawdraw cdlawdraw ctlawdraw), sllawdraw⟩) (clawdraw : PySem.W.codeIn K cdlawdraw "_law_draw" = true) (klawdraw : PySem.W.keepIn K (.ref flawdraw) = true) (alawbegun : PySem.W.nsIn K mainGlobals "_law_begun" = some (some (.ref flawbegun))) (llawbegun : K.lookup flawbegun = some ⟨oclawbegun, odlawbegun, .func (PySem.W.fnOf "_law_begun" "_law_begun" (defArgs s_law_begun) (defBody s_law_begun) (defScope s_law_begun) .none kVlawbegun dclawbegun pmlawbegun anlawbegun cdlawbegun ctlawbegun), sllawbegun⟩) (clawbegun : PySem.W.codeIn K cdlawbegun "_law_begun" = true) (klawbegun : PySem.W.keepIn K (.ref flawbegun) = true) (alawlike : PySem.W.nsIn K mainGlobals "_law_like" = some (some (.ref flawlike))) (llawlike : K.lookup flawlike = some ⟨oclawlike, odlawlike, .func (PySem.W.fnOf "_law_like" "_law_like" (defArgs s_law_like) (defBody s_law_like) (defScope s_law_like) .none kVlawlike dclawlike pmlawlike anlawlike cdlawlike ctlawlike), sllawlike⟩) (clawlike : PySem.W.codeIn K cdlawlike "_law_like" = true) (klawlike : PySem.W.keepIn K (.ref flawlike) = true) (alawhope : PySem.W.nsIn K mainGlobals "_law_hope" = some (some (.ref flawhope))) (llawhope : K.lookup flawhope = some ⟨oclawhope, odlawhope, .func (PySem.W.fnOf "_law_hope" "_law_hope" (defArgs s_law_hope) (defBody s_law_hope) (defScope s_law_hope) .none kVlawhope dclawhope pmlawhope anlawhope cdlawhope ctlawhope), sllawhope⟩) (clawhope : PySem.W.codeIn K cdlawhope "_law_hope" = true) (klawhope : PySem.W.keepIn K (.ref flawhope) = true) (alawpieces : PySem.W.nsIn K mainGlobals "_law_pieces" = some (some (.ref flawpieces))) (llawpieces : K.lookup flawpieces = some ⟨oclawpieces, odlawpieces, .func (PySem.W.fnOf "_law_pieces" "_law_pieces" (defArgs s_law_pieces) (defBody s_law_pieces) (defScope s_law_pieces) .none kVlawpieces dclawpieces pmlawpieces anlawpieces cdlawpieces ctlawpieces), sllawpieces⟩) (clawpieces : PySem.W.codeIn K cdlawpieces "_law_pieces" = true) (klawpieces : PySem.W.keepIn K (.ref flawpieces) = true) (alawwith : PySem.W.nsIn K mainGlobals "_law_with" = some (some (.ref flawwith))) (llawwith : K.lookup flawwith = some ⟨oclawwith, odlawwith, .func (PySem.W.fnOf "_law_with" "_law_with" (defArgs s_law_with) (defBody s_law_with) (defScope s_law_with) .none kVlawwith dclawwith pmlawwith anlawwith cdlawwith ctlawwith), sllawwith⟩) (clawwith : PySem.W.codeIn K cdlawwith "_law_with" = true) (klawwith : PySem.W.keepIn K (.ref flawwith) = true) (alawiseven : PySem.W.nsIn K mainGlobals "_law_is_even" = some (some (.ref flawiseven))) (llawiseven : K.lookup flawiseven = some ⟨oclawiseven, odlawiseven, .func (PySem.W.fnOf "_law_is_even" "_law_is_even" (defArgs s_law_is_even) (defBody s_law_is_even) (defScope s_law_is_even) .none kVlawiseven dclawiseven pmlawiseven anlawiseven cdlawiseven ctlawiseven), sllawiseven⟩) (clawiseven : PySem.W.codeIn K cdlawiseven "_law_is_even" = true) (klawiseven : PySem.W.keepIn K (.ref flawiseven) = true) (alawtimed : PySem.W.nsIn K mainGlobals "_law_timed" = some (some (.ref flawtimed))) (llawtimed : K.lookup flawtimed = some ⟨oclawtimed, odlawtimed, .func (PySem.W.fnOf "_law_timed" "_law_timed" (defArgs s_law_timed) (defBody s_law_timed) (defScope s_law_timed) .none kVlawtimed dclawtimed pmlawtimed anlawtimed cdlawtimed ctlawtimed), sllawtimed⟩) (clawtimed : PySem.W.codeIn K cdlawtimed "_law_timed" = true) (klawtimed : PySem.W.keepIn K (.ref flawtimed) = true) (alawtold : PySem.W.nsIn K mainGlobals "_law_told" = some (some (.ref flawtold))) (llawtold : K.lookup flawtold = some ⟨oclawtold, odlawtold, .func (PySem.W.fnOf "_law_told" "_law_told" (defArgs s_law_told) (defBody s_law_told) (defScope s_law_told) .none kVlawtold dclawtold pmlawtold anlawtold cdlawtold ctlawtold), sllawtold⟩) (clawtold : PySem.W.codeIn K cdlawtold "_law_told" = true) (klawtold : PySem.W.keepIn K (.ref flawtold) = true) (alawright : PySem.W.nsIn K mainGlobals "_law_right" = some (some (.ref flawright))) (llawright : K.lookup flawright = some ⟨oclawright, odlawright, .func (PySem.W.fnOf "_law_right" "_law_right" (defArgs s_law_right) (defBody s_law_right) (defScope s_law_right) .none kVlawright dclawright pmlawright anlawright (.ref kA) ctlawright), sllawright⟩) (clawright : PySem.W.codeIn K (.ref kA) "_law_right" = true) (klawright : PySem.W.keepIn K (.ref flawright) = true) (alaw : PySem.W.nsIn K mainGlobals "law" = some (some (.ref flaw))) (llaw : K.lookup flaw = some ⟨oclaw, odlaw, .func (PySem.W.fnOf "law" "law" (defArgs slaw) (defBody slaw) (defScope slaw) .none kVlaw dclaw pmlaw anlaw cdlaw ctlaw), sllaw⟩) (claw : PySem.W.codeIn K cdlaw "law" = true) (klaw : PySem.W.keepIn K (.ref flaw) = true) (zint : PySem.W.nsIn K mainGlobals "int" = some none) (zlen : PySem.W.nsIn K mainGlobals "len" = some none) (zrange : PySem.W.nsIn K mainGlobals "range" = some none) (zenumerate : PySem.W.nsIn K mainGlobals "enumerate" = some none) (zrepr : PySem.W.nsIn K mainGlobals "repr" = some none) (zisinstance : PySem.W.nsIn K mainGlobals "isinstance" = some none) (zbool : PySem.W.nsIn K mainGlobals "bool" = some none) (zstr : PySem.W.nsIn K mainGlobals "str" = some none) (ztuple : PySem.W.nsIn K mainGlobals "tuple" = some none) (zlist : PySem.W.nsIn K mainGlobals "list" = some none) (zall : PySem.W.nsIn K mainGlobals "all" = some none) (zzip : PySem.W.nsIn K mainGlobals "zip" = some none) (zsorted : PySem.W.nsIn K mainGlobals "sorted" = some none) (zmin : PySem.W.nsIn K mainGlobals "min" = some none) (kAo : K.lookup kA = some ⟨ocA, odA, .fields vsA, slA⟩) (kAt : vsA[11]? = some (.ref tA)) (kAh : PySem.W.codeHdIn K kA tA = true) (tAn : K.lookup tA = none) (wrd : PySem.W.readsIn K cWishError (.type "type") = true) (wga : PySem.W.specialIn K (.ref cWishError) "__getattribute__" = some (some (.builtin "type.__getattribute__"))) (wfi : PySem.W.findCls K (.ref cWishError) (.type "type") "__init__" = some (.val (.builtin "ValueError.__init__"))) (xcg : PySem.W.specialIn K (.builtin "object.__class__") "__get__" = some (some (.builtin "getset_descriptor.__get__"))) (xct : PySem.W.takesIn K (.builtin "object.__class__") = some true) (qBadWish : PySem.W.excInitIn K cBadWish [.type "ValueError", .type "Exception", .type "BaseException", .type "object"] "ValueError.__new__" = true) (oBadWish : PySem.W.excOver K cBadWish [.type "ValueError", .type "Exception", .type "BaseException", .type "object"] = true) (hBadWish : PySem.W.hasDictIn K cBadWish = true) (sBadWish : PySem.W.findIn K (.ref cBadWish) "__setattr__" = some (some (.builtin "object.__setattr__"))) (kcBadWish : PySem.W.keepIn K (.ref cBadWish) = true) (iiBadWish : PySem.W.findIn K (.ref cBadWish) "__init__" = some (some (.ref fBadWish))) (tiBadWish : PySem.W.typeIn K (.ref fBadWish) = some (.type "function")) (lBadWish : K.lookup fBadWish = some ⟨ocBadWish, odBadWish, .func (PySem.W.fnOf "__init__" "BadWish.__init__" (defArgs (initOf 3)) (defBody (initOf 3)) (defScope (initOf 3)) .none kVBadWish dcBadWish pmBadWish anBadWish cdBadWish ctBadWish), slBadWish⟩) (ciBadWish : PySem.W.codeIn K cdBadWish "BadWish.__init__" = true) (kiBadWish : PySem.W.keepIn K (.ref fBadWish) = true) (tBadWishpath : PySem.W.takerIn K cBadWish "path" = some none) (nBadWishpath : PySem.W.findIn K (.ref cBadWish) "path" = some none) (x2BadWish : PySem.W.findIn K (.ref cBadWish) "__getattribute__" = some (some (.builtin "BaseException.__getattribute__"))) (x3BadWish : PySem.W.findIn K (.ref cBadWish) "__getattr__" = some none) (x4BadWish : PySem.W.subIn K (.ref cBadWish) (.type "BaseException") = some true) (x5BadWish : PySem.W.findIn K (.ref cBadWish) "__class__" = some (some (.builtin "object.__class__"))) (x6BadWish : PySem.W.mroIn K cBadWish (.type "object") = some true) (x7BadWish : PySem.W.typeIn K (.ref cBadWish) = some (.type "type")) (qBadPath : PySem.W.excInitIn K cBadPath [.type "ValueError", .type "Exception", .type "BaseException", .type "object"] "ValueError.__new__" = true) (oBadPath : PySem.W.excOver K cBadPath [.type "ValueError", .type "Exception", .type "BaseException", .type "object"] = true) (hBadPath : PySem.W.hasDictIn K cBadPath = true) (sBadPath : PySem.W.findIn K (.ref cBadPath) "__setattr__" = some (some (.builtin "object.__setattr__"))) (kcBadPath : PySem.W.keepIn K (.ref cBadPath) = true) (iiBadPath : PySem.W.findIn K (.ref cBadPath) "__init__" = some (some (.ref fBadPath))) (tiBadPath : PySem.W.typeIn K (.ref fBadPath) = some (.type "function")) (lBadPath : K.lookup fBadPath = some ⟨ocBadPath, odBadPath, .func (PySem.W.fnOf "__init__" "BadPath.__init__" (defArgs (initOf 4)) (defBody (initOf 4)) (defScope (initOf 4)) .none kVBadPath dcBadPath pmBadPath anBadPath cdBadPath ctBadPath), slBadPath⟩) (ciBadPath : PySem.W.codeIn K cdBadPath "BadPath.__init__" = true) (kiBadPath : PySem.W.keepIn K (.ref fBadPath) = true) (tBadPathvalue : PySem.W.takerIn K cBadPath "value" = some none) (nBadPathvalue : PySem.W.findIn K (.ref cBadPath) "value" = some none) (x2BadPath : PySem.W.findIn K (.ref cBadPath) "__getattribute__" = some (some (.builtin "BaseException.__getattribute__"))) (x3BadPath : PySem.W.findIn K (.ref cBadPath) "__getattr__" = some none) (x4BadPath : PySem.W.subIn K (.ref cBadPath) (.type "BaseException") = some true) (x5BadPath : PySem.W.findIn K (.ref cBadPath) "__class__" = some (some (.builtin "object.__class__"))) (x6BadPath : PySem.W.mroIn K cBadPath (.type "object") = some true) (x7BadPath : PySem.W.typeIn K (.ref cBadPath) = some (.type "type")) (yTooGreat : PySem.W.kitOne K (.ref cBadWish) (.ref cTooGreat) = some false) (yBadMachine : PySem.W.kitOne K (.ref cBadWish) (.ref cBadMachine) = some false) (yBadWish : PySem.W.kitOne K (.ref cBadWish) (.ref cBadWish) = some true) (yBadPath : PySem.W.kitOne K (.ref cBadWish) (.ref cBadPath) = some false) (yBadRun : PySem.W.kitOne K (.ref cBadWish) (.ref cBadRun) = some false) (yBadNumber : PySem.W.kitOne K (.ref cBadWish) (.ref cBadNumber) = some false) (yBadPaper : PySem.W.kitOne K (.ref cBadWish) (.ref cBadPaper) = some false) (ex : PySem.W.exmAny K (.ref cBadWish) [.ref cWishError, .ref cTooGreat] = some true) (iMOSTMARK : PySem.W.nsIn K mainGlobals "MOST_MARK" = some (some (.int 3 tiMOSTMARK))) (iMOSTPARTS : PySem.W.nsIn K mainGlobals "MOST_PARTS" = some (some (.int 12 tiMOSTPARTS))) (iMOSTTIMED : PySem.W.nsIn K mainGlobals "MOST_TIMED" = some (some (.int 5 tiMOSTTIMED))) (tT : PySem.W.nsIn K mainGlobals "TIMED" = some (some (.ref tuA))) (tU : K.lookup tuA = some ⟨.type "tuple", odT, .seq itT nT, slT⟩) (tV : itT.size ≤ sizeLine) (tW : strsK ["next", "till", "ever", "always"] itT.toList) (dT : PySem.W.nsIn K mainGlobals "WANTS" = some (some (.ref diA))) (dU : K.lookup diA = some ⟨.type "dict", none, .dict esD nD, #[]⟩) (dV : (diA == sysModules) = false) (dW : RowsW w.params esD.toList wants) :
    ∃ (fd : FuncData) (g : Fn) (ct t : Addr), PySem.W.tabIn K "_law_right" = some (ct, t) ∧ K.lookup t = none ∧ PySem.W.codeHdIn K ct t = true ∧ (∀ (s : Shared) (u : Value), BindsTo s fd ⟨[u], []⟩ [("script", u)]) ∧
      (∀ base : Heap, K.In base → base.Ns mainGlobals mg → LamX.TabB base mg ct t → FnG P w K mg base 29 fa fd ["script"] (spD 1 K (EAx K) g)) ∧ ∀ ns : List Int, ns.length ≤ 63 → ∃ w', g [.scr ns] [.tab t lamQ] = some (.ok (.dat (.bool true)), w') := by
  obtain ⟨c, hc⟩ : ∃ c : Cs, c = ⟨cBadWish, cBadPath, tA⟩ := ⟨_, rfl⟩
  have z : Zn mg := ⟨PySem.W.mg_none_of X G zint, PySem.W.mg_none_of X G zlen, PySem.W.mg_none_of X G zrange, PySem.W.mg_none_of X G zenumerate, PySem.W.mg_none_of X G zrepr, PySem.W.mg_none_of X G zisinstance, PySem.W.mg_none_of X G zbool, PySem.W.mg_none_of X G zstr, PySem.W.mg_none_of X G ztuple, PySem.W.mg_none_of X G zlist, PySem.W.mg_none_of X G zall, PySem.W.mg_none_of X G zzip, PySem.W.mg_none_of X G zsorted, PySem.W.mg_none_of X G zmin⟩
  have W : WishF K mg cWishError := ⟨PySem.W.mg_of X G aWishError, wrd, wga, wfi⟩
  have TBadWish : EC K cBadWish "ValueError" "ValueError.__new__" "ValueError.__init__" [.type "ValueError", .type "Exception", .type "BaseException", .type "object"] := ⟨PySem.F.excBase_ValueError, PySem.F.store_ValueError, qBadWish, oBadWish, hBadWish, sBadWish, kcBadWish⟩
  have XBadWish : ExK K cBadWish := ⟨cls_some hBadWish, x2BadWish, x3BadWish, x4BadWish, hBadWish, x5BadWish, xcg, xct, x6BadWish⟩
  have FBadWish := fun_mk (st := initOf 3) lBadWish ciBadWish kiBadWish
  have RBadWish : ∀ base : Heap, OwnR P w K mg base 1 "BadWish" c.wish ["path"] := fun base => by
    rw [hc]
    exact ⟨⟨TBadWish, XBadWish, PySem.W.mg_of X G aBadWish, fun f hf => by
      have e := List.mem_singleton.mp hf
      rw [e]; exact nBadWishpath, _, _, _, iiBadWish, tiBadWish, iBadWish TBadWish tBadWishpath W FBadWish, FBadWish.binds (fun _ _ _ _ _ _ us hl => match us, hl with | [_, _], _ => rfl), kwB1 (fun s u x => .of_eq rfl)⟩, x4BadWish, x7BadWish⟩
  have TBadPath : EC K cBadPath "ValueError" "ValueError.__new__" "ValueError.__init__" [.type "ValueError", .type "Exception", .type "BaseException", .type "object"] := ⟨PySem.F.excBase_ValueError, PySem.F.store_ValueError, qBadPath, oBadPath, hBadPath, sBadPath, kcBadPath⟩
  have XBadPath : ExK K cBadPath := ⟨cls_some hBadPath, x2BadPath, x3BadPath, x4BadPath, hBadPath, x5BadPath, xcg, xct, x6BadPath⟩
  have FBadPath := fun_mk (st := initOf 4) lBadPath ciBadPath kiBadPath
  have RBadPath : ∀ base : Heap, OwnR P w K mg base 1 "BadPath" c.path ["value"] := fun base => by
    rw [hc]
    exact ⟨⟨TBadPath, XBadPath, PySem.W.mg_of X G aBadPath, fun f hf => by
      have e := List.mem_singleton.mp hf
      rw [e]; exact nBadPathvalue, _, _, _, iiBadPath, tiBadPath, iBadPath TBadPath tBadPathvalue W FBadPath, FBadPath.binds (fun _ _ _ _ _ _ us hl => match us, hl with | [_, _], _ => rfl), kwB1 (fun s u x => .of_eq rfl)⟩, x4BadPath, x7BadPath⟩
  have NTooGreat : NmX K mg "TooGreat" [(c.wish, false)] := by
    rw [hc]
    exact ⟨.ref cTooGreat, .ref cTooGreat, rfl, fun _ h => h, .inl (PySem.W.mg_of X G aTooGreat), fun p hp => by
      rw [List.mem_singleton.mp hp]
      exact ⟨XBadWish, yTooGreat⟩⟩
  have NBadMachine : NmX K mg "BadMachine" [(c.wish, false)] := by
    rw [hc]
    exact ⟨.ref cBadMachine, .ref cBadMachine, rfl, fun _ h => h, .inl (PySem.W.mg_of X G aBadMachine), fun p hp => by
      rw [List.mem_singleton.mp hp]
      exact ⟨XBadWish, yBadMachine⟩⟩
  have NBadWish : NmX K mg "BadWish" [(c.wish, true)] := by
    rw [hc]
    exact ⟨.ref cBadWish, .ref cBadWish, rfl, fun _ h => h, .inl (PySem.W.mg_of X G aBadWish), fun p hp => by
      rw [List.mem_singleton.mp hp]
      exact ⟨XBadWish, yBadWish⟩⟩
  have NBadPath : NmX K mg "BadPath" [(c.wish, false)] := by
    rw [hc]
    exact ⟨.ref cBadPath, .ref cBadPath, rfl, fun _ h => h, .inl (PySem.W.mg_of X G aBadPath), fun p hp => by
      rw [List.mem_singleton.mp hp]
      exact ⟨XBadWish, yBadPath⟩⟩
  have NBadRun : NmX K mg "BadRun" [(c.wish, false)] := by
    rw [hc]
    exact ⟨.ref cBadRun, .ref cBadRun, rfl, fun _ h => h, .inl (PySem.W.mg_of X G aBadRun), fun p hp => by
      rw [List.mem_singleton.mp hp]
      exact ⟨XBadWish, yBadRun⟩⟩
  have NBadNumber : NmX K mg "BadNumber" [(c.wish, false)] := by
    rw [hc]
    exact ⟨.ref cBadNumber, .ref cBadNumber, rfl, fun _ h => h, .inl (PySem.W.mg_of X G aBadNumber), fun p hp => by
      rw [List.mem_singleton.mp hp]
      exact ⟨XBadWish, yBadNumber⟩⟩
  have NBadPaper : NmX K mg "BadPaper" [(c.wish, false)] := by
    rw [hc]
    exact ⟨.ref cBadPaper, .ref cBadPaper, rfl, fun _ h => h, .inl (PySem.W.mg_of X G aBadPaper), fun p hp => by
      rw [List.mem_singleton.mp hp]
      exact ⟨XBadWish, yBadPaper⟩⟩
  have fpath : ∀ C ∈ [c.wish], ExK K C ∧ PySem.W.findIn K (.ref C) "path" = some none := fun C hC => by
    rw [List.mem_singleton.mp hC, hc]
    exact ⟨XBadWish, nBadWishpath⟩
  have hcs : ∀ C ∈ [c.wish], PySem.W.exmAny K (.ref C) [.ref cWishError, .ref cTooGreat] = some true := fun C hC => by
    rw [List.mem_singleton.mp hC, hc]
    exact ex
  have IMOST_MARK : IntN mg "MOST_MARK" 3 := ⟨_, PySem.W.mg_of X G iMOSTMARK, ⟨_, rfl⟩⟩
  have IMOST_PARTS : IntN mg "MOST_PARTS" 12 := ⟨_, PySem.W.mg_of X G iMOSTPARTS, ⟨_, rfl⟩⟩
  have IMOST_TIMED : IntN mg "MOST_TIMED" 5 := ⟨_, PySem.W.mg_of X G iMOSTTIMED, ⟨_, rfl⟩⟩
  have TTIMED : TupN K mg "TIMED" ["next", "till", "ever", "always"] := ⟨_, _, _, _, PySem.W.mg_of X G tT, tU, rfl, rfl, tV, tW⟩
  have DWANTS : DicN w.params K mg "WANTS" wants := ⟨_, _, _, PySem.W.mg_of X G dT, dU, dV, dW⟩
  have Fiswhole := fun_mk (st := sis_whole) liswhole ciswhole kiswhole
  have Oiswhole : ∀ base : Heap, OwnF P w K mg base (EAx K) 1 "is_whole" 1 gis_whole := fun base => ⟨_, _, ["value"], fnD EAx_go Fiswhole scis_whole (fun cdv A outer s H E hg hr => dis_whole z cdv A outer s H E hg hr), PySem.W.mg_of X G aiswhole, kiswhole, Fiswhole.binds (fun _ _ _ _ _ _ us hl => match us, hl with | [_], _ => rfl)⟩
  have Fisnumber := fun_mk (st := sis_number) lisnumber cisnumber kisnumber
  have Oisnumber : ∀ base : Heap, OwnF P w K mg base (EAx K) 2 "is_number" 3 gis_number := fun base => ⟨_, _, ["value", "least", "most"], fnD EAx_go Fisnumber scis_number (fun cdv A outer s H E hg hr => dis_number (Oiswhole base) z cdv A outer s H E hg hr), PySem.W.mg_of X G aisnumber, kisnumber, Fisnumber.binds (fun _ _ _ _ _ _ us hl => match us, hl with | [_, _, _], _ => rfl)⟩
  have Fhasform := fun_mk (st := s_has_form) lhasform chasform khasform
  have Ohasform : ∀ base : Heap, OwnF P w K mg base (EAx K) 3 "_has_form" 1 g_has_form := fun base => ⟨_, _, ["part"], fnD EAx_go Fhasform sc_has_form (fun cdv A outer s H E hg hr => d_has_form (Oisnumber base) IMOST_MARK DWANTS z cdv A outer s H E hg hr), PySem.W.mg_of X G ahasform, khasform, Fhasform.binds (fun _ _ _ _ _ _ us hl => match us, hl with | [_], _ => rfl)⟩
  have Fwithin := fun_mk (st := s_within) lwithin cwithin kwithin
  have Owithin : ∀ base : Heap, OwnF P w K mg base (EAx K) 1 "_within" 2 g_within := fun base => ⟨_, _, ["path", "part"], fnD EAx_go Fwithin sc_within (fun cdv A outer s H E hg hr => d_within z cdv A outer s H E hg hr), PySem.W.mg_of X G awithin, kwithin, Fwithin.binds (fun _ _ _ _ _ _ us hl => match us, hl with | [_, _], _ => rfl)⟩
  have Fneedwish := fun_mk (st := sneed_wish) lneedwish cneedwish kneedwish
  have Oneedwish : ∀ base : Heap, OwnF P w K mg base (EAx K) 4 "need_wish" 1 (gneed_wish c) := fun base => ⟨_, _, ["wish"], fnD EAx_go Fneedwish scneed_wish (fun cdv A outer s H E hg hr => dneed_wish c (Ohasform base) (Owithin base) (RBadWish base) IMOST_PARTS IMOST_TIMED TTIMED z cdv A outer s H E hg hr), PySem.W.mg_of X G aneedwish, kneedwish, Fneedwish.binds (fun _ _ _ _ _ _ us hl => match us, hl with | [_], _ => rfl)⟩
  have Fispath := fun_mk (st := sis_path) lispath cispath kispath
  have Oispath : ∀ base : Heap, OwnF P w K mg base (EAx K) 3 "is_path" 2 gis_path := fun base => ⟨_, _, ["wish", "value"], fnD EAx_go Fispath scis_path (fun cdv A outer s H E hg hr => dis_path (Oisnumber base) z cdv A outer s H E hg hr), PySem.W.mg_of X G aispath, kispath, Fispath.binds (fun _ _ _ _ _ _ us hl => match us, hl with | [_, _], _ => rfl)⟩
  have Fneedpath := fun_mk (st := sneed_path) lneedpath cneedpath kneedpath
  have Oneedpath : ∀ base : Heap, OwnF P w K mg base (EAx K) 5 "need_path" 2 (gneed_path c) := fun base => ⟨_, _, ["wish", "path"], fnD EAx_go Fneedpath scneed_path (fun cdv A outer s H E hg hr => dneed_path c (Oneedwish base) (Oispath base) (RBadPath base) z cdv A outer s H E hg hr), PySem.W.mg_of X G aneedpath, kneedpath, Fneedpath.binds (fun _ _ _ _ _ _ us hl => match us, hl with | [_, _], _ => rfl)⟩
  have Fwalked := fun_mk (st := swalked) lwalked cwalked kwalked
  have Owalked : ∀ base : Heap, OwnF P w K mg base (EAx K) 2 "walked" 1 gwalked := fun base => ⟨_, _, ["wish"], fnD EAx_go Fwalked scwalked (fun cdv A outer s H E hg hr => dwalked (Owithin base) z cdv A outer s H E hg hr), PySem.W.mg_of X G awalked, kwalked, Fwalked.binds (fun _ _ _ _ _ _ us hl => match us, hl with | [_], _ => rfl)⟩
  have Fpaths := fun_mk (st := spaths) lpaths cpaths kpaths
  have Opaths : ∀ base : Heap, OwnF P w K mg base (EAx K) 5 "paths" 1 (gpaths c) := fun base => ⟨_, _, ["wish"], fnD EAx_go Fpaths scpaths (fun cdv A outer s H E hg hr => dpaths c (Oneedwish base) (Owalked base) z cdv A outer s H E hg hr), PySem.W.mg_of X G apaths, kpaths, Fpaths.binds (fun _ _ _ _ _ _ us hl => match us, hl with | [_], _ => rfl)⟩
  have Fpartat := fun_mk (st := spart_at) lpartat cpartat kpartat
  have Opartat : ∀ base : Heap, OwnF P w K mg base (EAx K) 6 "part_at" 2 (gpart_at c) := fun base => ⟨_, _, ["wish", "path"], fnD EAx_go Fpartat scpart_at (fun cdv A outer s H E hg hr => dpart_at c (Oneedpath base) z cdv A outer s H E hg hr), PySem.W.mg_of X G apartat, kpartat, Fpartat.binds (fun _ _ _ _ _ _ us hl => match us, hl with | [_, _], _ => rfl)⟩
  have Fputat := fun_mk (st := sput_at) lputat cputat kputat
  have Oputat : ∀ base : Heap, OwnF P w K mg base (EAx K) 24 "put_at" 3 (recG ["wish", "path", "part", "place", "inner"] (mput_at) 24) := fun base => rec_own (k0 := 0) (m := mput_at) (ps := ["wish", "path", "part"]) (PySem.W.mg_of X G aputat) kputat (Fputat.binds (fun _ _ _ _ _ _ us hl => match us, hl with | [_, _, _], _ => rfl))
    (fun k gr F => fnD EAx_go Fputat scput_at (fun cdv A outer s H E hg hr => dput_at gr k F z cdv A outer s H E hg hr)) 24
  have Freplaced := fun_mk (st := sreplaced) lreplaced creplaced kreplaced
  have Oreplaced : ∀ base : Heap, OwnF P w K mg base (EAx K) 25 "replaced" 3 (greplaced c) := fun base => ⟨_, _, ["wish", "path", "part"], fnD EAx_go Freplaced screplaced (fun cdv A outer s H E hg hr => dreplaced c (Oneedpath base) (Oneedwish base) (Oputat base) z cdv A outer s H E hg hr), PySem.W.mg_of X G areplaced, kreplaced, Freplaced.binds (fun _ _ _ _ _ _ us hl => match us, hl with | [_, _, _], _ => rfl)⟩
  have Fisplain := fun_mk (st := sis_plain) lisplain cisplain kisplain
  have Oisplain : ∀ base : Heap, OwnF P w K mg base (EAx K) 6 "is_plain" 2 (gis_plain c) := fun base => ⟨_, _, ["wish", "path"], fnD EAx_go Fisplain scis_plain (fun cdv A outer s H E hg hr => dis_plain c (Oneedpath base) z cdv A outer s H E hg hr), PySem.W.mg_of X G aisplain, kisplain, Fisplain.binds (fun _ _ _ _ _ _ us hl => match us, hl with | [_, _], _ => rfl)⟩
  have Fworst := fun_mk (st := sworst) lworst cworst kworst
  have Oworst : ∀ base : Heap, OwnF P w K mg base (EAx K) 7 "worst" 2 (gworst c) := fun base => ⟨_, _, ["wish", "path"], fnD EAx_go Fworst scworst (fun cdv A outer s H E hg hr => dworst c (Oisplain base) z cdv A outer s H E hg hr), PySem.W.mg_of X G aworst, kworst, Fworst.binds (fun _ _ _ _ _ _ us hl => match us, hl with | [_, _], _ => rfl)⟩
  have Fhardened := fun_mk (st := shardened) lhardened chardened khardened
  have Ohardened : ∀ base : Heap, OwnF P w K mg base (EAx K) 25 "hardened" 2 (ghardened c) := fun base => ⟨_, _, ["wish", "path"], fnD EAx_go Fhardened schardened (fun cdv A outer s H E hg hr => dhardened c (Oputat base) (Oworst base) z cdv A outer s H E hg hr), PySem.W.mg_of X G ahardened, khardened, Fhardened.binds (fun _ _ _ _ _ _ us hl => match us, hl with | [_, _], _ => rfl)⟩
  have Funliketimed := fun_mk (st := sunlike_timed) lunliketimed cunliketimed kunliketimed
  have Ounliketimed : ∀ base : Heap, OwnF P w K mg base (EAx K) 3 "unlike_timed" 1 gunlike_timed := fun base => ⟨_, _, ["wish"], fnD EAx_go Funliketimed scunlike_timed (fun cdv A outer s H E hg hr => dunlike_timed (Owalked base) TTIMED z cdv A outer s H E hg hr), PySem.W.mg_of X G aunliketimed, kunliketimed, Funliketimed.binds (fun _ _ _ _ _ _ us hl => match us, hl with | [_], _ => rfl)⟩
  have Ftimedparts := fun_mk (st := stimed_parts) ltimedparts ctimedparts ktimedparts
  have Otimedparts : ∀ base : Heap, OwnF P w K mg base (EAx K) 5 "timed_parts" 1 (gtimed_parts c) := fun base => ⟨_, _, ["wish"], fnD EAx_go Ftimedparts sctimed_parts (fun cdv A outer s H E hg hr => dtimed_parts c (Ounliketimed base) (Oneedwish base) z cdv A outer s H E hg hr), PySem.W.mg_of X G atimedparts, ktimedparts, Ftimedparts.binds (fun _ _ _ _ _ _ us hl => match us, hl with | [_], _ => rfl)⟩
  have Fsoftened := fun_mk (st := ssoftened) lsoftened csoftened ksoftened
  have Osoftened : ∀ base : Heap, OwnF P w K mg base (EAx K) 25 "softened" 2 (gsoftened c) := fun base => ⟨_, _, ["wish", "path"], fnD EAx_go Fsoftened scsoftened (fun cdv A outer s H E hg hr => dsoftened c (Oisplain base) (Oputat base) z cdv A outer s H E hg hr), PySem.W.mg_of X G asoftened, ksoftened, Fsoftened.binds (fun _ _ _ _ _ _ us hl => match us, hl with | [_, _], _ => rfl)⟩
  have Flawmixed := fun_mk (st := s_law_mixed) llawmixed clawmixed klawmixed
  have Olawmixed : ∀ base : Heap, OwnF P w K mg base (EAx K) 1 "_law_mixed" 2 g_law_mixed := fun base => ⟨_, _, ["cell", "n"], fnD EAx_go Flawmixed sc_law_mixed (fun cdv A outer s H E hg hr => d_law_mixed z cdv A outer s H E hg hr), PySem.W.mg_of X G alawmixed, klawmixed, Flawmixed.binds (fun _ _ _ _ _ _ us hl => match us, hl with | [_, _], _ => rfl)⟩
  have Flawfolded := fun_mk (st := s_law_folded) llawfolded clawfolded klawfolded
  have Olawfolded : ∀ base : Heap, OwnF P w K mg base (EAx K) 1 "_law_folded" 1 g_law_folded := fun base => ⟨_, _, ["script"], fnD EAx_go Flawfolded sc_law_folded (fun cdv A outer s H E hg hr => d_law_folded z cdv A outer s H E hg hr), PySem.W.mg_of X G alawfolded, klawfolded, Flawfolded.binds (fun _ _ _ _ _ _ us hl => match us, hl with | [_], _ => rfl)⟩
  have Flawdraw := fun_mk (st := s_law_draw) llawdraw clawdraw klawdraw
  have Olawdraw : ∀ base : Heap, OwnF P w K mg base (EAx K) 2 "_law_draw" 2 g_law_draw := fun base => ⟨_, _, ["m", "limit"], fnD EAx_go Flawdraw sc_law_draw (fun cdv A outer s H E hg hr => d_law_draw (Olawmixed base) z cdv A outer s H E hg hr), PySem.W.mg_of X G alawdraw, klawdraw, Flawdraw.binds (fun _ _ _ _ _ _ us hl => match us, hl with | [_, _], _ => rfl)⟩
  have Flawbegun := fun_mk (st := s_law_begun) llawbegun clawbegun klawbegun
  have Olawbegun : ∀ base : Heap, OwnF P w K mg base (EAx K) 2 "_law_begun" 1 g_law_begun := fun base => ⟨_, _, ["script"], fnD EAx_go Flawbegun sc_law_begun (fun cdv A outer s H E hg hr => d_law_begun (Olawfolded base) z cdv A outer s H E hg hr), PySem.W.mg_of X G alawbegun, klawbegun, Flawbegun.binds (fun _ _ _ _ _ _ us hl => match us, hl with | [_], _ => rfl)⟩
  have Flawlike := fun_mk (st := s_law_like) llawlike clawlike klawlike
  have Olawlike : ∀ base : Heap, OwnF P w K mg base (EAx K) 1 "_law_like" 2 g_law_like := fun base => ⟨_, _, ["got", "due"], fnD EAx_go Flawlike sc_law_like (fun cdv A outer s H E hg hr => d_law_like z cdv A outer s H E hg hr), PySem.W.mg_of X G alawlike, klawlike, Flawlike.binds (fun _ _ _ _ _ _ us hl => match us, hl with | [_, _], _ => rfl)⟩
  have Flawhope := fun_mk (st := s_law_hope) llawhope clawhope klawhope
  have Olawhope : ∀ base : Heap, OwnF P w K mg base (EAx K) 15 "_law_hope" 3 (recG ["m", "left", "timed", "pick", "leaf", "size", "near"] (m_law_hope) 13) := fun base => rec_own (k0 := 2) (m := m_law_hope) (ps := ["m", "left", "timed"]) (PySem.W.mg_of X G alawhope) klawhope (Flawhope.binds (fun _ _ _ _ _ _ us hl => match us, hl with | [_, _, _], _ => rfl))
    (fun k gr F => fnD EAx_go Flawhope sc_law_hope (fun cdv A outer s H E hg hr => d_law_hope gr k (Olawdraw base) F z cdv A outer s H E hg hr)) 13
  have Flawpieces := fun_mk (st := s_law_pieces) llawpieces clawpieces klawpieces
  have Olawpieces : ∀ base : Heap, OwnF P w K mg base (EAx K) 24 "_law_pieces" 1 (recG ["hope", "found", "place", "path", "part"] (m_law_pieces) 24) := fun base => rec_own (k0 := 0) (m := m_law_pieces) (ps := ["hope"]) (PySem.W.mg_of X G alawpieces) klawpieces (Flawpieces.binds (fun _ _ _ _ _ _ us hl => match us, hl with | [_], _ => rfl))
    (fun k gr F => fnD EAx_go Flawpieces sc_law_pieces (fun cdv A outer s H E hg hr => d_law_pieces gr k F z cdv A outer s H E hg hr)) 24
  have Flawwith := fun_mk (st := s_law_with) llawwith clawwith klawwith
  have Olawwith : ∀ base : Heap, OwnF P w K mg base (EAx K) 24 "_law_with" 3 (recG ["hope", "path", "part", "place"] (m_law_with) 24) := fun base => rec_own (k0 := 0) (m := m_law_with) (ps := ["hope", "path", "part"]) (PySem.W.mg_of X G alawwith) klawwith (Flawwith.binds (fun _ _ _ _ _ _ us hl => match us, hl with | [_, _, _], _ => rfl))
    (fun k gr F => fnD EAx_go Flawwith sc_law_with (fun cdv A outer s H E hg hr => d_law_with gr k F z cdv A outer s H E hg hr)) 24
  have Flawiseven := fun_mk (st := s_law_is_even) llawiseven clawiseven klawiseven
  have Olawiseven : ∀ base : Heap, OwnF P w K mg base (EAx K) 1 "_law_is_even" 2 g_law_is_even := fun base => ⟨_, _, ["hope", "path"], fnD EAx_go Flawiseven sc_law_is_even (fun cdv A outer s H E hg hr => d_law_is_even z cdv A outer s H E hg hr), PySem.W.mg_of X G alawiseven, klawiseven, Flawiseven.binds (fun _ _ _ _ _ _ us hl => match us, hl with | [_, _], _ => rfl)⟩
  have Flawtimed := fun_mk (st := s_law_timed) llawtimed clawtimed klawtimed
  have Olawtimed : ∀ base : Heap, OwnF P w K mg base (EAx K) 25 "_law_timed" 1 g_law_timed := fun base => ⟨_, _, ["hope"], fnD EAx_go Flawtimed sc_law_timed (fun cdv A outer s H E hg hr => d_law_timed (Olawpieces base) z cdv A outer s H E hg hr), PySem.W.mg_of X G alawtimed, klawtimed, Flawtimed.binds (fun _ _ _ _ _ _ us hl => match us, hl with | [_], _ => rfl)⟩
  have Flawtold := fun_mk (st := s_law_told) llawtold clawtold klawtold
  have Flawright := fun_mk (st := s_law_right) llawright clawright klawright
  have Olawright : ∀ base : Heap, LamX.TabB base mg kA tA → OwnF P w K mg base (EAx K) 28 "_law_right" 3 (g_law_right c) := fun base TB => ⟨_, _, ["hope", "path", "part"], fnDC EAx_go Flawright sc_law_right (fun cdv A outer s H E hcd hg hr => d_law_right (gT := flawtold) (ct := kA) (c1 := .ref cWishError) (c2 := .ref cTooGreat) c cdv (Olawiseven base) (Olawwith base) (Olawlike base) (Opartat base) (Oisplain base) (Oworst base) (Ohardened base) (Osoftened base) (Olawpieces base) (Oreplaced base) hcd.symm (by rw [hc]; exact TB) Flawtold (PySem.W.mg_of X G alawtold) klawtold (Flawtold.binds (fun _ _ _ _ _ _ us hl => match us, hl with | [_], _ => rfl)) (.inl (PySem.W.mg_of X G aWishError)) (.inl (PySem.W.mg_of X G aTooGreat)) hcs
      (fun cdv A outer s H E hg hr => d_law_told c _ NTooGreat NBadMachine NBadWish NBadPath NBadRun NBadNumber NBadPaper fpath z cdv A outer s H E hg hr) z A outer s H E hg hr), PySem.W.mg_of X G alawright, klawright, Flawright.binds (fun _ _ _ _ _ _ us hl => match us, hl with | [_, _, _], _ => rfl)⟩
  have Flaw := fun_mk (st := slaw) llaw claw klaw
  have e := hfa.symm.trans (PySem.W.mg_of X G alaw)
  cases e
  have tab : PySem.W.tabIn K "_law_right" = some (kA, tA) := tab_mk alawright llawright rfl kAo kAt
  exact ⟨_, glaw c, kA, tA, tab, tAn, kAh, fun s v => .of_eq rfl, fun base _ _ TB => fnD EAx_go Flaw sclaw (fun cdv A outer s H E hg hr => dlaw c (Olawbegun base) (Opaths base) (Oisplain base) (Olawhope base) (Olawpieces base) (Otimedparts base) (Olawlike base) (Ohardened base) (Olawtimed base) (Olawdraw base) (Olawright base TB) z cdv A outer s H E hg hr), fun ns hz => by
    have := law_ok (c := c) ns hz
    rw [show c.tab = tA from by rw [hc]] at this
    exact this⟩
end K03
end EG


open PySem PySem.W PyProof.Rows
set_option Elab.async false
set_option maxRecDepth 100000 in
set_option maxHeartbeats 0 in
theorem PySem.Challenge.cw_idlewishes_k03_whole_wishes_holds : PySem.Challenge.rw_idlewishes_k03_whole_wishes.Holds := by
  w_on; o_law; k_head; (case hw => w_witness2)
  k_fill
  refine EG.law_endT (l := PySem.Challenge.rw_idlewishes_k03_whole_wishes) (n := 63) (k := 29) (x := "script") (tx := "_law_right") (qx := EG.K03.lamQ) (EA := EG.EAx) rfl (by decide) rfl ⟨rfl, by decide, by decide⟩ (fun w h Y => PySem.W.km_in_of Y) (by decide +kernel) ?F
  case F =>
    intro w mg fa h KX G hmg
    refine' EG.K03.all_mk KX G hmg ?aWishError ?aTooGreat ?aBadMachine ?aBadWish ?aBadPath ?aBadRun ?aBadNumber ?aBadPaper ?aiswhole ?liswhole ?ciswhole ?kiswhole ?aisnumber ?lisnumber ?cisnumber ?kisnumber ?ahasform ?lhasform ?chasform ?khasform ?awithin ?lwithin ?cwithin ?kwithin ?aneedwish ?lneedwish ?cneedwish ?kneedwish ?aispath ?lispath ?cispath ?kispath ?aneedpath ?lneedpath ?cneedpath ?kneedpath ?awalked ?lwalked ?cwalked ?kwalked ?apaths ?lpaths ?cpaths ?kpaths ?apartat ?lpartat ?cpartat ?kpartat ?aputat ?lputat ?cputat ?kputat ?areplaced ?lreplaced ?creplaced ?kreplaced ?aisplain ?lisplain ?cisplain ?kisplain ?aworst ?lworst ?cworst ?kworst ?ahardened ?lhardened ?chardened ?khardened ?aunliketimed ?lunliketimed ?cunliketimed ?kunliketimed ?atimedparts ?ltimedparts ?ctimedparts ?ktimedparts ?asoftened ?lsoftened ?csoftened ?ksoftened ?alawmixed ?llawmixed ?clawmixed ?klawmixed ?alawfolded ?llawfolded ?clawfolded ?klawfolded ?alawdraw ?llawdraw ?clawdraw ?klawdraw ?alawbegun ?llawbegun ?clawbegun ?klawbegun ?alawlike ?llawlike ?clawlike ?klawlike ?alawhope ?llawhope ?clawhope ?klawhope ?alawpieces ?llawpieces ?clawpieces ?klawpieces ?alawwith ?llawwith ?clawwith ?klawwith ?alawiseven ?llawiseven ?clawiseven ?klawiseven ?alawtimed ?llawtimed ?clawtimed ?klawtimed ?alawtold ?llawtold ?clawtold ?klawtold ?alawright ?llawright ?clawright ?klawright ?alaw ?llaw ?claw ?klaw ?zint ?zlen ?zrange ?zenumerate ?zrepr ?zisinstance ?zbool ?zstr ?ztuple ?zlist ?zall ?zzip ?zsorted ?zmin ?kAo ?kAt ?kAh ?tAn ?wrd ?wga ?wfi ?xcg ?xct ?qBadWish ?oBadWish ?hBadWish ?sBadWish ?kcBadWish ?iiBadWish ?tiBadWish ?lBadWish ?ciBadWish ?kiBadWish ?tBadWishpath ?nBadWishpath ?x2BadWish ?x3BadWish ?x4BadWish ?x5BadWish ?x6BadWish ?x7BadWish ?qBadPath ?oBadPath ?hBadPath ?sBadPath ?kcBadPath ?iiBadPath ?tiBadPath ?lBadPath ?ciBadPath ?kiBadPath ?tBadPathvalue ?nBadPathvalue ?x2BadPath ?x3BadPath ?x4BadPath ?x5BadPath ?x6BadPath ?x7BadPath ?yTooGreat ?yBadMachine ?yBadWish ?yBadPath ?yBadRun ?yBadNumber ?yBadPaper ?ex ?iMOSTMARK ?iMOSTPARTS ?iMOSTTIMED ?tT ?tU ?tV ?tW ?dT ?dU ?dV ?dW
    (case aWishError => k_is)
    (case aTooGreat => k_is)
    (case aBadMachine => k_is)
    (case aBadWish => k_is)
    (case aBadPath => k_is)
    (case aBadRun => k_is)
    (case aBadNumber => k_is)
    (case aBadPaper => k_is)
    (case aiswhole => k_is)
    (case liswhole => k_is)
    (case ciswhole => k_is)
    (case kiswhole => k_is)
    (case aisnumber => k_is)
    (case lisnumber => k_is)
    (case cisnumber => k_is)
    (case kisnumber => k_is)
    (case ahasform => k_is)
    (case lhasform => k_is)
    (case chasform => k_is)
    (case khasform => k_is)
    (case awithin => k_is)
    (case lwithin => k_is)
    (case cwithin => k_is)
    (case kwithin => k_is)
    (case aneedwish => k_is)
    (case lneedwish => k_is)
    (case cneedwish => k_is)
    (case kneedwish => k_is)
    (case aispath => k_is)
    (case lispath => k_is)
    (case cispath => k_is)
    (case kispath => k_is)
    (case aneedpath => k_is)
    (case lneedpath => k_is)
    (case cneedpath => k_is)
    (case kneedpath => k_is)
    (case awalked => k_is)
    (case lwalked => k_is)
    (case cwalked => k_is)
    (case kwalked => k_is)
    (case apaths => k_is)
    (case lpaths => k_is)
    (case cpaths => k_is)
    (case kpaths => k_is)
    (case apartat => k_is)
    (case lpartat => k_is)
    (case cpartat => k_is)
    (case kpartat => k_is)
    (case aputat => k_is)
    (case lputat => k_is)
    (case cputat => k_is)
    (case kputat => k_is)
    (case areplaced => k_is)
    (case lreplaced => k_is)
    (case creplaced => k_is)
    (case kreplaced => k_is)
    (case aisplain => k_is)
    (case lisplain => k_is)
    (case cisplain => k_is)
    (case kisplain => k_is)
    (case aworst => k_is)
    (case lworst => k_is)
    (case cworst => k_is)
    (case kworst => k_is)
    (case ahardened => k_is)
    (case lhardened => k_is)
    (case chardened => k_is)
    (case khardened => k_is)
    (case aunliketimed => k_is)
    (case lunliketimed => k_is)
    (case cunliketimed => k_is)
    (case kunliketimed => k_is)
    (case atimedparts => k_is)
    (case ltimedparts => k_is)
    (case ctimedparts => k_is)
    (case ktimedparts => k_is)
    (case asoftened => k_is)
    (case lsoftened => k_is)
    (case csoftened => k_is)
    (case ksoftened => k_is)
    (case alawmixed => k_is)
    (case llawmixed => k_is)
    (case clawmixed => k_is)
    (case klawmixed => k_is)
    (case alawfolded => k_is)
    (case llawfolded => k_is)
    (case clawfolded => k_is)
    (case klawfolded => k_is)
    (case alawdraw => k_is)
    (case llawdraw => k_is)
    (case clawdraw => k_is)
    (case klawdraw => k_is)
    (case alawbegun => k_is)
    (case llawbegun => k_is)
    (case clawbegun => k_is)
    (case klawbegun => k_is)
    (case alawlike => k_is)
    (case llawlike => k_is)
    (case clawlike => k_is)
    (case klawlike => k_is)
    (case alawhope => k_is)
    (case llawhope => k_is)
    (case clawhope => k_is)
    (case klawhope => k_is)
    (case alawpieces => k_is)
    (case llawpieces => k_is)
    (case clawpieces => k_is)
    (case klawpieces => k_is)
    (case alawwith => k_is)
    (case llawwith => k_is)
    (case clawwith => k_is)
    (case klawwith => k_is)
    (case alawiseven => k_is)
    (case llawiseven => k_is)
    (case clawiseven => k_is)
    (case klawiseven => k_is)
    (case alawtimed => k_is)
    (case llawtimed => k_is)
    (case clawtimed => k_is)
    (case klawtimed => k_is)
    (case alawtold => k_is)
    (case llawtold => k_is)
    (case clawtold => k_is)
    (case klawtold => k_is)
    (case alawright => k_is)
    (case llawright => k_is)
    (case clawright => k_is)
    (case klawright => k_is)
    (case alaw => k_is)
    (case llaw => k_is)
    (case claw => k_is)
    (case klaw => k_is)
    (case zint => k_is)
    (case zlen => k_is)
    (case zrange => k_is)
    (case zenumerate => k_is)
    (case zrepr => k_is)
    (case zisinstance => k_is)
    (case zbool => k_is)
    (case zstr => k_is)
    (case ztuple => k_is)
    (case zlist => k_is)
    (case zall => k_is)
    (case zzip => k_is)
    (case zsorted => k_is)
    (case zmin => k_is)
    (case kAo => k_is)
    (case kAt => rfl)
    (case kAh => kernel_rfl)
    (case tAn => kernel_rfl)
    (case wrd => k_is)
    (case wga => k_is)
    (case wfi => k_is)
    (case xcg => k_is)
    (case xct => k_is)
    (case qBadWish => kx_is)
    (case oBadWish => kx_is)
    (case hBadWish => k_is)
    (case sBadWish => k_is)
    (case kcBadWish => k_is)
    (case iiBadWish => k_is)
    (case tiBadWish => k_is)
    (case lBadWish => k_is)
    (case ciBadWish => k_is)
    (case kiBadWish => k_is)
    (case tBadWishpath => k_is)
    (case nBadWishpath => k_is)
    (case x2BadWish => k_is)
    (case x3BadWish => k_is)
    (case x4BadWish => k_is)
    (case x5BadWish => k_is)
    (case x6BadWish => k_is)
    (case x7BadWish => k_is)
    (case qBadPath => kx_is)
    (case oBadPath => kx_is)
    (case hBadPath => k_is)
    (case sBadPath => k_is)
    (case kcBadPath => k_is)
    (case iiBadPath => k_is)
    (case tiBadPath => k_is)
    (case lBadPath => k_is)
    (case ciBadPath => k_is)
    (case kiBadPath => k_is)
    (case tBadPathvalue => k_is)
    (case nBadPathvalue => k_is)
    (case x2BadPath => k_is)
    (case x3BadPath => k_is)
    (case x4BadPath => k_is)
    (case x5BadPath => k_is)
    (case x6BadPath => k_is)
    (case x7BadPath => k_is)
    (case yTooGreat => kit_is)
    (case yBadMachine => kit_is)
    (case yBadWish => kit_is)
    (case yBadPath => kit_is)
    (case yBadRun => kit_is)
    (case yBadNumber => kit_is)
    (case yBadPaper => kit_is)
    (case ex => kernel_rfl)
    (case iMOSTMARK => k_is)
    (case iMOSTPARTS => k_is)
    (case iMOSTTIMED => k_is)
    (case tT => k_is)
    (case tU => k_is)
    (case tV => size_fits)
    (case tW => exact ⟨⟨_, rfl⟩, ⟨_, rfl⟩, ⟨_, rfl⟩, ⟨_, rfl⟩, True.intro⟩)
    (case dT => k_is)
    (case dU => k_is)
    (case dV => rfl)
    (case dW => exact ⟨⟨_, _, rfl, rfl, rfl⟩, ⟨_, _, rfl, rfl, rfl⟩, ⟨_, _, rfl, rfl, rfl⟩, ⟨_, _, rfl, rfl, rfl⟩, ⟨_, _, rfl, rfl, rfl⟩, ⟨_, _, rfl, rfl, rfl⟩, ⟨_, _, rfl, rfl, rfl⟩, ⟨_, _, rfl, rfl, rfl⟩, ⟨_, _, rfl, rfl, rfl⟩, ⟨_, _, rfl, rfl, rfl⟩, True.intro⟩)

