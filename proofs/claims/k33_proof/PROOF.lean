import PyProof.Rows.All
import Wide.All
import OpenK.AllK
import Wide.FinOn
import HandS.ForMost
import HandS.ForExc
import HandS.Walk
import HandS.Zip
import HandS.TryMany
import HandS.Flow
import HandS.Style
import HandS.Lambda
import KE.GoesEnum
import HandS.Iter
import HandS.Small
import HandS.Deep
import HandS.TupAny
import HandS.SortInts
import KE.KTupSum
import HandS.SetFor
import HandS.Conv
import KE.DatumOrd
import PyProof.Rows.CallKwBuiltin
import HandS.IsInst
import HandS.Dict
import KE.KStateDown
import HandS.Head0
import HandS.Head1
import HandS.Head2
import HandS.HeadHook1
import HandS.HeadHook2
import HandS.HeadHook3
import HandS.HeadHook4
import HandS.HeadWalk
import PySem.Challenge.RW_crossloom_k33_shaped_served_and_bounded
set_option Elab.async false
set_option Elab.async false
set_option linter.all false
set_option maxRecDepth 100000
set_option maxHeartbeats 1000000
namespace Ev
open PySem PySem.Spec PyProof.Rows L2

abbrev D := PyData
/-- a reference to a thing that may change -/
abbrev cel (n : Nat) : D := .dict [(.int (Int.ofNat n), .none)]
/-- a list that is read, never written (the script) -/
abbrev frzD (l : List D) : D := .dict [(.none, .list l)]

inductive Cell where
  | no
  | lst (l : List D)
  | dic (t : Bool) (kvs : List (D × D))
  | dik (kvs : List (D × D))
  | ins (C : Nat) (fs : List (Nat × D))

structure Hs where
  nx : Nat
  h : Nat → Cell

def Hs.set (s : Hs) (n : Nat) (c : Cell) : Hs := ⟨s.nx, fun m => if m = n then c else s.h m⟩
def Hs.push (s : Hs) (c : Cell) : Hs := ⟨s.nx + 1, fun m => if m = s.nx then c else s.h m⟩

inductive Res (α : Type) where
  | ok (a : α) (s : Hs)
  | exc (e : Nat) (s : Hs)
  | stuck

def Res.bind {α β : Type} (r : Res α) (f : α → Hs → Res β) : Res β :=
  match r with
  | .ok a s => f a s
  | .exc e s => .exc e s
  | .stuck => .stuck

/-! ### what stands for what -/
/-- the cells' addresses; what is being built -/
structure Gh where
  f : Nat → Addr
  R : List Addr
def NotCell (κ : Gh) (nx : Nat) (a : Addr) : Prop := (∀ n, n < nx → κ.f n ≠ a) ∧ a ∉ κ.R
/-- a list, a tuple that never changes: tracked and no cell, or written -/
def WrtL (K : PySem.W.Frag) (a : Addr) (xs : List V) : Prop :=
  ∃ (o : Obj) (its : Array Value) (n : Nat), K.lookup a = some o ∧ o.cls = .type "list" ∧ o.dict = none ∧ o.data = .seq its n ∧ its.size ≤ sizeLine ∧ Vals xs its.toList
def WrtT (K : PySem.W.Frag) (a : Addr) (xs : List V) : Prop :=
  ∃ (o : Obj) (its : Array Value) (n : Nat), K.lookup a = some o ∧ o.cls = .type "tuple" ∧ o.data = .seq its n ∧ its.size ≤ sizeLine ∧ Vals xs its.toList
def FxL (κ : Gh) (nx : Nat) (H : Hp) (a : Addr) (xs : List V) : Prop := H a = some (.lst xs) ∧ NotCell κ nx a
def FxF (K : PySem.W.Frag) (κ : Gh) (nx : Nat) (H : Hp) (a : Addr) (xs : List V) : Prop := (Rd H a (.lst xs) ∧ NotCell κ nx a) ∨ WrtL K a xs
def FxR (κ : Gh) (nx : Nat) (H : Hp) (a : Addr) (lo hi : Int) : Prop := H a = some (.rng lo hi) ∧ NotCell κ nx a
def FxT (K : PySem.W.Frag) (κ : Gh) (nx : Nat) (H : Hp) (a : Addr) (xs : List V) : Prop := H a = some (.tup xs) ∧ NotCell κ nx a
section
variable {K : PySem.W.Frag} {κ κ' : Gh} {nx nx' : Nat} {H H' : Hp} {a : Addr} {xs : List V}
theorem FxL.sq (h : FxL κ nx H a xs) : SqL K H a xs := .inl (.inl h.1)
theorem FxF.sq (h : FxF K κ nx H a xs) : SqL K H a xs := h.elim (fun x => .inl x.1) .inr
theorem FxT.sq (h : FxT K κ nx H a xs) : SqT K H a xs := .inl (.inl h.1)
end

mutual
inductive Rep (K : PySem.W.Frag) (κ : Gh) (nx : Nat) (H : Hp) : V → D → Prop
  | non : Rep K κ nx H .non .none
  | bl {b : Bool} : Rep K κ nx H (.bl b) (.bool b)
  | int {i : Int} : Rep K κ nx H (.int i) (.int i)
  | str {x : Str} : Rep K κ nx H (.str x) (.str x)
  | lst {a : Addr} {vs : List V} {ds : List D} : FxL κ nx H a vs → Reps K κ nx H vs ds → Rep K κ nx H (.ref a) (.list ds)
  | tup {a : Addr} {vs : List V} {ds : List D} : FxT K κ nx H a vs → Reps K κ nx H vs ds → Rep K κ nx H (.ref a) (.tuple ds)
  | frz {a : Addr} {vs : List V} {ds : List D} : FxF K κ nx H a vs → Reps K κ nx H vs ds → Rep K κ nx H (.ref a) (.dict [(.none, .list ds)])
  | cel {n : Nat} {a : Addr} : n < nx → a = κ.f n → Rep K κ nx H (.ref a) (.dict [(.int (Int.ofNat n), .none)])
  | rng {a : Addr} {lo hi : Int} : FxR κ nx H a lo hi → Rep K κ nx H (.ref a) (.dict [(.bool true, .tuple [.int lo, .int hi])])
inductive Reps (K : PySem.W.Frag) (κ : Gh) (nx : Nat) (H : Hp) : List V → List D → Prop
  | nil : Reps K κ nx H [] []
  | cons {v : V} {vs : List V} {d : D} {ds : List D} : Rep K κ nx H v d → Reps K κ nx H vs ds → Reps K κ nx H (v :: vs) (d :: ds)
end

/-- no table of code objects: such grow -/
def NoTbl (o : HO) : Prop := ∀ ps, o ≠ .tbl ps
theorem nt_lst {xs : List V} : NoTbl (.lst xs) := fun _ z => by cases z
theorem nt_tup {xs : List V} : NoTbl (.tup xs) := fun _ z => by cases z
theorem nt_rng {lo hi : Int} : NoTbl (.rng lo hi) := fun _ z => by cases z
theorem nt_frz {o : Obj} {u : HO} : NoTbl (.frz o u) := fun _ z => by cases z
/-- nothing is known of it, but that it may be a table -/
def HN (H : Hp) (p : Addr) : Prop := ∀ o, H p = some o → ¬ NoTbl o
theorem hn_none {H : Hp} {p : Addr} (h : H p = none) : HN H p := fun o e => by rw [h] at e; cases e
/-- trees and cells' places are kept -/
structure Tr1 (κ : Gh) (nx : Nat) (H : Hp) (κ' : Gh) (nx' : Nat) (H' : Hp) : Prop where
  le : nx ≤ nx'
  ag : ∀ n, n < nx → κ'.f n = κ.f n
  kp : ∀ a o, H a = some o → NoTbl o → NotCell κ nx a → H' a = some o ∧ NotCell κ' nx' a
/-- from one state to a later one -/
structure Tr (κ : Gh) (nx : Nat) (H : Hp) (κ' : Gh) (nx' : Nat) (H' : Hp) : Prop where
  le : nx ≤ nx'
  ag : ∀ n, n < nx → κ'.f n = κ.f n
  rs : κ'.R = κ.R
  rk : ∀ r, r ∈ κ.R → H' r = H r
  kp : ∀ a o, H a = some o → NoTbl o → NotCell κ nx a → H' a = some o ∧ NotCell κ' nx' a

section
variable {K : PySem.W.Frag} {κ κ' κ'' : Gh} {nx nx' nx'' : Nat} {H H' H'' : Hp} {a : Addr} {xs : List V}
theorem Tr.one (t : Tr κ nx H κ' nx' H') : Tr1 κ nx H κ' nx' H' := ⟨t.le, t.ag, t.kp⟩
theorem Tr.refl : Tr κ nx H κ nx H := ⟨Nat.le_refl _, fun _ _ => rfl, rfl, fun _ _ => rfl, fun _ _ h _ n => ⟨h, n⟩⟩
theorem Tr.trans (t : Tr κ nx H κ' nx' H') (u : Tr κ' nx' H' κ'' nx'' H'') : Tr κ nx H κ'' nx'' H'' :=
  ⟨Nat.le_trans t.le u.le, fun n h => (u.ag n (Nat.lt_of_lt_of_le h t.le)).trans (t.ag n h), u.rs.trans t.rs, fun r hr => (u.rk r (by rw [t.rs]; exact hr)).trans (t.rk r hr), fun a o h z n => let ⟨h1, n1⟩ := t.kp a o h z n; u.kp a o h1 z n1⟩
theorem FxL.tr1 (t : Tr1 κ nx H κ' nx' H') (h : FxL κ nx H a xs) : FxL κ' nx' H' a xs := t.kp a _ h.1 nt_lst h.2
theorem FxF.tr1 (t : Tr1 κ nx H κ' nx' H') (h : FxF K κ nx H a xs) : FxF K κ' nx' H' a xs := by
  rcases h with ⟨h | ⟨o, h⟩, n⟩ | h
  · exact .inl ⟨.inl (t.kp a _ h nt_lst n).1, (t.kp a _ h nt_lst n).2⟩
  · exact .inl ⟨.inr ⟨o, (t.kp a _ h nt_frz n).1⟩, (t.kp a _ h nt_frz n).2⟩
  · exact .inr h
theorem FxT.tr1 (t : Tr1 κ nx H κ' nx' H') (h : FxT K κ nx H a xs) : FxT K κ' nx' H' a xs := t.kp a _ h.1 nt_tup h.2
mutual
theorem Rep.tr1 (t : Tr1 κ nx H κ' nx' H') : ∀ {v : V} {d : D}, Rep K κ nx H v d → Rep K κ' nx' H' v d
  | _, _, .non => .non
  | _, _, .bl => .bl
  | _, _, .int => .int
  | _, _, .str => .str
  | _, _, .lst h r => .lst (h.tr1 t) (Reps.tr1 t r)
  | _, _, .tup h r => .tup (h.tr1 t) (Reps.tr1 t r)
  | _, _, .frz h r => .frz (h.tr1 t) (Reps.tr1 t r)
  | _, _, .cel h e => .cel (Nat.lt_of_lt_of_le h t.le) (e.trans (t.ag _ h).symm)
  | _, _, .rng h => .rng (t.kp _ _ h.1 nt_rng h.2)
theorem Reps.tr1 (t : Tr1 κ nx H κ' nx' H') : ∀ {vs : List V} {ds : List D}, Reps K κ nx H vs ds → Reps K κ' nx' H' vs ds
  | _, _, .nil => .nil
  | _, _, .cons h r => .cons (Rep.tr1 t h) (Reps.tr1 t r)
end
theorem FxL.tr {a : Addr} {xs : List V} (t : Tr κ nx H κ' nx' H') (h : FxL κ nx H a xs) : FxL κ' nx' H' a xs := h.tr1 t.one
theorem FxT.tr {a : Addr} {xs : List V} (t : Tr κ nx H κ' nx' H') (h : FxT K κ nx H a xs) : FxT K κ' nx' H' a xs := h.tr1 t.one
theorem Rep.tr {v : V} {d : D} (t : Tr κ nx H κ' nx' H') (h : Rep K κ nx H v d) : Rep K κ' nx' H' v d := h.tr1 t.one
theorem Reps.tr {v : List V} {d : List D} (t : Tr κ nx H κ' nx' H') (h : Reps K κ nx H v d) : Reps K κ' nx' H' v d := h.tr1 t.one
theorem Reps.len : ∀ {vs : List V} {ds : List D}, Reps K κ nx H vs ds → vs.length = ds.length
  | _, _, .nil => rfl
  | _, _, .cons _ r => by rw [List.length_cons, List.length_cons, r.len]
theorem Reps.get : ∀ {vs : List V} {ds : List D} {i : Nat} {d : D}, Reps K κ nx H vs ds → ds[i]? = some d → ∃ v, vs[i]? = some v ∧ Rep K κ nx H v d
  | _, _, _, _, .nil, e => by simp at e
  | _, _, 0, _, .cons r _, e => by simp at e; subst e; exact ⟨_, rfl, r⟩
  | _, _, i + 1, d, .cons _ t, e => by
    obtain ⟨u, h1, h2⟩ := Reps.get (i := i) (d := d) t (by simpa using e)
    exact ⟨u, by simpa using h1, h2⟩
theorem Reps.get2 : ∀ {vs : List V} {ds : List D} {i : Nat} {v : V}, Reps K κ nx H vs ds → vs[i]? = some v → ∃ d, ds[i]? = some d ∧ Rep K κ nx H v d
  | _, _, _, _, .nil, e => by simp at e
  | _, _, 0, _, .cons r _, e => by simp at e; subst e; exact ⟨_, rfl, r⟩
  | _, _, i + 1, d, .cons _ t, e => by
    obtain ⟨u, h1, h2⟩ := Reps.get2 (i := i) (v := d) t (by simpa using e)
    exact ⟨u, by simpa using h1, h2⟩
theorem Reps.append : ∀ {vs ws : List V} {ds es : List D}, Reps K κ nx H vs ds → Reps K κ nx H ws es → Reps K κ nx H (vs ++ ws) (ds ++ es)
  | _, _, _, _, .nil, s => s
  | _, _, _, _, .cons r t, s => .cons r (Reps.append t s)
theorem Reps.set {v : V} {d : D} (r : Rep K κ nx H v d) : ∀ {vs : List V} {ds : List D} (i : Nat), Reps K κ nx H vs ds → Reps K κ nx H (vs.set i v) (ds.set i d)
  | _, _, _, .nil => .nil
  | _, _, 0, .cons _ t => .cons r t
  | _, _, i + 1, .cons q t => .cons q (Reps.set r i t)
theorem Reps.take : ∀ {vs : List V} {ds : List D} (n : Nat), Reps K κ nx H vs ds → Reps K κ nx H (vs.take n) (ds.take n)
  | _, _, 0, _ => .nil
  | _, _, _ + 1, .nil => .nil
  | _, _, n + 1, .cons r t => .cons r (Reps.take n t)
theorem Reps.drop : ∀ {vs : List V} {ds : List D} (n : Nat), Reps K κ nx H vs ds → Reps K κ nx H (vs.drop n) (ds.drop n)
  | _, _, 0, r => r
  | _, _, _ + 1, .nil => .nil
  | _, _, n + 1, .cons _ t => Reps.drop n t
theorem Reps.reverse : ∀ {vs : List V} {ds : List D}, Reps K κ nx H vs ds → Reps K κ nx H vs.reverse ds.reverse
  | _, _, .nil => .nil
  | _, _, .cons r t => by
    rw [List.reverse_cons, List.reverse_cons]
    exact (Reps.reverse t).append (.cons r .nil)
theorem Reps.eraseIdx : ∀ {vs : List V} {ds : List D} (i : Nat), Reps K κ nx H vs ds → Reps K κ nx H (vs.eraseIdx i) (ds.eraseIdx i)
  | _, _, _, .nil => .nil
  | _, _, 0, .cons _ t => t
  | _, _, i + 1, .cons q t => .cons q (Reps.eraseIdx i t)
theorem Reps.replicate {v : V} {d : D} (r : Rep K κ nx H v d) : ∀ n, Reps K κ nx H (List.replicate n v) (List.replicate n d)
  | 0 => .nil
  | n + 1 => .cons r (Reps.replicate r n)
mutual
/-- as the data of the comparisons -/
theorem Rep.dp : ∀ {v : V} {d : D}, Rep K κ nx H v d → d.canLay0 = true → Dp K H v d
  | _, _, .non, _ => .non
  | _, _, .bl, _ => .bl _
  | _, _, .int, _ => .int _
  | _, _, .str, _ => .str _
  | _, _, .lst h r, e => .lst h.sq (Reps.dp r (by simpa [PyData.canLay0] using e))
  | _, _, .tup h r, e => .tup h.sq (Reps.dp r (by simpa [PyData.canLay0] using e))
  | _, _, .frz _ _, e => by simp [PyData.canLay0] at e
  | _, _, .cel _ _, e => by simp [PyData.canLay0] at e
  | _, _, .rng _, e => by simp [PyData.canLay0] at e
theorem Reps.dp : ∀ {vs : List V} {ds : List D}, Reps K κ nx H vs ds → PyData.canLayAll0 ds = true → DpAll K H vs ds
  | _, _, .nil, _ => .nil
  | _, _, .cons h r, e => by
    have e' := (Bool.and_eq_true_iff.mp (show (_ && _) = true by simpa [PyData.canLayAll0] using e))
    exact .cons (Rep.dp h e'.1) (Reps.dp r e'.2)
end
end

/-! ### the cells -/
def KeyD : D → Option Key
  | .int i => some (.inl i)
  | .str x => some (.inr x)
  | _ => none
def keysD : List D → Option (List Key)
  | [] => some []
  | d :: ds => match KeyD d, keysD ds with
    | some k, some ks => some (k :: ks)
    | _, _ => none

structure Sig where
  /-- the classes' addresses, the fields' names -/
  cls : Nat → Addr
  fld : Nat → Str
  nf : Nat
  /-- tables of code objects, by the names that they tell -/
  tabs : List (Addr × Str)
  inj : ∀ i j, i < nf → j < nf → fld i = fld j → i = j

section
variable (K : PySem.W.Frag) (G : Sig) (κ : Gh) (nx : Nat) (H : Hp)
inductive KVs : List (Key × V) → List (D × D) → Prop
  | nil : KVs [] []
  | cons {k : Key} {v : V} {kd d : D} {kvs : List (Key × V)} {ds : List (D × D)} : KeyD kd = some k → Rep K κ nx H v d → KVs kvs ds → KVs ((k, v) :: kvs) ((kd, d) :: ds)
inductive TVs : List (List Key × V) → List (D × D) → Prop
  | nil : TVs [] []
  | cons {k : List Key} {v : V} {kd : List D} {d : D} {kvs : List (List Key × V)} {ds : List (D × D)} : keysD kd = some k → Rep K κ nx H v d → TVs kvs ds → TVs ((k, v) :: kvs) ((.tuple kd, d) :: ds)
inductive FVs (k : Nat) : List (Str × V) → List (Nat × D) → Prop
  | nil : FVs k [] []
  | cons {f : Nat} {v : V} {d : D} {kvs : List (Str × V)} {ds : List (Nat × D)} : f < G.nf → NoAttr K (G.cls k) (G.fld f) → Rep K κ nx H v d → FVs k kvs ds → FVs k ((G.fld f, v) :: kvs) ((f, d) :: ds)
def CellOk (a : Addr) : Cell → Prop
  | .no => False
  | .lst ds => ∃ vs, H a = some (.lst vs) ∧ Reps K κ nx H vs ds
  | .dic t kvs => (t = false ∧ ∃ xs, H a = some (.dK xs) ∧ KVs K κ nx H xs kvs) ∨ (t = true ∧ ∃ xs, H a = some (.dT xs) ∧ TVs K κ nx H xs kvs)
  | .dik kvs => a ∈ κ.R ∧ ∃ o xs, H a = some (.frz o (.dK xs)) ∧ KVs K κ nx H xs kvs
  | .ins C fs => ∃ dx xs, H a = some (.ins (G.cls C) dx xs) ∧ Cls K (G.cls C) ∧ fs.length < 1000 ∧ FVs K G κ nx H C xs fs
end

/-- a table is not touched by what changes lists, dicts, instances -/
theorem tabS_upd {H : Hp} {P p : Addr} {q : Str} {o : HO} (t : LamX.TabS H P q) (h : ∀ u, H p = some u → (∃ xs, u = .lst xs) ∨ (∃ xs, u = .dK xs) ∨ (∃ xs, u = .dT xs) ∨ ∃ c d xs, u = .ins c d xs) : LamX.TabS (upd H p o) P q := by
  have ne : ∀ {b u}, H b = some u → (∀ xs, u ≠ .lst xs) → (∀ xs, u ≠ .dK xs) → (∀ xs, u ≠ .dT xs) → (∀ c d xs, u ≠ .ins c d xs) → b ≠ p := fun {b u} e h1 h2 h3 h4 z => by
    rw [z] at e
    rcases h u e with ⟨_, w⟩ | ⟨_, w⟩ | ⟨_, w⟩ | ⟨_, _, _, w⟩
    · exact h1 _ w
    · exact h2 _ w
    · exact h3 _ w
    · exact h4 _ _ _ w
  obtain ⟨ps, h1, h2, h3⟩ := t
  refine ⟨ps, by rw [upd_ne (ne h1 (fun _ z => by cases z) (fun _ z => by cases z) (fun _ z => by cases z) (fun _ _ _ z => by cases z))]; exact h1, h2, fun pos cv hc => ?_⟩
  obtain ⟨c, e1, e2⟩ := h3 pos cv hc
  exact ⟨c, e1, by rw [upd_ne (ne e2 (fun _ z => by cases z) (fun _ z => by cases z) (fun _ z => by cases z) (fun _ _ _ z => by cases z))]; exact e2⟩
theorem tabs_upd {H : Hp} {p : Addr} {o : HO} {T : List (Addr × Str)} (t : LamX.Tabs T H) (h : ∀ u, H p = some u → (∃ xs, u = .lst xs) ∨ (∃ xs, u = .dK xs) ∨ (∃ xs, u = .dT xs) ∨ ∃ c d xs, u = .ins c d xs) : LamX.Tabs T (upd H p o) := fun q hq => tabS_upd (t q hq) h
theorem tabs_new {H : Hp} {p : Addr} {o : HO} {T : List (Addr × Str)} (t : LamX.Tabs T H) (h : H p = none) : LamX.Tabs T (upd H p o) := tabs_upd t fun u e => by rw [h] at e; cases e
structure HR (K : PySem.W.Frag) (G : Sig) (κ : Gh) (s : Hs) (H : Hp) : Prop where
  ok : ∀ n, n < s.nx → CellOk K G κ s.nx H (κ.f n) (s.h n)
  inj : ∀ m n, m < s.nx → n < s.nx → κ.f m = κ.f n → m = n
  res : ∀ r, r ∈ κ.R → ((∃ xs, H r = some (.lst xs)) ∧ ∀ n, n < s.nx → κ.f n ≠ r) ∨ ∃ o u, H r = some (.frz o u)
  tb : LamX.Tabs G.tabs H

section
variable {K : PySem.W.Frag} {G : Sig} {κ κ' κ'' : Gh} {nx nx' nx'' : Nat} {s : Hs} {H H' H'' : Hp} {a p : Addr} {o : HO}
theorem KVs.tr1 (t : Tr1 κ nx H κ' nx' H') : ∀ {xs : List (Key × V)} {ds : List (D × D)}, KVs K κ nx H xs ds → KVs K κ' nx' H' xs ds
  | _, _, .nil => .nil
  | _, _, .cons e r q => .cons e (r.tr1 t) (KVs.tr1 t q)
theorem TVs.tr1 (t : Tr1 κ nx H κ' nx' H') : ∀ {xs : List (List Key × V)} {ds : List (D × D)}, TVs K κ nx H xs ds → TVs K κ' nx' H' xs ds
  | _, _, .nil => .nil
  | _, _, .cons e r q => .cons e (r.tr1 t) (TVs.tr1 t q)
theorem FVs.tr1 (t : Tr1 κ nx H κ' nx' H') {k : Nat} : ∀ {xs : List (Str × V)} {ds : List (Nat × D)}, FVs K G κ nx H k xs ds → FVs K G κ' nx' H' k xs ds
  | _, _, .nil => .nil
  | _, _, .cons a b r q => .cons a b (r.tr1 t) (FVs.tr1 t q)
theorem FVs.len {k : Nat} : ∀ {xs : List (Str × V)} {ds : List (Nat × D)}, FVs K G κ nx H k xs ds → xs.length = ds.length
  | _, _, .nil => rfl
  | _, _, .cons a b r q => by rw [List.length_cons, List.length_cons, FVs.len q]
theorem FVs.look {k f : Nat} {d : D} : ∀ {xs : List (Str × V)} {ds : List (Nat × D)}, FVs K G κ nx H k xs ds → ds.lookup f = some d → f < G.nf ∧ NoAttr K (G.cls k) (G.fld f) ∧ ∃ v, xs.lookup (G.fld f) = some v ∧ Rep K κ nx H v d
  | _, _, .nil, h => by simp at h
  | _, _, @FVs.cons _ _ _ _ _ _ g v e xs ds a b r q, h => by
    rw [List.lookup_cons] at h
    by_cases z : f = g
    · subst z
      simp at h; subst h
      exact ⟨a, b, v, by simp, r⟩
    · have z1 : (f == g) = false := beq_eq_false_iff_ne.mpr z
      rw [z1] at h
      obtain ⟨h1, h2, w, h3, h4⟩ := FVs.look q h
      refine ⟨h1, h2, w, ?_, h4⟩
      have z2 : (G.fld f == G.fld g) = false := beq_eq_false_iff_ne.mpr fun e => z (G.inj f g h1 a e)
      rw [List.lookup_cons, z2]
      exact h3
theorem FVs.miss {k : Nat} {m : Str} : ∀ {xs : List (Str × V)} {ds : List (Nat × D)}, FVs K G κ nx H k xs ds → PySem.W.findIn K (.ref (G.cls k)) m ≠ some none → xs.lookup m = none
  | _, _, .nil, h => rfl
  | _, _, @FVs.cons _ _ _ _ _ _ g v e xs ds a b r q, h => by
    have z2 : (m == G.fld g) = false := beq_eq_false_iff_ne.mpr fun e => h (by rw [e]; exact b)
    rw [List.lookup_cons, z2]
    exact FVs.miss q h
def putD : List (Nat × D) → Nat → D → List (Nat × D)
  | [], f, d => [(f, d)]
  | (g, e) :: r, f, d => if g = f then (f, d) :: r else (g, e) :: putD r f d
theorem FVs.put {k f : Nat} {v : V} {d : D} (hf : f < G.nf) (hn : NoAttr K (G.cls k) (G.fld f)) (hr : Rep K κ nx H v d) : ∀ {xs : List (Str × V)} {ds : List (Nat × D)}, FVs K G κ nx H k xs ds → FVs K G κ nx H k (L2.putF (G.fld f) v xs) (putD ds f d)
  | _, _, .nil => .cons hf hn hr .nil
  | _, _, @FVs.cons _ _ _ _ _ _ g w e xs ds a b r q => by
    unfold L2.putF putD
    by_cases z : g = f
    · subst z
      rw [if_pos rfl, if_pos rfl]
      exact .cons a b hr q
    · rw [if_neg z, if_neg (fun e => z (G.inj g f a hf e))]
      exact .cons a b r (FVs.put hf hn hr q)
theorem putD_len (f : Nat) (d : D) : ∀ ds : List (Nat × D), (putD ds f d).length ≤ ds.length + 1
  | [] => Nat.le_refl _
  | (g, e) :: r => by
    unfold putD
    split
    · simp
    · have := putD_len f d r
      simp only [List.length_cons]; omega
theorem CellOk.tr1 (t : Tr1 κ nx H κ' nx' H') {c : Cell} (h : CellOk K G κ nx H a c) (e : H' a = H a) (rm : a ∈ κ.R → a ∈ κ'.R) : CellOk K G κ' nx' H' a c := by
  cases c with
  | no => exact h
  | lst ds =>
    obtain ⟨vs, h1, h2⟩ := h
    exact ⟨vs, e.trans h1, h2.tr1 t⟩
  | dic tk kvs =>
    rcases h with ⟨ht, vs, h1, h2⟩ | ⟨ht, vs, h1, h2⟩
    · exact .inl ⟨ht, vs, e.trans h1, h2.tr1 t⟩
    · exact .inr ⟨ht, vs, e.trans h1, h2.tr1 t⟩
  | dik kvs =>
    obtain ⟨h0, o, xs, h1, h2⟩ := h
    exact ⟨rm h0, o, xs, e.trans h1, h2.tr1 t⟩
  | ins C fs =>
    obtain ⟨dx, xs, h1, h3, h4, h2⟩ := h
    exact ⟨dx, xs, e.trans h1, h3, h4, h2.tr1 t⟩
theorem KVs.tr {xs : List (Key × V)} {ds : List (D × D)} (t : Tr κ nx H κ' nx' H') (h : KVs K κ nx H xs ds) : KVs K κ' nx' H' xs ds := h.tr1 t.one
theorem TVs.tr {xs : List (List Key × V)} {ds : List (D × D)} (t : Tr κ nx H κ' nx' H') (h : TVs K κ nx H xs ds) : TVs K κ' nx' H' xs ds := h.tr1 t.one
theorem FVs.tr {k : Nat} {xs : List (Str × V)} {ds : List (Nat × D)} (t : Tr κ nx H κ' nx' H') (h : FVs K G κ nx H k xs ds) : FVs K G κ' nx' H' k xs ds := h.tr1 t.one
theorem CellOk.tr (t : Tr κ nx H κ' nx' H') {c : Cell} (h : CellOk K G κ nx H a c) (e : H' a = H a) : CellOk K G κ' nx' H' a c := h.tr1 t.one e fun z => by rw [t.rs]; exact z
/-- a cell's object is tracked, and is of those that may change -/
theorem HR.kind (R : HR K G κ s H) {n : Nat} (h : n < s.nx) (nf : ∀ o u, H (κ.f n) ≠ Option.some (.frz o u)) : ∀ u, H (κ.f n) = some u → (∃ xs, u = .lst xs) ∨ (∃ xs, u = .dK xs) ∨ (∃ xs, u = .dT xs) ∨ ∃ c d xs, u = .ins c d xs := by
  intro u hu
  have q := R.ok n h
  cases e : s.h n with
  | no => rw [e] at q; exact q.elim
  | lst ds => rw [e] at q; obtain ⟨vs, h1, _⟩ := q; rw [h1] at hu; cases hu; exact .inl ⟨_, rfl⟩
  | dic tk kvs =>
    rw [e] at q
    rcases q with ⟨_, vs, h1, _⟩ | ⟨_, vs, h1, _⟩
    · rw [h1] at hu; cases hu; exact .inr (.inl ⟨_, rfl⟩)
    · rw [h1] at hu; cases hu; exact .inr (.inr (.inl ⟨_, rfl⟩))
  | dik kvs => rw [e] at q; obtain ⟨_, o, xs, h1, _⟩ := q; exact absurd h1 (nf _ _)
  | ins C fs => rw [e] at q; obtain ⟨dx, xs, h1, _⟩ := q; rw [h1] at hu; cases hu; exact .inr (.inr (.inr ⟨_, _, _, rfl⟩))
theorem HR.some (R : HR K G κ s H) {n : Nat} (h : n < s.nx) : ∃ o, H (κ.f n) = some o := by
  have q := R.ok n h
  cases e : s.h n with
  | no => rw [e] at q; exact q.elim
  | lst ds => rw [e] at q; obtain ⟨vs, h1, _⟩ := q; exact ⟨_, h1⟩
  | dic tk kvs =>
    rw [e] at q
    rcases q with ⟨_, vs, h1, _⟩ | ⟨_, vs, h1, _⟩
    · exact ⟨_, h1⟩
    · exact ⟨_, h1⟩
  | dik kvs => rw [e] at q; obtain ⟨_, o, xs, h1, _⟩ := q; exact ⟨_, h1⟩
  | ins C fs => rw [e] at q; obtain ⟨dx, xs, h1, _⟩ := q; exact ⟨_, h1⟩
/-- a new object that is no cell -/
theorem HR.fresh (R : HR K G κ s H) {p : Addr} (hp : H p = none) : NotCell κ s.nx p := by
  refine ⟨fun n h e => ?_, fun h => ?_⟩
  · obtain ⟨o, q⟩ := R.some h
    rw [e, hp] at q; cases q
  · rcases R.res p h with ⟨⟨xs, q⟩, _⟩ | ⟨o, u, q⟩
    · rw [hp] at q; cases q
    · rw [hp] at q; cases q
/-- what is built is no cell -/
theorem HR.res1 (R : HR K G κ s H) {r : Addr} {xs : List V} (hr : r ∈ κ.R) (hl : H r = Option.some (.lst xs)) : ∀ n, n < s.nx → κ.f n ≠ r := by
  rcases R.res r hr with ⟨_, q⟩ | ⟨o, u, q⟩
  · exact q
  · rw [hl] at q; cases q
theorem HR.ne_res (R : HR K G κ s H) {p r : Addr} (hp : H p = none) (hr : r ∈ κ.R) : r ≠ p := fun e => (R.fresh hp).2 (e ▸ hr)
theorem HR.trn (R : HR K G κ s H) {o : HO} {p : Addr} (hp : H p = none) : Tr κ s.nx H κ s.nx (upd H p o) :=
  ⟨Nat.le_refl _, fun _ _ => rfl, rfl, fun r hr => upd_ne (R.ne_res hp hr), fun a u h _ n => ⟨by rw [upd_ne (ne_of_none h hp)]; exact h, n⟩⟩
theorem HR.new (R : HR K G κ s H) {o : HO} {p : Addr} (hp : H p = none) : HR K G κ s (upd H p o) :=
  ⟨fun n h => (R.ok n h).tr (R.trn hp) (upd_ne fun e => (R.fresh hp).1 n h e), R.inj, fun r hr => by rw [upd_ne (R.ne_res hp hr)]; exact R.res r hr, tabs_new R.tb hp⟩
/-- a new cell -/
def Gh.add (κ : Gh) (nx : Nat) (p : Addr) : Gh := ⟨fun m => if m = nx then p else κ.f m, κ.R⟩
theorem Gh.add_at {κ : Gh} {nx : Nat} {p : Addr} : (κ.add nx p).f nx = p := if_pos rfl
theorem Gh.add_ne {κ : Gh} {nx n : Nat} {p : Addr} (h : n ≠ nx) : (κ.add nx p).f n = κ.f n := if_neg h
theorem HR.trp (R : HR K G κ s H) {o : HO} {p : Addr} (hp : H p = none) : Tr κ s.nx H (κ.add s.nx p) (s.nx + 1) (upd H p o) :=
  ⟨Nat.le_succ _, fun n h => Gh.add_ne (Nat.ne_of_lt h), rfl, fun r hr => upd_ne (R.ne_res hp hr), fun a u h _ n => ⟨by rw [upd_ne (ne_of_none h hp)]; exact h, fun m hm e => by
    by_cases q : m = s.nx
    · rw [q, Gh.add_at] at e; rw [e, h] at hp; cases hp
    · rw [Gh.add_ne q] at e; exact n.1 m (by omega) e, n.2⟩⟩
theorem HR.push (R : HR K G κ s H) {o : HO} {p : Addr} {c : Cell} (hp : H p = none) (hc : CellOk K G (κ.add s.nx p) (s.nx + 1) (upd H p o) p c) :
    HR K G (κ.add s.nx p) (s.push c) (upd H p o) := by
  refine ⟨fun n h => ?_, fun m n hm hn e => ?_, fun r hr => (show (∃ xs, upd H p o r = Option.some (.lst xs)) ∧ _ ∨ _ from ?_), tabs_new R.tb hp⟩
  · by_cases q : n = s.nx
    · subst q
      rw [Gh.add_at]
      show CellOk K G _ _ _ p (if s.nx = s.nx then c else s.h s.nx)
      rw [if_pos rfl]; exact hc
    · have h' : n < s.nx := by have : n < s.nx + 1 := h; omega
      rw [Gh.add_ne q]
      show CellOk K G _ _ _ _ (if n = s.nx then c else s.h n)
      rw [if_neg q]
      exact (R.ok n h').tr (R.trp hp) (upd_ne fun e => (R.fresh hp).1 n h' e)
  · have hm' : m < s.nx + 1 := hm
    have hn' : n < s.nx + 1 := hn
    by_cases q : m = s.nx
    · by_cases q2 : n = s.nx
      · omega
      · rw [q, Gh.add_at, Gh.add_ne q2] at e
        exact absurd e.symm ((R.fresh hp).1 n (by omega))
    · by_cases q2 : n = s.nx
      · rw [q2, Gh.add_at, Gh.add_ne q] at e
        exact absurd e ((R.fresh hp).1 m (by omega))
      · rw [Gh.add_ne q, Gh.add_ne q2] at e
        exact R.inj m n (by omega) (by omega) e
  · rw [upd_ne (R.ne_res hp hr)]
    refine (R.res r hr).imp (fun q0 => ⟨q0.1, fun n hn e => ?_⟩) id
    have hn' : n < s.nx + 1 := hn
    by_cases q : n = s.nx
    · rw [q, Gh.add_at] at e
      exact R.ne_res hp hr e.symm
    · rw [Gh.add_ne q] at e
      exact q0.2 n (by omega) e
/-- a cell changed -/
theorem HR.ne_r (R : HR K G κ s H) {n : Nat} (h : n < s.nx) (nf : ∀ o u, H (κ.f n) ≠ Option.some (.frz o u)) {r : Addr} (hr : r ∈ κ.R) : r ≠ κ.f n := by
  intro e
  rcases R.res r hr with ⟨_, q⟩ | ⟨o, u, q⟩
  · exact q n h e.symm
  · rw [e] at q; exact nf _ _ q
theorem HR.trs (R : HR K G κ s H) {o : HO} {n : Nat} (h : n < s.nx) (nf : ∀ o u, H (κ.f n) ≠ Option.some (.frz o u)) : Tr κ s.nx H κ s.nx (upd H (κ.f n) o) :=
  ⟨Nat.le_refl _, fun _ _ => rfl, rfl, fun r hr => upd_ne (R.ne_r h nf hr), fun a u e _ q => ⟨by rw [upd_ne (fun z => q.1 n h z.symm)]; exact e, q⟩⟩
theorem HR.set (R : HR K G κ s H) {o : HO} {n : Nat} {c : Cell} (h : n < s.nx) (nf : ∀ o u, H (κ.f n) ≠ Option.some (.frz o u)) (hc : CellOk K G κ s.nx (upd H (κ.f n) o) (κ.f n) c) : HR K G κ (s.set n c) (upd H (κ.f n) o) := by
  refine ⟨fun m hm => ?_, R.inj, fun r hr => by rw [upd_ne (R.ne_r h nf hr)]; exact R.res r hr, tabs_upd R.tb (R.kind h nf)⟩
  show CellOk K G κ s.nx _ (κ.f m) (if m = n then c else s.h m)
  by_cases q : m = n
  · subst q; rw [if_pos rfl]; exact hc
  · rw [if_neg q]
    exact (R.ok m hm).tr (R.trs h nf) (upd_ne fun e => q (R.inj m n hm h e))
/-- what is being built changes -/
theorem HR.tr1r (hr : p ∈ κ.R) : Tr1 κ nx H κ nx (upd H p o) :=
  ⟨Nat.le_refl _, fun _ _ => rfl, fun a u e _ q => ⟨by rw [upd_ne (fun z => q.2 (by rw [z]; exact hr))]; exact e, q⟩⟩
theorem HR.setr {xs : List V} (R : HR K G κ s H) (hr : p ∈ κ.R) {ys : List V} (hl : H p = Option.some (.lst ys)) : HR K G κ s (upd H p (.lst xs)) :=
  ⟨fun n h => (R.ok n h).tr1 (HR.tr1r hr) (upd_ne fun e => R.res1 hr hl n h e) id, R.inj, fun r q => by
    by_cases z : r = p
    · rw [z, upd_same]; exact .inl ⟨⟨_, rfl⟩, R.res1 hr hl⟩
    · rw [upd_ne z]; exact R.res r q, tabs_upd R.tb fun u e => by
    rw [hl] at e; cases e; exact .inl ⟨_, rfl⟩⟩
/-- while a list is built at p -/
def Gh.hold (κ : Gh) (p : Addr) : Gh := ⟨κ.f, p :: κ.R⟩
/-! a dict locked while it is walked over -/
theorem tabs_lock {H : Hp} {a : Addr} {o : HO} {T : List (Addr × Str)} (t : LamX.Tabs T H) {xs : List (Key × V)} (h : H a = Option.some (.dK xs)) : LamX.Tabs T (upd H a o) := tabs_upd t fun u e => by rw [h] at e; cases e; exact .inr (.inl ⟨_, rfl⟩)
theorem HR.tr_lock (R : HR K G κ s H) {n : Nat} (h : n < s.nx) : Tr1 κ s.nx H (κ.hold (κ.f n)) s.nx (upd H (κ.f n) o) :=
  ⟨Nat.le_refl _, fun _ _ => rfl, fun a u e _ q => ⟨by rw [upd_ne (fun z => q.1 n h z.symm)]; exact e, q.1, fun z => (List.mem_cons.mp z).elim (fun z => q.1 n h z.symm) q.2⟩⟩
theorem HR.notR (R : HR K G κ s H) {n : Nat} (h : n < s.nx) {xs : List (Key × V)} (hd : H (κ.f n) = Option.some (.dK xs)) : κ.f n ∉ κ.R := fun z => by
  rcases R.res _ z with ⟨⟨_, q⟩, _⟩ | ⟨_, _, q⟩
  · rw [hd] at q; cases q
  · rw [hd] at q; cases q
theorem HR.lock (R : HR K G κ s H) {n : Nat} {xs : List (Key × V)} {kvs : List (D × D)} (h : n < s.nx) (hd : H (κ.f n) = Option.some (.dK xs)) (hk : KVs K κ s.nx H xs kvs) (od : Obj) :
    HR K G (κ.hold (κ.f n)) (s.set n (.dik kvs)) (upd H (κ.f n) (.frz od (.dK xs))) := by
  have t : Tr1 κ s.nx H (κ.hold (κ.f n)) s.nx (upd H (κ.f n) (.frz od (.dK xs))) := R.tr_lock h
  refine ⟨fun m hm => ?_, R.inj, fun r hr => ?_, tabs_lock R.tb hd⟩
  · show CellOk K G _ s.nx _ (κ.f m) (if m = n then .dik kvs else s.h m)
    by_cases q : m = n
    · subst q; rw [if_pos rfl]
      exact ⟨List.mem_cons_self, od, xs, upd_same, hk.tr1 t⟩
    · rw [if_neg q]
      exact (R.ok m hm).tr1 t (upd_ne fun e => q (R.inj m n hm h e)) (List.mem_cons_of_mem _)
  · by_cases z : r = κ.f n
    · rw [z, upd_same]; exact .inr ⟨_, _, rfl⟩
    · rw [upd_ne z]
      exact R.res r ((List.mem_cons.mp hr).resolve_left z)
theorem HR.tr_unlock {a : Addr} {n : Nat} (h : n < nx) (ha : κ.f n = a) : Tr1 (κ.hold a) nx H κ nx (upd H a o) :=
  ⟨Nat.le_refl _, fun _ _ => rfl, fun b u e _ q => ⟨by rw [upd_ne (fun z => q.1 n h (by rw [z]; exact ha))]; exact e, q.1, fun z => q.2 (List.mem_cons_of_mem _ z)⟩⟩
theorem tabs_unlock {H : Hp} {a : Addr} {x : HO} {od : Obj} {u : HO} {T : List (Addr × Str)} (t : LamX.Tabs T H) (h : H a = Option.some (.frz od u)) : LamX.Tabs T (upd H a x) := fun q hq => by
  have ne : ∀ {b w}, H b = some w → (∀ o u, w ≠ .frz o u) → b ≠ a := fun {b w} e h1 z => by rw [z, h] at e; cases e; exact h1 _ _ rfl
  obtain ⟨ps, h1, h2, h3⟩ := t q hq
  refine ⟨ps, by rw [upd_ne (ne h1 (fun _ _ z => by cases z))]; exact h1, h2, fun pos cv hc => ?_⟩
  obtain ⟨c, e1, e2⟩ := h3 pos cv hc
  exact ⟨c, e1, by rw [upd_ne (ne e2 (fun _ _ z => by cases z))]; exact e2⟩
theorem HR.unlock {a : Addr} {n : Nat} (R : HR K G (κ.hold a) s H) {od : Obj} {xs : List (Key × V)} {kvs : List (D × D)} (h : n < s.nx) (ha : κ.f n = a) (na : a ∉ κ.R) (hd : H a = Option.some (.frz od (.dK xs))) (e : s.h n = .dik kvs) :
    HR K G κ (s.set n (.dic false kvs)) (upd H a (.dK xs)) := by
  have t : Tr1 (κ.hold a) s.nx H κ s.nx (upd H a (.dK xs)) := HR.tr_unlock h ha
  have i1 : ∀ m, m < s.nx → κ.f m = a → m = n := fun m hm z => R.inj m n hm h (z.trans ha.symm)
  refine ⟨fun m hm => ?_, R.inj, fun r hr => ?_, tabs_unlock R.tb hd⟩
  · show CellOk K G _ s.nx _ (κ.f m) (if m = n then .dic false kvs else s.h m)
    by_cases q : m = n
    · subst q; rw [if_pos rfl]
      have q := R.ok m h
      rw [e] at q
      obtain ⟨_, o, ys, q1, q2⟩ := q
      have q1' : H (κ.f m) = Option.some (.frz o (.dK ys)) := q1
      rw [ha, hd] at q1'
      cases q1'
      exact .inl ⟨rfl, _, by rw [ha]; exact upd_same, q2.tr1 t⟩
    · rw [if_neg q]
      exact (R.ok m hm).tr1 t (upd_ne fun e => q (i1 m hm e)) fun z => (List.mem_cons.mp z).resolve_left fun e => q (i1 m hm e)
  · have z : r ≠ a := fun z => na (z ▸ hr)
    rw [upd_ne z]
    exact R.res r (List.mem_cons_of_mem _ hr)
/-- what was locked, walked over, let go -/
theorem Tr.locked {κ1 : Gh} {nx1 : Nat} {H1 : Hp} {n : Nat} {w u : HO} (R : HR K G κ s H) (h : n < s.nx) (na : κ.f n ∉ κ.R) (t : Tr (κ.hold (κ.f n)) s.nx (upd H (κ.f n) w) (κ1.hold (κ.f n)) nx1 H1) (hR : κ1.R = κ.R) :
    Tr κ s.nx H κ1 nx1 (upd H1 (κ.f n) u) := by
  refine ⟨t.le, t.ag, hR, fun r hr => ?_, fun a o e hz q => ?_⟩
  · have z : r ≠ κ.f n := fun z => na (z ▸ hr)
    rw [upd_ne z, t.rk r (List.mem_cons_of_mem _ hr), upd_ne z]
  · have z : a ≠ κ.f n := fun z => q.1 n h z.symm
    obtain ⟨h1, n1⟩ := t.kp a o (by rw [upd_ne z]; exact e) hz ⟨q.1, fun y => (List.mem_cons.mp y).elim z q.2⟩
    exact ⟨by rw [upd_ne z]; exact h1, n1.1, fun y => n1.2 (List.mem_cons_of_mem _ y)⟩
end
end Ev

set_option Elab.async false
set_option linter.all false
set_option maxRecDepth 100000
set_option maxHeartbeats 1000000
namespace Ev
open PySem PySem.Spec PyProof.Rows L2

inductive Bop where
  | add | sub | mul | fdiv | mod | xor | pow
  deriving DecidableEq
inductive Cop where
  | lt | le | gt | ge | eq | ne | isN | notN | mem | nmem
  deriving DecidableEq
/-- built-ins called by name -/
inductive Bi where
  | len | abs | int | sum | max | min | tuple | all | any | lenset
  deriving DecidableEq
/-- what makes a new list, by values -/
inductive Nb where
  | list | sorted | rev | from_ | upto | from1 | cat | rep | range
  deriving DecidableEq
/-- a built-in of a built-in: tuple(range(..)), len(set(..)) -/
inductive Two where
  | tupr | lenset | maxd | mind | rngv
  deriving DecidableEq
/-- other forms of one value and what it is asked with -/
inductive Xt where
  | isC (k : Nat) | isLT | get | dix (kvs : List (Int × Int)) | mn | mx
/-- methods of built-in types -/
inductive Bm where
  | append | pop | popAt | index | remove | extend | insert
  deriving DecidableEq

/-- a program's piece: expressions, argument lists, walks, targets, statements, blocks -/
inductive C where
  -- expressions
  | slot (i : Nat)
  | cst (d : D)
  | glob (x : Str) (d : D)
  | bin (o : Bop) (a b : C)
  | neg (a : C)
  | cmp (o : Cop) (a b : C)
  | cmp2 (o p : Cop) (a b c : C)
  | not (a : C)
  | and (a b : C)
  | or (a b : C)
  | ife (t a b : C)
  | tup (as : C)
  | call (f : Nat) (as : C)
  | told (a : C)
  | meth (m : Nat) (o as : C)
  | make (k : Nat) (as : C)
  | bcall (b : Bi) (as : C)
  | bmeth (m : Bm) (o as : C)
  | ix (a i : C)
  | fld (o : C) (f : Nat)
  | slice (a lo hi : C)
  | rev (a : C)
  | two (w : Two) (as : C)
  | lrg (as : C)
  | newT (n : C)
  | newC (n : C)
  | dict0
  | dict1
  | lck (i : Nat) (a : C)
  | xf (w : Xt) (o as : C)
  -- new lists
  | lst (as : C)
  | comp (own : List Nat) (tg it cond e : C)
  | comp2 (own : List Nat) (tg it cond tg2 it2 cond2 e : C)
  | nb (b : Nb) (as : C)
  | nsl (a lo hi : C)
  -- arguments, no condition
  | nil
  | cons (a r : C)
  -- walks
  | irange (as : C)
  | ienum (a : C)
  | izip (a b : C)
  | ival (a : C)
  -- targets
  | tslot (i : Nat)
  | ttup (ts : C)
  | tsub (o i : C)
  | tfld (o : C) (f : Nat)
  -- statements and blocks
  | expr (e : C)
  | asg (t e : C)
  | aug (i : Nat) (o : Bop) (e : C)
  | augF (o : C) (f : Nat) (p : Bop) (e : C)
  | augS (o i : C) (p : Bop) (e : C)
  | ret (e : C)
  | retN
  | ifs (t a b : C)
  | whl (t b : C)
  | fors (t it b : C)
  | raise (x : Nat)
  | pass
  | brk
  | cont
  | del (o i : C)
  | seq (a b : C)
  | done

abbrev Env := List (Option D)
inductive SR where
  | nx (ρ : Env) (s : Hs)
  | ret (d : D) (s : Hs)
  | brk (ρ : Env) (s : Hs)
  | cont (ρ : Env) (s : Hs)
  | exc (e : Nat) (ρ : Env) (s : Hs)
  | stuck

/-- an exception is not borne -/
def Res.nox {α : Type} : Res α → Res α
  | .exc _ _ => .stuck
  | r => r
/-- the names that a target stores -/
def tgs : C → List Nat
  | .tslot i => [i]
  | .ttup ts => tgs ts
  | .cons a r => tgs a ++ tgs r
  | _ => []
def tlen : C → Nat
  | .cons _ r => tlen r + 1
  | _ => 0
structure Def where
  np : Nat
  nn : Nat
  body : C

structure Prog where
  defs : Nat → Def
  /-- the def of a method of a class, of a class's __init__ -/
  meth : Nat → Nat → Option Nat
  init : Nat → Option Nat
  /-- what _law_told tells of an exception -/
  told : Nat → Option Str
  /-- what fields a class's instances may have -/
  fok : Nat → Nat → Bool

/-! ### values -/
def look (ρ : Env) (i : Nat) : Option D := (ρ[i]?).join
def seqD (d : D) (s : Hs) : Option (List D) :=
  match d with
  | .list l => some l
  | .tuple l => some l
  | .dict [(.int (Int.ofNat n), .none)] => match s.h n with
    | .lst l => some l
    | _ => none
  | _ => none
def lstD (d : D) (s : Hs) : Option (List D) :=
  match d with
  | .list l => some l
  | .dict [(.int (Int.ofNat n), .none)] => match s.h n with
    | .lst l => some l
    | _ => none
  | _ => none
def small (n : Nat) : Bool := Nat.blt n 1000000
def okI (i : Int) : Bool := decide (-(2 ^ 62) ≤ i) && decide (i < 2 ^ 62)
def retI (i : Int) : Hs → Res D := fun s => .ok (.int i) s
def bopE (o : Bop) (a b : D) (s : Hs) : Res D :=
  match a, b with
  | .int i, .int j => match o with
    | .add => .ok (.int (i + j)) s
    | .sub => .ok (.int (i - j)) s
    | .mul => if decide (-(2 ^ 64) < j) && decide (j < 2 ^ 64) || decide (-(2 ^ 64) < i) && decide (i < 2 ^ 64) then .ok (.int (i * j)) s else .stuck
    | .fdiv => if decide (0 < j) && decide (j < 1073741824) then .ok (.int (i / j)) s else .stuck
    | .mod => if decide (0 < j) then .ok (.int (i % j)) s else .stuck
    | .xor => .ok (.int (Builtin.bitXor i j)) s
    | .pow => if decide (0 ≤ j) && decide (j ≤ 1000) && decide (i.natAbs < 2 ^ 64) then .ok (.int (i ^ j.toNat)) s else .stuck
  | .tuple x, .tuple y => match o with
    | .add => if Nat.ble (x.length + y.length) 1000000 then .ok (.tuple (x ++ y)) s else .stuck
    | _ => .stuck
  | a, b => match o with
    | .add => match lstD a s, lstD b s with
      | some x, some y => if Nat.ble (x.length + y.length) 1000000 then .ok (.list (x ++ y)) s else .stuck
      | _, _ => .stuck
    | .mul => match lstD a s, b with
      | some x, .int k => if decide (-100000 < k) && decide (k < 100000) && Nat.ble (x.length * k.toNat) 1000000 then .ok (.list (List.replicate k.toNat x).flatten) s else .stuck
      | _, _ => .stuck
    | _ => .stuck
def augE (o : Bop) (a b : D) (s : Hs) : Res D :=
  match a, b with
  | .int i, .int j => bopE o (.int i) (.int j) s
  | _, _ => .stuck
/-- ints in the lexical order -/
def ltAll : List D → List D → Option Bool
  | [], [] => some false
  | [], .int _ :: r => if r.all (fun d => match d with | .int _ => true | _ => false) then some true else none
  | .int _ :: r, [] => if r.all (fun d => match d with | .int _ => true | _ => false) then some false else none
  | .int i :: x, .int j :: y => match ltAll x y with
    | some b => some (decide (i < j) || (decide (i = j) && b))
    | none => none
  | _, _ => none
/-- a list that may change, as it stands -/
def drfN : Nat → D → Hs → D
  | 0, d, _ => d
  | k + 1, d, s => match d with
    | .list l => .list (l.map fun x => drfN k x s)
    | .tuple l => .tuple (l.map fun x => drfN k x s)
    | .dict [(.int (Int.ofNat n), .none)] => match s.h n with
      | .lst l => .list (l.map fun x => drfN k x s)
      | _ => d
    | _ => d
def drf (d : D) (s : Hs) : D := drfN 4 d s
def flat : D → Bool
  | .none | .bool _ | .int _ => true
  | _ => false
def isNoneD : D → Bool
  | .none => true
  | _ => false
/-- a dict of plain keys -/
def dicK (d : D) (s : Hs) : Option (List (D × D)) :=
  match d with
  | .dict [(.int (Int.ofNat n), .none)] => match s.h n with
    | .dic false kvs => some kvs
    | .dik kvs => some kvs
    | _ => none
  | _ => none
/-- a dict whose keys are tuples -/
def KeyT (d : D) : Option (List Key) :=
  match d with
  | .tuple l => keysD l
  | _ => none
def dicT (d : D) (s : Hs) : Option (List (D × D)) :=
  match d with
  | .dict [(.int (Int.ofNat n), .none)] => match s.h n with
    | .dic true kvs => some kvs
    | _ => none
  | _ => none
def lookT : List (D × D) → List Key → Option D
  | [], _ => none
  | (kd, d) :: r, k => if KeyT kd = some k then some d else lookT r k
def lookD : List (D × D) → Key → Option D
  | [], _ => none
  | (kd, d) :: r, k => if KeyD kd = some k then some d else lookD r k
def memE (a b : D) (s : Hs) (pos : Bool) : Res D :=
  match lstD b s with
  | some l => if SeqAt.shaped a && SeqAt.shaped (.list l) then .ok (.bool (if pos then l.any fun z => PyData.eqv z a else !(l.any fun z => PyData.eqv z a))) s else .stuck
  | none => match b with
    | .tuple l => if flat a && l.all flat then .ok (.bool (if pos then l.any fun z => PyData.eqv z a else !(l.any fun z => PyData.eqv z a))) s else .stuck
    | _ => .stuck
def memA (a b : D) (s : Hs) (pos : Bool) : Res D :=
  match dicK b s with
  | some kvs => match KeyD a with
    | some k => .ok (.bool (if pos then (lookD kvs k).isSome else !(lookD kvs k).isSome)) s
    | none => .stuck
  | none => match dicT b s with
    | some kvs => match KeyT a with
      | some k => .ok (.bool (if pos then (lookT kvs k).isSome else !(lookT kvs k).isSome)) s
      | none => .stuck
    | none => memE a b s pos
def cmpE (o : Cop) (a b : D) (s : Hs) : Res D :=
  match o with
  | .eq => if SeqAt.shaped (drf a s) && SeqAt.shaped (drf b s) then .ok (.bool (PyData.eqv (drf a s) (drf b s))) s else .stuck
  | .ne => if SeqAt.shaped (drf a s) && SeqAt.shaped (drf b s) then .ok (.bool (!PyData.eqv (drf a s) (drf b s))) s else .stuck
  | .isN => match b with
    | .none => .ok (.bool (isNoneD a)) s
    | _ => .stuck
  | .notN => match b with
    | .none => .ok (.bool (!isNoneD a)) s
    | _ => .stuck
  | .lt => match a, b with
    | .int i, .int j => .ok (.bool (decide (i < j))) s
    | .tuple x, .tuple y => match ltAll x y with
      | some r => .ok (.bool r) s
      | none => .stuck
    | _, _ => .stuck
  | .le => match a, b with
    | .int i, .int j => .ok (.bool (decide (i ≤ j))) s
    | _, _ => .stuck
  | .gt => match a, b with
    | .int i, .int j => .ok (.bool (decide (j < i))) s
    | _, _ => .stuck
  | .ge => match a, b with
    | .int i, .int j => .ok (.bool (decide (j ≤ i))) s
    | _, _ => .stuck
  | .mem => memA a b s true
  | .nmem => memA a b s false
def intsD : List D → Option (List Int)
  | [] => some []
  | .int i :: r => (intsD r).map (i :: ·)
  | _ => none
def boolsD : List D → Option (List Bool)
  | [] => some []
  | .bool i :: r => (boolsD r).map (i :: ·)
  | _ => none
def maxI : Int → List Int → Int
  | m, [] => m
  | m, n :: r => maxI (if m < n then n else m) r
def minI : Int → List Int → Int
  | m, [] => m
  | m, n :: r => minI (if n < m then n else m) r
def biE (b : Bi) (as : List D) (s : Hs) : Res D :=
  match b, as with
  | .len, [d] => match seqD d s with
    | some l => .ok (.int l.length) s
    | none => .stuck
  | .abs, [.int i] => .ok (.int (if i < 0 then -i else i)) s
  | .int, [.int i] => .ok (.int i) s
  | .int, [.bool i] => .ok (.int (if i then 1 else 0)) s
  | .max, [.int i, .int j] => .ok (.int (if i < j then j else i)) s
  | .min, [.int i, .int j] => .ok (.int (if j < i then j else i)) s
  | .tuple, [.tuple l] => .ok (.tuple l) s
  | .tuple, [d] => match lstD d s with
    | some l => .ok (.tuple l) s
    | none => .stuck
  | .sum, [.tuple l] => match intsD l with
    | some l => .ok (.int l.sum) s
    | none => .stuck
  | .sum, [d] => match (lstD d s).bind intsD with
    | some l => .ok (.int l.sum) s
    | none => .stuck
  | .max, [d] => match (lstD d s).bind intsD with
    | some (n :: ns) => .ok (.int (maxI n ns)) s
    | _ => .stuck
  | .min, [d] => match (lstD d s).bind intsD with
    | some (n :: ns) => .ok (.int (minI n ns)) s
    | _ => .stuck
  | .any, [d] => match (lstD d s).bind boolsD with
    | some l => .ok (.bool (l.any id)) s
    | none => .stuck
  | .all, [.tuple l] => match boolsD l with
    | some l => .ok (.bool (l.all id)) s
    | none => .stuck
  | .all, [d] => match (lstD d s).bind boolsD with
    | some l => .ok (.bool (l.all id)) s
    | none => .stuck
  | _, _ => .stuck
/-- an index's place in a list of n -/
abbrev ixD (n : Nat) (i : Int) : Option Nat := L2.ixN n i
def ixE (a i : D) (s : Hs) : Res D :=
  match i with
  | .int k => match seqD a s with
    | some l => match ixD l.length k with
      | some j => match l[j]? with
        | some d => .ok d s
        | none => .stuck
      | none => .stuck
    | none => .stuck
  | _ => .stuck
def ixC (a i : D) (s : Hs) : Res D :=
  match a, i with
  | .dict [(.int (Int.ofNat n), .none)], .int k => match s.h n with
    | .lst l => match ixD l.length k with
      | some j => match l[j]? with
        | some d => .ok d s
        | none => .stuck
      | none => .stuck
    | _ => .stuck
  | _, _ => .stuck
def putDk (ds : List (D × D)) (k : Key) (kd d : D) : List (D × D) :=
  if (ds.any fun p => decide (KeyD p.1 = some k)) = true then ds.map (fun p => if KeyD p.1 = some k then (p.1, d) else p) else ds ++ [(kd, d)]
def putDt (ds : List (D × D)) (k : List Key) (kd d : D) : List (D × D) :=
  if (ds.any fun p => decide (KeyT p.1 = some k)) = true then ds.map (fun p => if KeyT p.1 = some k then (p.1, d) else p) else ds ++ [(kd, d)]
def ixA (a i : D) (s : Hs) : Res D :=
  match dicK a s with
  | some kvs => match KeyD i with
    | some k => match lookD kvs k with
      | some d => .ok d s
      | none => .stuck
    | none => .stuck
  | none => match dicT a s with
    | some kvs => match KeyT i with
      | some k => match lookT kvs k with
        | some d => .ok d s
        | none => .stuck
      | none => .stuck
    | none => ixE a i s
def cutD {α : Type} (xs : List α) (lo hi : Option Int) : List α := (xs.drop (HT.sIx xs.length 0 lo)).take (HT.sIx xs.length xs.length hi - HT.sIx xs.length 0 lo)
def optI : List D → Option (Option Int)
  | [] => some none
  | [.int i] => some (some i)
  | _ => none
def sliceE (d : D) (lo hi : Option Int) (s : Hs) : Res D :=
  match d with
  | .tuple l => .ok (.tuple (cutD l lo hi)) s
  | .dict [(.none, .list l)] => .ok (.list (cutD l lo hi)) s
  | d => match lstD d s with
    | some l => .ok (.list (cutD l lo hi)) s
    | none => .stuck
def sliceN (d : D) (lo hi : Option Int) (s : Hs) : Res (List D) :=
  match d with
  | .dict [(.none, .list l)] => .ok (cutD l lo hi) s
  | d => match lstD d s with
    | some l => .ok (cutD l lo hi) s
    | none => .stuck
def revE (d : D) (s : Hs) : Res D :=
  match d with
  | .tuple l => .ok (.tuple l.reverse) s
  | d => match lstD d s with
    | some l => .ok (.list l.reverse) s
    | none => .stuck
def fldE (a : D) (f : Nat) (s : Hs) : Res D :=
  match a with
  | .dict [(.int (Int.ofNat n), .none)] => match s.h n with
    | .ins _ fs => match fs.lookup f with
      | some d => .ok d s
      | none => .stuck
    | _ => .stuck
  | _ => .stuck
def insI (i : Int) : List Int → List Int
  | [] => [i]
  | j :: r => if i ≤ j then i :: j :: r else j :: insI i r
def sortI : List Int → List Int
  | [] => []
  | i :: r => insI i (sortI r)
def rangeL (lo hi : Int) : List D := (List.range (hi - lo).toNat).map fun (i : Nat) => .int (lo + i)
def nbE (b : Nb) (as : List D) (s : Hs) : Res (List D) :=
  match b, as with
  | .list, [d] => match seqD d s with
    | some l => .ok l s
    | none => .stuck
  | .sorted, [d] => match (seqD d s).bind intsD with
    | some l => .ok ((sortI l).map .int) s
    | none => .stuck
  | .cat, [a, b] => match lstD a s, lstD b s with
    | some x, some y => if Nat.ble (x.length + y.length) 1000000 then .ok (x ++ y) s else .stuck
    | _, _ => .stuck
  | .rep, [a, .int k] => match lstD a s with
    | some x => if decide (-100000 < k) && decide (k < 100000) && Nat.ble (x.length * k.toNat) 1000000 then .ok (List.replicate k.toNat x).flatten s else .stuck
    | none => .stuck
  | .range, [.int k] => if decide (k < 1000000) then .ok ((List.range k.toNat).map fun (i : Nat) => .int i) s else .stuck
  | _, _ => .stuck
/-- the greatest or least, or what is told for none -/
def defI (mx : Bool) (y : D) : List Int → D
  | [] => y
  | n :: r => .int (if mx then maxI n r else minI n r)
/-- a range object -/
def rngD (lo hi : Int) : D := .dict [(.bool true, .tuple [.int lo, .int hi])]
def twoE (w : Two) (as : List D) (s : Hs) : Res D :=
  match w, as with
  | .tupr, [.int j] => if okI j && decide (j ≤ 1000000) then .ok (.tuple (rangeL 0 j)) s else .stuck
  | .lenset, [d] => match (lstD d s).bind intsD with
    | some ns => if ns.length ≤ 4000 ∧ ns.Nodup then .ok (.int (ns.length : Nat)) s else .stuck
    | none => .stuck
  | .maxd, [d, y] => match (seqD d s).bind intsD with
    | some ns => .ok (defI true y ns) s
    | none => .stuck
  | .mind, [d, y] => match (seqD d s).bind intsD with
    | some ns => .ok (defI false y ns) s
    | none => .stuck
  | .rngv, [.int j] => .ok (rngD 0 j) s
  | _, _ => .stuck
def lrgE (as : List D) (s : Hs) : Res (List D) :=
  match as with
  | [.int j] => if okI j && decide (j ≤ 1000000) then .ok (rangeL 0 j) s else .stuck
  | [.int i, .int j] => if okI i && okI j && decide (j - i ≤ 1000000) then .ok (rangeL i j) s else .stuck
  | _ => .stuck
/-- the first place of k -/
def placeI (k : Int) : List Int → Option Nat
  | [] => none
  | i :: r => if i = k then some 0 else (placeI k r).map (· + 1)
def placeD (d : D) : List D → Option Nat
  | [] => none
  | z :: r => if PyData.eqv z d then some 0 else (placeD d r).map (· + 1)
def bmE (m : Bm) (o : D) (as : List D) (s : Hs) : Res D :=
  match m, as with
  | .append, [d] => match o with
    | .dict [(.int (Int.ofNat n), .none)] => match s.h n with
      | .lst l => if small l.length then .ok .none (s.set n (.lst (l ++ [d]))) else .stuck
      | _ => .stuck
    | _ => .stuck
  | .pop, [] => match o with
    | .dict [(.int (Int.ofNat n), .none)] => match s.h n with
      | .lst l => match l[l.length - 1]? with
        | some d => .ok d (s.set n (.lst l.dropLast))
        | none => .stuck
      | _ => .stuck
    | _ => .stuck
  | .popAt, [.int k] => match o with
    | .dict [(.int (Int.ofNat n), .none)] => match s.h n with
      | .lst l => match ixD l.length k with
        | some j => match l[j]? with
          | some d => if okI k then .ok d (s.set n (.lst (l.eraseIdx j))) else .stuck
          | none => .stuck
        | none => .stuck
      | _ => .stuck
    | _ => .stuck
  | .remove, [.int k] => match o with
    | .dict [(.int (Int.ofNat n), .none)] => match s.h n with
      | .lst l => match intsD l with
        | some ns => match placeI k ns with
          | some j => .ok .none (s.set n (.lst ((ns.eraseIdx j).map .int)))
          | none => .stuck
        | none => .stuck
      | _ => .stuck
    | _ => .stuck
  | .index, [d] => match lstD o s with
    | some l => if flat d && l.all flat then (match placeD d l with
      | some j => .ok (.int (j : Nat)) s
      | none => .stuck) else .stuck
    | none => .stuck
  | .insert, [.int k, d] => match o with
    | .dict [(.int (Int.ofNat n), .none)] => match s.h n with
      | .lst l => if small l.length && decide (0 ≤ k) && decide (k < 1000000) then .ok .none (s.set n (.lst (l.take k.toNat ++ [d] ++ l.drop k.toNat))) else .stuck
      | _ => .stuck
    | _ => .stuck
  | .extend, [d] => match o with
    | .dict [(.int (Int.ofNat n), .none)] => match s.h n with
      | .lst l => match lstD d s with
        | some l2 => if Nat.ble (l.length + l2.length) 1000000 then .ok .none (s.set n (.lst (l ++ l2))) else .stuck
        | none => .stuck
      | _ => .stuck
    | _ => .stuck
  | _, _ => .stuck

def wipeD (ρ : Env) : List Nat → Env
  | [] => ρ
  | v :: vs => (wipeD ρ vs).set v none

/-- where a walk stands: what is left, or a place in a list that may change -/
inductive Cur where
  | fix (r : List D)
  | live (n i : Nat)
inductive Nxt where
  | stop
  | item (x : D) (c : Cur)
  | lost
def Cur.next (s : Hs) : Cur → Nxt
  | .fix r => match r with
    | [] => .stop
    | x :: r => .item x (.fix r)
  | .live n i => match s.h n with
    | .lst l => match l[i]? with
      | some x => .item x (.live n (i + 1))
      | none => .stop
    | _ => .lost
def turnsN : Nat := 1000000
/-- how a walk's items come: by values, or as pairs -/
def range3 (lo hi st : Int) : Option (List D) :=
  if decide (st ≠ 0) && decide (st.natAbs < 1073741824) && Builtin.Range.small lo hi st then some ((List.range (Builtin.Range.rangeSize lo hi st).toNat).map fun (i : Nat) => .int (lo + (i : Nat) * st))
  else none
def enumL : Nat → List D → List D
  | _, [] => []
  | n, d :: r => .tuple [.int (n : Nat), d] :: enumL (n + 1) r
def zipL : List D → List D → List D
  | a :: x, b :: y => .tuple [a, b] :: zipL x y
  | _, _ => []

def enumE (x : D) (s : Hs) : Res Cur :=
  match x with
  | .list l => .ok (.fix (enumL 0 l)) s
  | .tuple l => .ok (.fix (enumL 0 l)) s
  | _ => .stuck
def valE (x : D) (s : Hs) : Res Cur :=
  match x with
  | .list l => .ok (.fix l) s
  | .tuple l => .ok (.fix l) s
  | .dict [(.bool true, .tuple [.int lo, .int hi])] => if okI lo && okI hi then .ok (.fix (rangeL lo hi)) s else .stuck
  | .dict [(.int (Int.ofNat n), .none)] => match s.h n with
    | .lst _ => .ok (.live n 0) s
    | .dik kvs => .ok (.fix (kvs.map Prod.fst)) s
    | _ => .stuck
  | _ => .stuck
def zipE (x y : D) (s : Hs) : Res Cur :=
  match x, y with
  | .list l, .list m => .ok (.fix (zipL l m)) s
  | .tuple l, .tuple m => .ok (.fix (zipL l m)) s
  | _, _ => .stuck
def setLst (o i d : D) (s : Hs) : Option Hs :=
  match o, i with
  | .dict [(.int (Int.ofNat n), .none)], .int k => match s.h n with
    | .lst l => match ixD l.length k with
      | some j => some (s.set n (.lst (l.set j d)))
      | none => none
    | _ => none
  | _, _ => none
/-- a dict that is not locked -/
def isDic : Cell → Bool
  | .dic _ _ => true
  | _ => false
def setA (o i d : D) (s : Hs) : Option Hs :=
  match dicK o s with
  | some kvs => match o with
    | .dict [(.int (Int.ofNat n), .none)] => match KeyD i with
      | some k => if small kvs.length && isDic (s.h n) then some (s.set n (.dic false (putDk kvs k i d))) else none
      | none => none
    | _ => none
  | none => match dicT o s with
    | some kvs => match o with
      | .dict [(.int (Int.ofNat n), .none)] => match KeyT i with
        | some k => if small kvs.length then some (s.set n (.dic true (putDt kvs k i d))) else none
        | none => none
      | _ => none
    | none => setLst o i d s
def setFld (ok : Nat → Nat → Bool) (o : D) (f : Nat) (d : D) (s : Hs) : Option Hs :=
  match o with
  | .dict [(.int (Int.ofNat n), .none)] => match s.h n with
    | .ins k fs => if ok k f && Nat.blt fs.length 500 then some (s.set n (.ins k (putD fs f d))) else none
    | _ => none
  | _ => none

def pairsD : List D → Option (List (Int × Int))
  | [] => some []
  | .tuple [.int i, .int j] :: r => (pairsD r).map ((i, j) :: ·)
  | _ => none
def ltP (p q : Int × Int) : Bool := if p.1 = q.1 then decide (p.2 < q.2) else decide (p.1 < q.1)
def minP (p : Int × Int) (ps : List (Int × Int)) : Int × Int := ps.foldl (fun a y => if ltP y a = true then y else a) p
def maxP (p : Int × Int) (ps : List (Int × Int)) : Int × Int := ps.foldl (fun a y => if ltP a y = true then y else a) p
/-- what a dict has at a key -/
def getD? (x k : D) (s : Hs) : Option (Option D) :=
  match dicK x s with
  | some kvs => match KeyD k with
    | some key => some (lookD kvs key)
    | none => none
  | none => match dicT x s with
    | some kvs => match KeyT k with
      | some key => some (lookT kvs key)
      | none => none
    | none => none
/-- a written dict of ints at an int -/
def dixE (kvs : List (Int × Int)) (i : Int) : Option Int :=
  match valV (mergeK [] (kvs.map fun p => ((Sum.inl p.1 : Key), V.int p.2))) (.inl i) with
  | some (.int v) => some v
  | _ => none
def xPre (w : Xt) (x : D) (s : Hs) : Bool :=
  match w with
  | .get => (dicK x s).isSome || (dicT x s).isSome
  | _ => true
def isLst : Cell → Bool
  | .lst _ => true
  | _ => false
def xE (w : Xt) (x : D) (xs : List D) (s : Hs) : Res D :=
  match w, xs with
  | .isC k, [] => match x with
    | .tuple _ => .ok (.bool false) s
    | .dict [(.int (Int.ofNat n), .none)] => match s.h n with
      | .ins c _ => if c = k then .ok (.bool true) s else .stuck
      | _ => .stuck
    | _ => .stuck
  | .isLT, [] => match x with
    | .tuple _ => .ok (.bool true) s
    | .list _ => .ok (.bool true) s
    | .int _ => .ok (.bool false) s
    | .none => .ok (.bool false) s
    | .str _ => .ok (.bool false) s
    | .dict [(.int (Int.ofNat n), .none)] => if isLst (s.h n) then .ok (.bool true) s else .stuck
    | _ => .stuck
  | .get, [k] => match getD? x k s with
    | some o => .ok (o.getD .none) s
    | none => .stuck
  | .get, [k, d] => match getD? x k s with
    | some o => .ok (o.getD d) s
    | none => .stuck
  | .dix kvs, [] => match x with
    | .int i => match dixE kvs i with
      | some v => .ok (.int v) s
      | none => .stuck
    | _ => .stuck
  | .mn, [] => match (seqD x s).bind intsD with
    | some (n :: ns) => .ok (.int (minI n ns)) s
    | _ => match (lstD x s).bind pairsD with
      | some (p :: ps) => .ok (.tuple [.int (minP p ps).1, .int (minP p ps).2]) s
      | _ => .stuck
  | .mx, [] => match (seqD x s).bind intsD with
    | some (n :: ns) => .ok (.int (maxI n ns)) s
    | _ => match (lstD x s).bind pairsD with
      | some (p :: ps) => .ok (.tuple [.int (maxP p ps).1, .int (maxP p ps).2]) s
      | _ => .stuck
  | _, _ => .stuck

mutual
/-- a value given to a target of names -/
def evG : C → D → Env → Hs → Option Env
  | .tslot i, d, ρ, _ => if i < ρ.length then some (ρ.set i (some d)) else none
  | .ttup ts, d, ρ, s => match d with
    | .tuple l => evGs ts l ρ s
    | _ => none
  | _, _, _, _ => none
def evGs : C → List D → Env → Hs → Option Env
  | .nil, l, ρ, _ => match l with
    | [] => some ρ
    | _ => none
  | .cons t r, l, ρ, s => match l with
    | d :: l' => match evG t d ρ s with
      | some ρ1 => evGs r l' ρ1 s
      | none => none
    | [] => none
  | _, _, _, _ => none
end

section
variable (P : Prog) (T : Nat → List D → Hs → Res D) (F : Nat)
/-- the turns of a list's building -/
def compN (item : D → Hs → Res (Option D)) : Nat → Cur → List D → Hs → Res (List D)
  | 0, _, _, _ => .stuck
  | f + 1, c, acc, s => match c.next s with
    | .stop => .ok acc s
    | .item x c' => (item x s).bind fun y s1 =>
      match y with
      | some d => if small acc.length then compN item f c' (acc ++ [d]) s1 else .stuck
      | none => compN item f c' acc s1
    | .lost => .stuck
def comp2N (item : D → List D → Hs → Res (List D)) : Nat → Cur → List D → Hs → Res (List D)
  | 0, _, _, _ => .stuck
  | f + 1, c, acc, s => match c.next s with
    | .stop => .ok acc s
    | .item x c' => (item x acc s).bind fun acc1 s1 => comp2N item f c' acc1 s1
    | .lost => .stuck
def forN (turn : D → Env → Hs → SR) : Nat → Cur → Env → Hs → SR
  | 0, _, _, _ => .stuck
  | f + 1, c, ρ, s => match c.next s with
    | .stop => .nx ρ s
    | .item x c' => match turn x ρ s with
      | .nx ρ1 s1 => forN turn f c' ρ1 s1
      | .cont ρ1 s1 => forN turn f c' ρ1 s1
      | .brk ρ1 s1 => .nx ρ1 s1
      | .ret d s1 => .ret d s1
      | .exc e ρ1 s1 => .exc e ρ1 s1
      | .stuck => .stuck
    | .lost => .stuck
def whlN (test : Env → Hs → Res Bool) (body : Env → Hs → SR) : Nat → Env → Hs → SR
  | 0, _, _ => .stuck
  | n + 1, ρ, s => match test ρ s with
    | .ok true s1 => match body ρ s1 with
      | .nx ρ1 s2 => whlN test body n ρ1 s2
      | .cont ρ1 s2 => whlN test body n ρ1 s2
      | .brk ρ1 s2 => .nx ρ1 s2
      | .ret d s2 => .ret d s2
      | .exc e ρ1 s2 => .exc e ρ1 s2
      | .stuck => .stuck
    | .ok false s1 => .nx ρ s1
    | .exc e s1 => .exc e ρ s1
    | .stuck => .stuck
def methF (m : Nat) (o : D) (s : Hs) : Option Nat :=
  match o with
  | .dict [(.int (Int.ofNat n), .none)] => match s.h n with
    | .ins k _ => P.meth k m
    | _ => none
  | _ => none
def makeE (k : Nat) (as : List D) (s : Hs) : Res D :=
  match P.init k with
  | some f => (T f (cel s.nx :: as) (s.push (.ins k []))).bind fun d s1 => match d with
    | .none => .ok (cel s.nx) s1
    | _ => .stuck
  | none => .stuck

def toldR (r : Res D) : Res D :=
  match r with
  | .ok d s => .ok d s
  | .exc x s => match P.told x with
    | some nm => .ok (.str nm) s
    | none => .stuck
  | .stuck => .stuck

mutual
def evE : C → Env → Hs → Res D
  | .slot i, ρ, s => match look ρ i with
    | some d => .ok d s
    | none => .stuck
  | .cst d, _, s => .ok d s
  | .glob _ d, _, s => .ok d s
  | .bin o a b, ρ, s => (evE a ρ s).bind fun x s1 => (evE b ρ s1).bind fun y s2 => bopE o x y s2
  | .neg a, ρ, s => (evE a ρ s).bind fun x s1 => match x with
    | .int i => .ok (.int (-i)) s1
    | _ => .stuck
  | .cmp o a b, ρ, s => (evE a ρ s).bind fun x s1 => (evE b ρ s1).bind fun y s2 => cmpE o x y s2
  | .cmp2 o p a b c, ρ, s => (evE a ρ s).bind fun x s1 => (evE b ρ s1).bind fun y s2 => (cmpE o x y s2).bind fun r s3 => match r with
    | .bool true => (evE c ρ s3).bind fun z s4 => cmpE p y z s4
    | .bool false => .ok (.bool false) s3
    | _ => .stuck
  | .not a, ρ, s => (evE a ρ s).bind fun x s1 => match x with
    | .bool b => .ok (.bool (!b)) s1
    | _ => .stuck
  | .and a b, ρ, s => (evE a ρ s).bind fun x s1 => match x with
    | .bool true => evE b ρ s1
    | .bool false => .ok (.bool false) s1
    | _ => .stuck
  | .or a b, ρ, s => (evE a ρ s).bind fun x s1 => match x with
    | .bool false => evE b ρ s1
    | .bool true => .ok (.bool true) s1
    | _ => .stuck
  | .ife t a b, ρ, s => (evE t ρ s).bind fun x s1 => match x with
    | .bool true => evE a ρ s1
    | .bool false => evE b ρ s1
    | _ => .stuck
  | .tup as, ρ, s => (evA as ρ s).bind fun xs s1 => if small xs.length then .ok (.tuple xs) s1 else .stuck
  | .call f as, ρ, s => (evA as ρ s).bind fun xs s1 => T f xs s1
  | .told a, ρ, s => toldR P (evE a ρ s)
  | .meth m o as, ρ, s => (evE o ρ s).bind fun x s1 => match methF P m x s1 with
    | some f => (evA as ρ s1).bind fun xs s2 => T f (x :: xs) s2
    | none => .stuck
  | .make k as, ρ, s => (evA as ρ s).bind fun xs s1 => makeE P T k xs s1
  | .bcall b as, ρ, s => (evA as ρ s).bind fun xs s1 => biE b xs s1
  | .bmeth m o as, ρ, s => (evE o ρ s).bind fun x s1 => if (lstD x s1).isSome then (evA as ρ s1).bind fun xs s2 => bmE m x xs s2 else .stuck
  | .ix a i, ρ, s => (evE a ρ s).bind fun x s1 => (evE i ρ s1).bind fun y s2 => ixA x y s2
  | .fld o f, ρ, s => (evE o ρ s).bind fun x s1 => fldE x f s1
  | .slice a lo hi, ρ, s => (evE a ρ s).bind fun x s1 => (evA lo ρ s1).bind fun ls s2 => match optI ls with
    | some l => (evA hi ρ s2).bind fun hs s3 => match optI hs with
      | some h => sliceE x l h s3
      | none => .stuck
    | none => .stuck
  | .rev a, ρ, s => (evE a ρ s).bind fun x s1 => revE x s1
  | .two w as, ρ, s => (evA as ρ s).bind fun xs s1 => twoE w xs s1
  | .xf w o as, ρ, s => (evE o ρ s).bind fun x s1 => if xPre w x s1 then (evA as ρ s1).bind fun xs s2 => xE w x xs s2 else .stuck
  | .newT n, ρ, s => (evN n ρ s).bind fun l s1 => .ok (.list l) s1
  | .newC n, ρ, s => (evN n ρ s).bind fun l s1 => .ok (cel s1.nx) (s1.push (.lst l))
  | .dict0, _, s => .ok (cel s.nx) (s.push (.dic false []))
  | .dict1, _, s => .ok (cel s.nx) (s.push (.dic true []))
  | .lck i a, ρ, s => match look ρ i with
    | some (.dict [(.int (Int.ofNat n), .none)]) => (match s.h n with
      | .dic false kvs => (match evE a ρ (s.set n (.dik kvs)) with
        | .ok d s1 => (match s1.h n with
          | .dik k2 => .ok d (s1.set n (.dic false k2))
          | _ => .stuck)
        | _ => .stuck)
      | _ => .stuck)
    | _ => .stuck
  | _, _, _ => .stuck
def evN : C → Env → Hs → Res (List D)
  | .lst as, ρ, s => (evA as ρ s).bind fun xs s1 => if small xs.length then .ok xs s1 else .stuck
  | .lrg as, ρ, s => (evA as ρ s).bind fun xs s1 => lrgE xs s1
  | .nb b as, ρ, s => (evA as ρ s).bind fun xs s1 => nbE b xs s1
  | .nsl a lo hi, ρ, s => (evE a ρ s).bind fun x s1 => (evA lo ρ s1).bind fun ls s2 => match optI ls with
    | some l => (evA hi ρ s2).bind fun hs s3 => match optI hs with
      | some h => sliceN x l h s3
      | none => .stuck
    | none => .stuck
  | .comp own tg it cond e, ρ, s => (evI it ρ s).bind fun xs s1 =>
      compN (fun x s2 => match evG tg x (wipeD ρ own) s2 with
        | some ρ1 => ((evE cond ρ1 s2).bind fun b s3 => match b with
          | .bool true => (evE e ρ1 s3).bind fun d s4 => .ok (some d) s4
          | .bool false => .ok none s3
          | _ => .stuck).nox
        | none => .stuck) turnsN xs [] s1
  | .comp2 own tg it cond tg2 it2 cond2 e, ρ, s => (evI it ρ s).bind fun xs s1 =>
      comp2N (fun x acc s2 => match evG tg x (wipeD ρ own) s2 with
        | some ρ1 => ((evE cond ρ1 s2).bind fun b s3 => match b with
          | .bool true => (evI it2 ρ1 s3).bind fun ys s4 =>
            compN (fun y s5 => match evG tg2 y (wipeD ρ1 (tgs tg2)) s5 with
              | some ρ2 => (evE cond2 ρ2 s5).bind fun b2 s6 => match b2 with
                | .bool true => (evE e ρ2 s6).bind fun d s7 => .ok (some d) s7
                | .bool false => .ok none s6
                | _ => .stuck
              | none => .stuck) turnsN ys acc s4
          | .bool false => .ok acc s3
          | _ => .stuck).nox
        | none => .stuck) turnsN xs [] s1
  | _, _, _ => .stuck
def evA : C → Env → Hs → Res (List D)
  | .nil, _, s => .ok [] s
  | .cons a r, ρ, s => (evE a ρ s).bind fun x s1 => (evA r ρ s1).bind fun xs s2 => .ok (x :: xs) s2
  | _, _, _ => .stuck
/-- what is walked, item by item -/
def evI : C → Env → Hs → Res Cur
  | .irange as, ρ, s => (evA as ρ s).bind fun xs s1 => match xs with
    | [.int j] => if okI j then .ok (.fix (rangeL 0 j)) s1 else .stuck
    | [.int i, .int j] => if okI i && okI j then .ok (.fix (rangeL i j)) s1 else .stuck
    | [.int i, .int j, .int k] => if okI i && okI j && okI k then (match range3 i j k with
        | some l => .ok (.fix l) s1
        | none => .stuck) else .stuck
    | _ => .stuck
  | .ienum a, ρ, s => (evE a ρ s).bind fun x s1 => enumE x s1
  | .izip a b, ρ, s => (evE a ρ s).bind fun x s1 => (evE b ρ s1).bind fun y s2 => zipE x y s2
  | .ival a, ρ, s => (evE a ρ s).bind fun x s1 => valE x s1
  | _, _, _ => .stuck
end

mutual
/-- a value given to any target -/
def evT : C → D → Env → Hs → Res Env
  | .tslot i, d, ρ, s => if i < ρ.length then .ok (ρ.set i (some d)) s else .stuck
  | .ttup ts, d, ρ, s => match d with
    | .tuple l => if l.length = tlen ts then evTs ts l ρ s else .stuck
    | _ => .stuck
  | .tsub o i, d, ρ, s => ((evE P T o ρ s).bind fun x s1 => (evE P T i ρ s1).bind fun y s2 => match setA x y d s2 with
    | some s3 => .ok ρ s3
    | none => .stuck).nox
  | .tfld o f, d, ρ, s => ((evE P T o ρ s).bind fun x s1 => match setFld P.fok x f d s1 with
    | some s2 => .ok ρ s2
    | none => .stuck).nox
  | _, _, _, _ => .stuck
def evTs : C → List D → Env → Hs → Res Env
  | .nil, l, ρ, s => match l with
    | [] => .ok ρ s
    | _ => .stuck
  | .cons t r, l, ρ, s => match l with
    | d :: l' => (evT t d ρ s).bind fun ρ1 s1 => evTs r l' ρ1 s1
    | [] => .stuck
  | _, _, _, _ => .stuck
end

/-- an instance's class -/
def clsD (d : D) (s : Hs) : Option Nat :=
  match d with
  | .dict [(.int (Int.ofNat n), .none)] => match s.h n with
    | .ins k _ => some k
    | _ => none
  | _ => none
def SR.of (ρ : Env) : Res D → SR
  | .ok _ s => .nx ρ s
  | _ => .stuck
def evS : C → Env → Hs → SR
  | .expr e, ρ, s => match evE P T e ρ s with
    | .ok _ s1 => .nx ρ s1
    | .exc x s1 => .exc x ρ s1
    | .stuck => .stuck
  | .asg t e, ρ, s => match evE P T e ρ s with
    | .ok d s1 => match evT P T t d ρ s1 with
      | .ok ρ1 s2 => .nx ρ1 s2
      | _ => .stuck
    | .exc x s1 => .exc x ρ s1
    | .stuck => .stuck
  | .aug i o e, ρ, s => match look ρ i with
    | some x => match evE P T e ρ s with
      | .ok d s1 => match augE o x d s1 with
        | .ok y s2 => .nx (ρ.set i (some y)) s2
        | _ => .stuck
      | .exc x s1 => .exc x ρ s1
      | .stuck => .stuck
    | none => .stuck
  | .augF o f p e, ρ, s => SR.of ρ ((evE P T o ρ s).bind fun x s1 => (fldE x f s1).bind fun v s2 => (evE P T e ρ s2).bind fun d s3 => (augE p v d s3).bind fun y s4 => if clsD x s1 = clsD x s4 then (match setFld P.fok x f y s4 with
    | some s5 => .ok .none s5
    | none => .stuck) else .stuck)
  | .augS o i p e, ρ, s => SR.of ρ ((evE P T o ρ s).bind fun x s1 => (evE P T i ρ s1).bind fun j s2 => (ixC x j s2).bind fun v s3 => (evE P T e ρ s3).bind fun d s4 => (augE p v d s4).bind fun y s5 => match setLst x j y s5 with
    | some s6 => .ok .none s6
    | none => .stuck)
  | .ret e, ρ, s => match evE P T e ρ s with
    | .ok d s1 => .ret d s1
    | .exc x s1 => .exc x ρ s1
    | .stuck => .stuck
  | .retN, _, s => .ret .none s
  | .ifs t a b, ρ, s => match evE P T t ρ s with
    | .ok (.bool true) s1 => evS a ρ s1
    | .ok (.bool false) s1 => evS b ρ s1
    | .ok _ _ => .stuck
    | .exc x s1 => .exc x ρ s1
    | .stuck => .stuck
  | .whl t b, ρ, s => whlN (fun ρ s => match evE P T t ρ s with
      | .ok (.bool b) s1 => .ok b s1
      | .ok _ _ => .stuck
      | .exc x s1 => .exc x s1
      | .stuck => .stuck) (fun ρ s => evS b ρ s) F ρ s
  | .fors t it b, ρ, s => match evI P T it ρ s with
    | .ok xs s1 => forN (fun x ρ s2 => match evG t x ρ s2 with
      | some ρ1 => evS b ρ1 s2
      | none => .stuck) turnsN xs ρ s1
    | .exc x s1 => .exc x ρ s1
    | .stuck => .stuck
  | .raise x, ρ, s => .exc x ρ s
  | .del o i, ρ, s => .stuck
  | .pass, ρ, s => .nx ρ s
  | .brk, ρ, s => .brk ρ s
  | .cont, ρ, s => .cont ρ s
  | .seq a b, ρ, s => match evS a ρ s with
    | .nx ρ1 s1 => evS b ρ1 s1
    | r => r
  | .done, ρ, s => .nx ρ s
  | _, _, _ => .stuck
end

def start0 (d : Def) (as : List D) : Env := as.map some ++ List.replicate (d.nn - as.length) none
/-- a def called, at most n calls within one another -/
def run (P : Prog) (F : Nat) : Nat → Nat → List D → Hs → Res D
  | 0, _, _, _ => .stuck
  | n + 1, f, as, s =>
    let d := P.defs f
    if as.length = d.np ∧ d.np ≤ d.nn then
      match evS P (run P F n) F d.body (start0 d as) s with
      | .nx _ s1 => .ok .none s1
      | .ret v s1 => .ok v s1
      | .exc e _ s1 => .exc e s1
      | _ => .stuck
    else .stuck
end Ev

set_option Elab.async false
set_option linter.all false
set_option maxRecDepth 100000
set_option maxHeartbeats 1000000
namespace Ev
open PySem PySem.Spec PyProof.Rows L2

abbrev St := L2.St
/-! ### what is wanted of a result -/
abbrev RelT (β α : Type) := Gh → Hs → Hp → β → α → Prop
def Pre {β α : Type} (K : PySem.W.Frag) (S : Sig) (R : RelT β α) (Q : β → Hp → Prop) (E : Nat → Hp → Prop) (κ : Gh) (nx : Nat) (H : Hp) : Res α → Prop
  | .ok a s' => ∀ κ' H' v, Tr κ nx H κ' s'.nx H' → HR K S κ' s' H' → R κ' s' H' v a → Q v H'
  | .exc e s' => ∀ κ' H', Tr κ nx H κ' s'.nx H' → HR K S κ' s' H' → E e H'
  | .stuck => False
section
variable {β α γ δ : Type} {K : PySem.W.Frag} {S : Sig} {R : RelT β α} {R2 : RelT δ γ} {Q : β → Hp → Prop} {Q2 : δ → Hp → Prop} {E : Nat → Hp → Prop} {κ κ1 : Gh} {nx nx1 : Nat} {H H1 : Hp} {r : Res α} {f : α → Hs → Res γ}
theorem Pre.tr (t : Tr κ nx H κ1 nx1 H1) (p : Pre K S R Q E κ nx H r) : Pre K S R Q E κ1 nx1 H1 r := by
  cases r with
  | ok a s => exact fun κ' H' v t' h' r' => p κ' H' v (t.trans t') h' r'
  | exc e s => exact fun κ' H' t' h' => p κ' H' (t.trans t') h'
  | stuck => exact p
theorem Pre.mono {Q' : β → Hp → Prop} (p : Pre K S R Q E κ nx H r) (h : ∀ v H', Q v H' → Q' v H') : Pre K S R Q' E κ nx H r := by
  cases r with
  | ok a s => exact fun κ' H' v t' h' r' => h _ _ (p κ' H' v t' h' r')
  | exc e s => exact p
  | stuck => exact p
/-- one after the other -/
theorem Pre.bind (p : Pre K S R2 Q2 E κ nx H (r.bind f)) (h : ∀ a s1 κ1 H1 v, r = .ok a s1 → Tr κ nx H κ1 s1.nx H1 → HR K S κ1 s1 H1 → R κ1 s1 H1 v a → Pre K S R2 Q2 E κ1 s1.nx H1 (f a s1) → Q v H1) :
    Pre K S R Q E κ nx H r := by
  cases r with
  | ok a s => exact fun κ' H' v t' h' r' => h a s κ' H' v rfl t' h' r' (Pre.tr t' p)
  | exc e s => exact p
  | stuck => exact p
end

/-! ### the slots -/
structure Slots (K : PySem.W.Frag) (κ : Gh) (nx : Nat) (H : Hp) (σ : St) (ρ : Env) : Prop where
  len : σ.length = ρ.length
  at' : ∀ (i : Nat) (d : D), look ρ i = some d → ∃ v, σ[i]? = some (some v) ∧ Rep K κ nx H v d
section
variable {K : PySem.W.Frag} {κ κ' : Gh} {nx nx' : Nat} {H H' : Hp} {σ : St} {ρ : Env}
theorem Slots.tr (t : Tr κ nx H κ' nx' H') (h : Slots K κ nx H σ ρ) : Slots K κ' nx' H' σ ρ :=
  ⟨h.len, fun i d e => let ⟨v, a, b⟩ := h.at' i d e; ⟨v, a, b.tr t⟩⟩
theorem look_set {ρ : Env} {i j : Nat} {d : Option D} (hi : i < ρ.length) : look (ρ.set i d) j = if i = j then d else look ρ j := by
  unfold look
  by_cases q : i = j
  · subst q; rw [List.getElem?_set_self hi, if_pos rfl]; cases d <;> rfl
  · rw [List.getElem?_set_ne q, if_neg q]
theorem Slots.set (h : Slots K κ nx H σ ρ) {i : Nat} {v : V} {d : D} (r : Rep K κ nx H v d) : Slots K κ nx H (σ.set i (some v)) (ρ.set i (some d)) := by
  refine ⟨by rw [List.length_set, List.length_set]; exact h.len, fun j e q => ?_⟩
  by_cases hi : i < ρ.length
  · rw [look_set hi] at q
    by_cases z : i = j
    · subst z
      rw [if_pos rfl] at q; cases q
      exact ⟨v, List.getElem?_set_self (by rw [h.len]; exact hi), r⟩
    · rw [if_neg z] at q
      obtain ⟨w, h1, h2⟩ := h.at' j e q
      exact ⟨w, by rw [List.getElem?_set_ne z]; exact h1, h2⟩
  · have z1 : ρ.set i (some d) = ρ := List.set_eq_of_length_le (by omega)
    have z2 : σ.set i (some v) = σ := List.set_eq_of_length_le (by rw [h.len]; omega)
    rw [z1] at q
    rw [z2]
    exact h.at' j e q
theorem look_wipe {ρ : Env} : ∀ {vs : List Nat} {i : Nat} {d : D}, look (wipeD ρ vs) i = some d → look ρ i = some d ∧ i ∉ vs
  | [], i, d, h => ⟨h, by simp⟩
  | v :: vs, i, d, h => by
    unfold wipeD at h
    by_cases hv : v < (wipeD ρ vs).length
    · rw [look_set hv] at h
      by_cases z : v = i
      · rw [if_pos z] at h; cases h
      · rw [if_neg z] at h
        obtain ⟨h1, h2⟩ := look_wipe h
        exact ⟨h1, by simp only [List.mem_cons, not_or]; exact ⟨fun e => z e.symm, h2⟩⟩
    · have z1 : (wipeD ρ vs).set v none = wipeD ρ vs := List.set_eq_of_length_le (by omega)
      rw [z1] at h
      obtain ⟨h1, h2⟩ := look_wipe h
      have z : ¬ i = v := fun e => by
        subst e
        unfold look at h
        rw [List.getElem?_eq_none (by omega)] at h
        cases h
      exact ⟨h1, by simp only [List.mem_cons, not_or]; exact ⟨z, h2⟩⟩
theorem wipeD_length (ρ : Env) : ∀ vs : List Nat, (wipeD ρ vs).length = ρ.length
  | [] => rfl
  | v :: vs => by unfold wipeD; rw [List.length_set, wipeD_length ρ vs]
theorem wipe_out' {σ : St} {i : Nat} : ∀ {vs : List Nat}, i ∉ vs → (wipe σ vs)[i]? = σ[i]?
  | [], _ => rfl
  | v :: vs, h => by
    simp only [List.mem_cons, not_or] at h
    unfold wipe
    rw [List.getElem?_set_ne (fun e => h.1 e.symm)]
    exact wipe_out' h.2
theorem Slots.wipe (h : Slots K κ nx H σ ρ) (vs : List Nat) : Slots K κ nx H (L2.wipe σ vs) (wipeD ρ vs) :=
  ⟨by rw [wipe_length, wipeD_length]; exact h.len, fun i d q => by
    obtain ⟨h1, h2⟩ := look_wipe q
    obtain ⟨v, a, b⟩ := h.at' i d h1
    exact ⟨v, by rw [wipe_out' h2]; exact a, b⟩⟩
end

/-! ### the universal readings -/
def TW (X : Cx) (e : Expr) : TE := fun σ H Q => ∀ pins s, Inv X pins σ H s → wpAny (model X.prog X.w) X.A (eval e X.env) (EP X pins σ Q) X.xe s
def TWt (X : Cx) (e : Expr) : TT := fun σ H Q => ∀ pins s, Inv X pins σ H s → wpAny (model X.prog X.w) X.A (isTrue e X.env (eval e X.env)) (TP X pins σ Q) X.xe s
def TWa (X : Cx) (es : List Expr) : TA := fun σ H Q => ∀ pos pins s, Inv X pins σ H s → wpAny (model X.prog X.w) X.A (spliced (backTo pos (starEach es X.env))) (AP X pins σ Q) X.xe s
def TWi (X : Cx) (tg it : Expr) : TI := fun σ H R => ∀ pins s, Inv X pins σ H s →
    wpAny (model X.prog X.w) X.A (eval it X.env) (fun v s1 => wpAny (model X.prog X.w) X.A (pyIter v) (PIE X pins σ tg R) X.xe s1) X.xe s
def TWg (X : Cx) (tg : Expr) : TG := fun v σ H Q => ∀ pins s u, Inv X pins σ H s → RelV v u →
    wpAny (model X.prog X.w) X.A (assign tg X.env u) (fun _ s' => ∃ σ' H', Inv X pins σ' H' s' ∧ Q σ' H') X.xe s
def TWs (X : Cx) (st : Stmt) : TS := fun D σ H => ∀ pins s, Inv X pins σ H s → wpAny (model X.prog X.w) X.A (exec st X.env) (SP X pins D) X.xe s
def TWb (X : Cx) (st : List Stmt) : TS := fun D σ H => ∀ pins s, Inv X pins σ H s → wpAny (model X.prog X.w) X.A (execs st X.env) (SP X pins D) X.xe s
section
variable {X : Cx}
theorem peW {e : Expr} : PE X e (TW X e) := ⟨fun pins s σ H Q I h => h pins s I⟩
theorem ptW {e : Expr} : PT X e (TWt X e) := ⟨fun pins s σ H Q I h => h pins s I⟩
theorem paW {e : List Expr} : PA X e (TWa X e) := ⟨fun pos pins s σ H Q I h => h pos pins s I⟩
theorem piW {tg e : Expr} : PI X tg e (TWi X tg e) := ⟨fun pins s σ H Q I h => h pins s I⟩
theorem pgW {e : Expr} : PG X e (TWg X e) := ⟨fun pins s σ H v u Q I r h => h pins s u I r⟩
theorem psW {e : Stmt} : PS X e (TWs X e) := ⟨fun pins s σ H D I h => h pins s I⟩
theorem pssW {e : List Stmt} : PSs X e (TWb X e) := ⟨fun pins s σ H D I h => h pins s I⟩
theorem twE {e : Expr} {t : TE} {σ : St} {H : Hp} {Q : VK} (p : PE X e t) (h : t σ H Q) : TW X e σ H Q := fun pins s I => p.run pins s σ H Q I h
theorem twT {e : Expr} {t : TT} {σ : St} {H : Hp} {Q : Bool → Hp → Prop} (p : PT X e t) (h : t σ H Q) : TWt X e σ H Q := fun pins s I => p.run pins s σ H Q I h
theorem twA {e : List Expr} {t : TA} {σ : St} {H : Hp} {Q : List V → Hp → Prop} (p : PA X e t) (h : t σ H Q) : TWa X e σ H Q := fun pos pins s I => p.run pos pins s σ H Q I h
theorem twI {tg e : Expr} {t : TI} {σ : St} {H : Hp} {Q : It → Hp → Prop} (p : PI X tg e t) (h : t σ H Q) : TWi X tg e σ H Q := fun pins s I => p.run pins s σ H Q I h
theorem twG {e : Expr} {t : TG} {v : V} {σ : St} {H : Hp} {Q : St → Hp → Prop} (p : PG X e t) (h : t v σ H Q) : TWg X e v σ H Q := fun pins s u I r => p.run pins s σ H v u Q I r h
theorem twS {e : Stmt} {t : TS} {σ : St} {H : Hp} {Q : Ends} (p : PS X e t) (h : t Q σ H) : TWs X e Q σ H := fun pins s I => p.run pins s σ H Q I h
theorem twB {e : List Stmt} {t : TS} {σ : St} {H : Hp} {Q : Ends} (p : PSs X e t) (h : t Q σ H) : TWb X e Q σ H := fun pins s I => p.run pins s σ H Q I h
end

/-! ### a program's pieces are sound -/
/-- the setting: the context, the names of things, the calls' table, what is wished of exceptions -/
structure Set0 where
  X : Cx
  S : Sig
  P : Prog
  T : Nat → List D → Hs → Res D
  F : Nat
  W : WX
  exV : Nat → Value

variable (Γ : Set0)
abbrev Set0.E (σ : St) : Nat → Hp → Prop := fun e H => Γ.W (Γ.exV e) none σ H
abbrev RepD (K : PySem.W.Frag) : RelT V D := fun κ s H v d => Rep K κ s.nx H v d
abbrev RepL (K : PySem.W.Frag) : RelT (List V) (List D) := fun κ s H v d => Reps K κ s.nx H v d
/-- a new list -/
def RepN (K : PySem.W.Frag) (S : Sig) (H0 : Hp) : RelT V (List D) := fun κ s H v d => ∃ p vs, v = .ref p ∧ H p = some (.lst vs) ∧ HN H0 p ∧ (∀ n, n < s.nx → κ.f n ≠ p) ∧ p ∉ κ.R ∧ Reps K (κ.hold p) s.nx H vs d ∧ HR K S (κ.hold p) s H
def OkE (e : Expr) (c : C) : Prop := ∀ σ ρ κ s H Q, HR Γ.X.K Γ.S κ s H → Slots Γ.X.K κ s.nx H σ ρ →
  Pre Γ.X.K Γ.S (RepD Γ.X.K) Q (Γ.E σ) κ s.nx H (evE Γ.P Γ.T c ρ s) → TW Γ.X e σ H Q
def OkT (e : Expr) (c : C) : Prop := ∀ σ ρ κ s H Q, HR Γ.X.K Γ.S κ s H → Slots Γ.X.K κ s.nx H σ ρ →
  Pre Γ.X.K Γ.S (RepD Γ.X.K) (fun v H' => ∃ b, v = .bl b ∧ Q b H') (Γ.E σ) κ s.nx H (evE Γ.P Γ.T c ρ s) → TWt Γ.X e σ H Q
def OkN (e : Expr) (c : C) : Prop := ∀ σ ρ κ s H Q, HR Γ.X.K Γ.S κ s H → Slots Γ.X.K κ s.nx H σ ρ →
  Pre Γ.X.K Γ.S (RepN Γ.X.K Γ.S H) Q (Γ.E σ) κ s.nx H (evN Γ.P Γ.T c ρ s) → TW Γ.X e σ H Q
def OkA (es : List Expr) (c : C) : Prop := ∀ σ ρ κ s H Q, HR Γ.X.K Γ.S κ s H → Slots Γ.X.K κ s.nx H σ ρ →
  Pre Γ.X.K Γ.S (RepL Γ.X.K) Q (Γ.E σ) κ s.nx H (evA Γ.P Γ.T c ρ s) → TWa Γ.X es σ H Q

section
variable {Γ}
variable {a b e : Expr} {ca cb c : C} {es : List Expr} {pos : Pos}

/-- a in a reading -/
theorem OkE.use (h : OkE Γ e c) {γ δ : Type} {R2 : RelT δ γ} {Q2 : δ → Hp → Prop} {σ : St} {ρ : Env} {κ : Gh} {s : Hs} {H : Hp} {Q : VK} {f : D → Hs → Res γ} (hr : HR Γ.X.K Γ.S κ s H) (sl : Slots Γ.X.K κ s.nx H σ ρ)
    (p : Pre Γ.X.K Γ.S R2 Q2 (Γ.E σ) κ s.nx H ((evE Γ.P Γ.T c ρ s).bind f))
    (k : ∀ d s1 κ1 H1 v, Tr κ s.nx H κ1 s1.nx H1 → HR Γ.X.K Γ.S κ1 s1 H1 → Slots Γ.X.K κ1 s1.nx H1 σ ρ → Rep Γ.X.K κ1 s1.nx H1 v d → Pre Γ.X.K Γ.S R2 Q2 (Γ.E σ) κ1 s1.nx H1 (f d s1) → Q v H1) : TW Γ.X e σ H Q :=
  h σ ρ κ s H Q hr sl (Pre.bind p fun d s1 κ1 H1 v _ t h1 r p1 => k d s1 κ1 H1 v t h1 (sl.tr t) r p1)
theorem OkA.use (h : OkA Γ es c) {γ δ : Type} {R2 : RelT δ γ} {Q2 : δ → Hp → Prop} {σ : St} {ρ : Env} {κ : Gh} {s : Hs} {H : Hp} {Q : List V → Hp → Prop} {f : List D → Hs → Res γ} (hr : HR Γ.X.K Γ.S κ s H) (sl : Slots Γ.X.K κ s.nx H σ ρ)
    (p : Pre Γ.X.K Γ.S R2 Q2 (Γ.E σ) κ s.nx H ((evA Γ.P Γ.T c ρ s).bind f))
    (k : ∀ d s1 κ1 H1 v, Tr κ s.nx H κ1 s1.nx H1 → HR Γ.X.K Γ.S κ1 s1 H1 → Slots Γ.X.K κ1 s1.nx H1 σ ρ → Reps Γ.X.K κ1 s1.nx H1 v d → Pre Γ.X.K Γ.S R2 Q2 (Γ.E σ) κ1 s1.nx H1 (f d s1) → Q v H1) : TWa Γ.X es σ H Q :=
  h σ ρ κ s H Q hr sl (Pre.bind p fun d s1 κ1 H1 v _ t h1 r p1 => k d s1 κ1 H1 v t h1 (sl.tr t) r p1)
/-- what is there is handed on -/
theorem Pre.give {β α : Type} {K : PySem.W.Frag} {S : Sig} {R : RelT β α} {Q : β → Hp → Prop} {E : Nat → Hp → Prop} {κ : Gh} {H : Hp} {a : α} {s : Hs} {v : β} (p : Pre K S R Q E κ s.nx H (.ok a s)) (h : HR K S κ s H) (r : R κ s H v a) : Q v H :=
  p κ H v Tr.refl h r

theorem ok_slot {i : Nat} {x : Str} (hN : Γ.X.N[i]? = some x) (hv : Vis Γ.X.env.scope x) (hd : (x == ("__debug__" : Str)) = false) (hcd : (x == ("__classdict__" : Str)) = false) : OkE Γ (.Name x pos) (.slot i) := by
  intro σ ρ κ s H Q hr sl p
  refine twE (pe_var hN hv hd hcd) ?_
  unfold evE at p
  cases q : look ρ i with
  | none => rw [q] at p; exact p.elim
  | some d =>
    rw [q] at p
    obtain ⟨v, h1, h2⟩ := sl.at' i d q
    exact ⟨v, h1, p.give hr h2⟩
theorem ok_cst_int {i : Int} {j : Nat} : OkE Γ (.Constant (.int i) j pos) (.cst (.int i)) := by
  intro σ ρ κ s H Q hr sl p
  exact twE pe_int (p.give hr .int)
theorem ok_cst_bl {i : Bool} {j : Nat} : OkE Γ (.Constant (.bool i) j pos) (.cst (.bool i)) := by
  intro σ ρ κ s H Q hr sl p
  exact twE pe_bl (p.give hr .bl)
theorem ok_cst_str {i : Str} {j : Nat} : OkE Γ (.Constant (.str i) j pos) (.cst (.str i)) := by
  intro σ ρ κ s H Q hr sl p
  exact twE pe_str (p.give hr .str)
theorem ok_cst_non {j : Nat} : OkE Γ (.Constant .none j pos) (.cst .none) := by
  intro σ ρ κ s H Q hr sl p
  exact twE pe_non (p.give hr .non)

/-! #### operators, by values -/
/-- an operator's reading is met by its values -/
def OpV (r : R2) (f : D → D → Hs → Res D) : Prop := ∀ κ s H x y dx dy Q E, HR Γ.X.K Γ.S κ s H → Rep Γ.X.K κ s.nx H x dx → Rep Γ.X.K κ s.nx H y dy → Pre Γ.X.K Γ.S (RepD Γ.X.K) Q E κ s.nx H (f dx dy s) → r x y H Q
/-- .. the rule chosen by the values -/
def OpX (f : Value → Value → Sem Value) (g : D → D → Hs → Res D) : Prop := ∀ pins s0 σ κ s H x y dx dy v u Q, Inv Γ.X pins σ H s0 → RelV x v → RelV y u → HR Γ.X.K Γ.S κ s H → Rep Γ.X.K κ s.nx H x dx → Rep Γ.X.K κ s.nx H y dy →
  Pre Γ.X.K Γ.S (RepD Γ.X.K) Q (fun _ _ => False) κ s.nx H (g dx dy s) → wpAny (model Γ.X.prog Γ.X.w) Γ.X.A (f v u) (EP Γ.X pins σ Q) Γ.X.xe s0
def NoExc {α : Type} (r : Res α) : Prop := ∀ e s, r ≠ .exc e s
theorem Pre.noexc {β α : Type} {K : PySem.W.Frag} {S : Sig} {R : RelT β α} {Q : β → Hp → Prop} {E E' : Nat → Hp → Prop} {κ : Gh} {nx : Nat} {H : Hp} {r : Res α} (p : Pre K S R Q E κ nx H r) (h : NoExc r) : Pre K S R Q E' κ nx H r := by
  cases r with
  | ok a s => exact p
  | exc e s => exact absurd rfl (h e s)
  | stuck => exact p
theorem ok_bin2 {op : Operator} {o : Bop} (ho : OpX (Γ := Γ) (binaryOp op) (bopE o)) (hn : ∀ x y s, NoExc (bopE o x y s)) (ha : OkE Γ a ca) (hb : OkE Γ b cb) : OkE Γ (.BinOp a op b pos) (.bin o ca cb) := by
  intro σ ρ κ s H Q hr sl p pins s0 I
  refine wpAny_BinOp (bin (R := fun x y H2 => ∀ pins s0 v u, Inv Γ.X pins σ H2 s0 → RelV x v → RelV y u → wpAny (model Γ.X.prog Γ.X.w) Γ.X.A (binaryOp op v u) (EP Γ.X pins σ Q) Γ.X.xe s0) peW peW I ?_ fun v u s2 x y H2 I2 rx ry q => q _ _ _ _ I2 rx ry)
  unfold evE at p
  refine ha.use hr sl p fun d s1 κ1 H1 x t1 hr1 sl1 r1 p1 => ?_
  refine hb.use hr1 sl1 p1 fun d2 s2 κ2 H2 y t2 hr2 sl2 r2 p2 => ?_
  intro pins s0 v u I rx ry
  exact ho pins s0 σ κ2 s2 H2 x y d d2 v u Q I rx ry hr2 (r1.tr t2) r2 (p2.noexc (hn _ _ _))
theorem ok_cmp {op : CmpOp} {o : Cop} (ho : OpX (Γ := Γ) (compareOp op) (cmpE o)) (hn : ∀ x y s, NoExc (cmpE o x y s)) (hm : behindInMarks op b = false) (ha : OkE Γ a ca) (hb : OkE Γ b cb) : OkE Γ (.Compare a [op] [b] pos) (.cmp o ca cb) := by
  intro σ ρ κ s H Q hr sl p pins s0 I
  refine wpAny_Compare1 (bin (R := fun x y H2 => ∀ pins s0 v u, Inv Γ.X pins σ H2 s0 → RelV x v → RelV y u → wpAny (model Γ.X.prog Γ.X.w) Γ.X.A (compareOp op v u) (EP Γ.X pins σ Q) Γ.X.xe s0) peW peW I ?_ fun v u s2 x y H2 I2 rx ry q => q _ _ _ _ I2 rx ry) hm
  unfold evE at p
  refine ha.use hr sl p fun d s1 κ1 H1 x t1 hr1 sl1 r1 p1 => ?_
  refine hb.use hr1 sl1 p1 fun d2 s2 κ2 H2 y t2 hr2 sl2 r2 p2 => ?_
  intro pins s0 v u I rx ry
  exact ho pins s0 σ κ2 s2 H2 x y d d2 v u Q I rx ry hr2 (r1.tr t2) r2 (p2.noexc (hn _ _ _))
theorem ok_cmpT {op : CmpOp} {o : Cop} (ho : OpX (Γ := Γ) (compareOp op) (cmpE o)) (hn : ∀ x y s, NoExc (cmpE o x y s)) (hm : behindInMarks op b = false) (ha : OkE Γ a ca) (hb : OkE Γ b cb) : OkT Γ (.Compare a [op] [b] pos) (.cmp o ca cb) := by
  intro σ ρ κ s H Q hr sl p pins s0 I
  refine wpAny_isTrue_Compare1 (bin (R := fun x y H2 => ∀ pins s0 v u, Inv Γ.X pins σ H2 s0 → RelV x v → RelV y u → wpAny (model Γ.X.prog Γ.X.w) Γ.X.A (compareOp op v u) (EP Γ.X pins σ fun v H' => ∃ b, v = .bl b ∧ Q b H') Γ.X.xe s0) peW peW I ?_ fun v u s2 x y H2 I2 rx ry q => thn (q _ _ _ _ I2 rx ry) fun c s3 ⟨x, H1, I1, r1, q1⟩ => ?_) hm
  · unfold evE at p
    refine ha.use hr sl p fun d s1 κ1 H1 x t1 hr1 sl1 r1 p1 => ?_
    refine hb.use hr1 sl1 p1 fun d2 s2 κ2 H2 y t2 hr2 sl2 r2 p2 => ?_
    intro pins s0 v u I rx ry
    exact ho pins s0 σ κ2 s2 H2 x y d d2 v u _ I rx ry hr2 (r1.tr t2) r2 (p2.noexc (hn _ _ _))
  · obtain ⟨d, rfl, q⟩ := q1
    cases r1
    exact wpAny_truthy_bool ⟨H1, I1, q⟩
/-- an expression's value as a test -/
theorem ok_val (h : OkE Γ e c) (he : ∀ whole, isTrue e Γ.X.env whole = (do let v ← whole; standAt e.pos; holding [v] (truthy v))) : OkT Γ e c := by
  intro σ ρ κ s H Q hr sl p
  exact twT (pt_val peW he) (h σ ρ κ s H _ hr sl p)
theorem ok_not (h : OkT Γ e c) : OkT Γ (.UnaryOp .Not e pos) (.not c) := by
  intro σ ρ κ s H Q hr sl p
  unfold evE at p
  refine twT (pt_not ptW) (h σ ρ κ s H _ hr sl (Pre.bind p fun d s1 κ1 H1 v _ t h1 r p1 => ?_))
  cases r with
  | bl =>
    obtain ⟨b, e1, q⟩ := p1.give h1 .bl
    cases e1
    exact ⟨_, rfl, q⟩
  | non => exact p1.elim
  | int => exact p1.elim
  | str => exact p1.elim
  | lst _ _ => exact p1.elim
  | tup _ _ => exact p1.elim
  | cel _ _ => exact p1.elim
  | frz _ _ => exact p1.elim
  | rng _ => exact p1.elim
theorem ok_notE (h : OkE Γ e c) : OkE Γ (.UnaryOp .Not e pos) (.not c) := by
  intro σ ρ κ s H Q hr sl p
  unfold evE at p
  refine twE (pe_not peW) ?_
  refine h.use hr sl p fun d s1 κ1 H1 v t h1 sl1 r p1 => ?_
  cases r with
  | bl => exact ⟨_, rfl, p1.give h1 .bl⟩
  | non => exact p1.elim
  | int => exact p1.elim
  | str => exact p1.elim
  | lst _ _ => exact p1.elim
  | tup _ _ => exact p1.elim
  | cel _ _ => exact p1.elim
  | frz _ _ => exact p1.elim
  | rng _ => exact p1.elim
end
end Ev

set_option Elab.async false
set_option linter.all false
set_option maxRecDepth 100000
set_option maxHeartbeats 1000000
namespace Ev
open PySem PySem.Spec PyProof.Rows L2

/-- what a def keeps -/
def SpD (K : PySem.W.Frag) (S : Sig) (T : Nat → List D → Hs → Res D) (exV : Nat → Value) (f np : Nat) : Sp := fun vs H Q E =>
  vs.length = np ∧ ∃ κ s ds, HR K S κ s H ∧ Reps K κ s.nx H vs ds ∧ Pre K S (RepD K) Q (fun e H' => E (exV e) none H') κ s.nx H (T f ds s)
/-- a def of the table, at f, of the names ps -/
structure DefOk (Γ : Set0) (k : Nat) (f : Nat) (fa : Addr) : Prop where
  kp : PySem.W.keepIn Γ.X.K (.ref fa) = true
  fn : ∃ fd ps, Binds Γ.X.K fd ps [] ∧ FnOk Γ.X.prog Γ.X.w Γ.X.K Γ.X.mg Γ.X.base (L2.CX Γ.X.prog Γ.X.w) k fa fd ps (SpD Γ.X.K Γ.S Γ.T Γ.exV f ps.length) ∧ (∀ ds s, ds.length ≠ ps.length → Γ.T f ds s = .stuck)

section
variable {Γ : Set0}
variable {a b e : Expr} {ca cb c : C} {es : List Expr} {pos : Pos} {rest : List Expr}

theorem bl_of {K : PySem.W.Frag} {κ : Gh} {nx : Nat} {H : Hp} {v : V} {b : Bool} (r : Rep K κ nx H v (.bool b)) : v = .bl b := by cases r; rfl
theorem int_of {K : PySem.W.Frag} {κ : Gh} {nx : Nat} {H : Hp} {v : V} {b : Int} (r : Rep K κ nx H v (.int b)) : v = .int b := by cases r; rfl
theorem non_of {K : PySem.W.Frag} {κ : Gh} {nx : Nat} {H : Hp} {v : V} (r : Rep K κ nx H v .none) : v = .non := by cases r; rfl
theorem cel_of {K : PySem.W.Frag} {κ : Gh} {nx : Nat} {H : Hp} {v : V} {n : Nat} (r : Rep K κ nx H v (cel n)) : v = .ref (κ.f n) ∧ n < nx := by
  generalize hd : (cel n) = d at r
  cases r with
  | frz _ _ => cases hd
  | rng _ => cases hd
  | cel h e =>
    have hd' : (PyData.dict [(.int (Int.ofNat n), .none)]) = PyData.dict [(.int (Int.ofNat _), .none)] := hd
    injection hd' with h1
    injection h1 with h2 _
    injection h2 with h3 _
    injection h3 with h4
    have h5 := Int.ofNat.inj h4
    subst h5; subst e
    exact ⟨rfl, h⟩
  | non => cases hd
  | bl => cases hd
  | int => cases hd
  | str => cases hd
  | lst _ _ => cases hd
  | tup _ _ => cases hd

/-! #### and, or -/
def OkBo (Γ : Set0) (op : BoolOp) (es : List Expr) (pos : Pos) (c : C) : Prop := OkE Γ (.BoolOp op es pos) c
theorem ok_bo1 {op : BoolOp} (h : OkE Γ e c) : OkE Γ (.BoolOp op [e] pos) c := by
  intro σ ρ κ s H Q hr sl p
  exact twE (pe_one peW) (h σ ρ κ s H Q hr sl p)
theorem ok_and (ha : OkE Γ a ca) (hb : OkE Γ (.BoolOp .And (b :: rest) pos) cb) : OkE Γ (.BoolOp .And (a :: b :: rest) pos) (.and ca cb) := by
  intro σ ρ κ s H Q hr sl p
  unfold evE at p
  refine twE (pe_and peW peW) ?_
  refine ha.use hr sl p fun d s1 κ1 H1 v t h1 sl1 r p1 => ?_
  cases d with
  | bool x =>
    obtain rfl := bl_of r
    refine ⟨x, rfl, ?_⟩
    cases x with
    | true => exact hb σ ρ κ1 s1 H1 Q h1 sl1 p1
    | false => exact p1.give h1 .bl
  | _ => exact p1.elim
theorem ok_or (ha : OkE Γ a ca) (hb : OkE Γ (.BoolOp .Or (b :: rest) pos) cb) : OkE Γ (.BoolOp .Or (a :: b :: rest) pos) (.or ca cb) := by
  intro σ ρ κ s H Q hr sl p
  unfold evE at p
  refine twE (pe_or peW peW) ?_
  refine ha.use hr sl p fun d s1 κ1 H1 v t h1 sl1 r p1 => ?_
  cases d with
  | bool x =>
    obtain rfl := bl_of r
    refine ⟨x, rfl, ?_⟩
    cases x with
    | false => exact hb σ ρ κ1 s1 H1 Q h1 sl1 p1
    | true => exact p1.give h1 .bl
  | _ => exact p1.elim
/-- .. as tests, whatever the whole -/
def OkW (Γ : Set0) (e : Expr) (c : C) : Prop := ∀ (whole : Sem Value) σ ρ κ s H Q, HR Γ.X.K Γ.S κ s H → Slots Γ.X.K κ s.nx H σ ρ →
  Pre Γ.X.K Γ.S (RepD Γ.X.K) (fun v H' => ∃ b, v = .bl b ∧ Q b H') (Γ.E σ) κ s.nx H (evE Γ.P Γ.T c ρ s) → ∀ pins s0, Inv Γ.X pins σ H s0 → wpAny (model Γ.X.prog Γ.X.w) Γ.X.A (isTrue e Γ.X.env whole) (TP Γ.X pins σ Q) Γ.X.xe s0
theorem OkW.t (h : OkW Γ e c) : OkT Γ e c := fun σ ρ κ s H Q hr sl p pins s0 I => h _ σ ρ κ s H Q hr sl p pins s0 I
theorem okw_1 {op : BoolOp} (h : OkT Γ e c) : OkW Γ (.BoolOp op [e] pos) c := by
  intro whole σ ρ κ s H Q hr sl p pins s0 I
  have ptE : PT Γ.X e (TWt Γ.X e) := ptW
  cases op with
  | And => exact (pw_and1 (pos := pos) ptE).run whole pins s0 σ H Q I (h σ ρ κ s H Q hr sl p)
  | Or => exact (pw_or1 (pos := pos) ptE).run whole pins s0 σ H Q I (h σ ρ κ s H Q hr sl p)
def TWw (X : Cx) (e : Expr) : TT := fun σ H Q => ∀ whole pins s, Inv X pins σ H s → wpAny (model X.prog X.w) X.A (isTrue e X.env whole) (TP X pins σ Q) X.xe s
theorem pwW {X : Cx} {e : Expr} : PW X e (TWw X e) := ⟨fun whole pins s σ H Q I h => h whole pins s I⟩
theorem OkT.use (h : OkT Γ e c) {γ δ : Type} {R2 : RelT δ γ} {Q2 : δ → Hp → Prop} {σ : St} {ρ : Env} {κ : Gh} {s : Hs} {H : Hp} {Q : Bool → Hp → Prop} {f : D → Hs → Res γ} (hr : HR Γ.X.K Γ.S κ s H) (sl : Slots Γ.X.K κ s.nx H σ ρ)
    (p : Pre Γ.X.K Γ.S R2 Q2 (Γ.E σ) κ s.nx H ((evE Γ.P Γ.T c ρ s).bind f)) (hf : ∀ d s1, (∀ b, d ≠ .bool b) → f d s1 = .stuck)
    (k : ∀ b s1 κ1 H1, Tr κ s.nx H κ1 s1.nx H1 → HR Γ.X.K Γ.S κ1 s1 H1 → Slots Γ.X.K κ1 s1.nx H1 σ ρ → Pre Γ.X.K Γ.S R2 Q2 (Γ.E σ) κ1 s1.nx H1 (f (.bool b) s1) → Q b H1) : TWt Γ.X e σ H Q :=
  h σ ρ κ s H Q hr sl (Pre.bind p fun d s1 κ1 H1 v _ t h1 r p1 => by
    cases d with
    | bool b => exact ⟨b, bl_of r, k b s1 κ1 H1 t h1 (sl.tr t) p1⟩
    | _ => rw [hf _ _ (fun b e => by cases e)] at p1; exact p1.elim)
theorem okw_and (ha : OkT Γ a ca) (hb : OkW Γ (.BoolOp .And (b :: rest) pos) cb) : OkW Γ (.BoolOp .And (a :: b :: rest) pos) (.and ca cb) := by
  intro whole σ ρ κ s H Q hr sl p pins s0 I
  unfold evE at p
  refine (pw_and ptW pwW).run whole pins s0 σ H Q I ?_
  refine ha.use hr sl p (fun d s1 hd => by cases d <;> first | rfl | exact absurd rfl (hd _)) fun x s1 κ1 H1 t h1 sl1 p1 => ?_
  cases x with
  | true =>
    rw [if_pos rfl]
    exact fun whole pins s0 I => hb whole σ ρ κ1 s1 H1 Q h1 sl1 p1 pins s0 I
  | false =>
    rw [if_neg (by decide)]
    obtain ⟨b, e, q⟩ := p1.give h1 .bl
    cases e; exact q
theorem okw_or (ha : OkT Γ a ca) (hb : OkW Γ (.BoolOp .Or (b :: rest) pos) cb) : OkW Γ (.BoolOp .Or (a :: b :: rest) pos) (.or ca cb) := by
  intro whole σ ρ κ s H Q hr sl p pins s0 I
  unfold evE at p
  refine (pw_or ptW pwW).run whole pins s0 σ H Q I ?_
  refine ha.use hr sl p (fun d s1 hd => by cases d <;> first | rfl | exact absurd rfl (hd _)) fun x s1 κ1 H1 t h1 sl1 p1 => ?_
  cases x with
  | false =>
    rw [if_neg (by decide)]
    exact fun whole pins s0 I => hb whole σ ρ κ1 s1 H1 Q h1 sl1 p1 pins s0 I
  | true =>
    rw [if_pos rfl]
    obtain ⟨b, e, q⟩ := p1.give h1 .bl
    cases e; exact q
theorem ok_ife {t : Expr} {ct : C} (ht : OkT Γ t ct) (ha : OkE Γ a ca) (hb : OkE Γ b cb) : OkE Γ (.IfExp t a b pos) (.ife ct ca cb) := by
  intro σ ρ κ s H Q hr sl p
  unfold evE at p
  refine twE (pe_ifExp ptW peW peW) ?_
  refine ht.use hr sl p (fun d s1 hd => by cases d <;> first | rfl | exact absurd rfl (hd _)) fun x s1 κ1 H1 t h1 sl1 p1 => ?_
  cases x with
  | true =>
    rw [if_pos rfl]
    exact ha σ ρ κ1 s1 H1 Q h1 sl1 p1
  | false =>
    rw [if_neg (by decide)]
    exact hb σ ρ κ1 s1 H1 Q h1 sl1 p1
theorem ok_neg (ha : OkE Γ a ca) : OkE Γ (.UnaryOp .USub a pos) (.neg ca) := by
  intro σ ρ κ s H Q hr sl p
  unfold evE at p
  refine twE (pe_un un_neg peW) ?_
  refine ha.use hr sl p fun d s1 κ1 H1 v t h1 sl1 r p1 => ?_
  cases d with
  | int x =>
    obtain rfl := int_of r
    exact ⟨x, rfl, p1.give h1 .int⟩
  | _ => exact p1.elim

/-! #### argument lists -/
theorem oka_nil : OkA Γ [] .nil := by
  intro σ ρ κ s H Q hr sl p
  exact twA pa_nil (p.give hr .nil)
theorem oka_cons (ha : OkE Γ e c) (hb : OkA Γ es cb) (hs : starEach (e :: es) Γ.X.env = (false, eval e Γ.X.env) :: starEach es Γ.X.env) : OkA Γ (e :: es) (.cons c cb) := by
  intro σ ρ κ s H Q hr sl p
  unfold evA at p
  refine twA (pa_cons peW paW hs) ?_
  refine ha.use hr sl p fun d s1 κ1 H1 v t1 h1 sl1 r p1 => ?_
  refine hb.use h1 sl1 p1 fun ds s2 κ2 H2 vs t2 h2 sl2 rs p2 => ?_
  exact p2.give h2 (.cons (r.tr t2) rs)

/-! #### displays -/
theorem small_le {n : Nat} (h : small n = true) : n ≤ sizeLine := by
  have h' : n < 1000000 := by
    unfold small at h
    exact Nat.blt_eq.mp h
  exact Nat.le_of_lt (Nat.lt_trans h' (by decide))
theorem small_lt {n : Nat} (h : small n = true) : n < sizeLine := by
  have h' : n < 1000000 := by
    unfold small at h
    exact Nat.blt_eq.mp h
  exact Nat.lt_trans h' (by decide)
theorem ok_tup {x1 : Nat} (ha : OkA Γ es ca) : OkE Γ (.Tuple es x1 pos) (.tup ca) := by
  intro σ ρ κ s H Q hr sl p
  unfold evE at p
  refine twE (pe_tup paW) ?_
  refine ha.use hr sl p fun ds s1 κ1 H1 vs t1 h1 sl1 rs p1 => ?_
  split at p1
  · rename_i hz
    refine ⟨by rw [rs.len]; exact small_le hz, fun q hq => ?_⟩
    have tn := h1.trn (o := .tup vs) hq
    exact p1 κ1 _ _ tn (h1.new hq) (.tup ⟨upd_same, h1.fresh hq⟩ (rs.tr tn))
  · exact p1.elim
theorem Tr.none' {K : PySem.W.Frag} {S : Sig} {κ κ' : Gh} {s s' : Hs} {H H' : Hp} {q : Addr} (t : Tr κ s.nx H κ' s'.nx H') (h0 : HR K S κ s H) (h : HR K S κ' s' H') (hq : H' q = none) : HN H q := by
  intro o e hz
  by_cases hR : q ∈ κ.R
  · rw [t.rk q hR, e] at hq; cases hq
  by_cases hn : ∀ n, n < s.nx → κ.f n ≠ q
  · have := (t.kp q o e hz ⟨hn, hR⟩).1
    rw [hq] at this; cases this
  · have ⟨n, hn1⟩ : ∃ n, ¬ (n < s.nx → κ.f n ≠ q) := Classical.not_forall.mp hn
    have ⟨hn2, hn3⟩ := Classical.not_imp.mp hn1
    have e2 : κ.f n = q := Classical.not_not.mp hn3
    obtain ⟨u, hu⟩ := h.some (Nat.lt_of_lt_of_le hn2 t.le)
    rw [t.ag n hn2, e2, hq] at hu; cases hu
-- from being built on: as a tree, as a cell
mutual
theorem Rep.unhold {K : PySem.W.Frag} {κ : Gh} {nx : Nat} {H : Hp} {p : Addr} : ∀ {v : V} {d : D}, Rep K (κ.hold p) nx H v d → Rep K κ nx H v d
  | _, _, .non => .non
  | _, _, .bl => .bl
  | _, _, .int => .int
  | _, _, .str => .str
  | _, _, .lst h r => .lst ⟨h.1, h.2.1, fun z => h.2.2 (List.mem_cons_of_mem _ z)⟩ (Reps.unhold r)
  | _, _, .frz h r => .frz (h.elim (fun x => .inl ⟨x.1, x.2.1, fun z => x.2.2 (List.mem_cons_of_mem _ z)⟩) .inr) (Reps.unhold r)
  | _, _, .tup h r => .tup ⟨h.1, h.2.1, fun z => h.2.2 (List.mem_cons_of_mem _ z)⟩ (Reps.unhold r)
  | _, _, .cel h e => .cel h e
  | _, _, .rng h => .rng ⟨h.1, h.2.1, fun z => h.2.2 (List.mem_cons_of_mem _ z)⟩
theorem Reps.unhold {K : PySem.W.Frag} {κ : Gh} {nx : Nat} {H : Hp} {p : Addr} : ∀ {vs : List V} {ds : List D}, Reps K (κ.hold p) nx H vs ds → Reps K κ nx H vs ds
  | _, _, .nil => .nil
  | _, _, .cons h r => .cons (Rep.unhold h) (Reps.unhold r)
end
theorem NotCell.cell {κ : Gh} {nx : Nat} {p a : Addr} (h : NotCell (κ.hold p) nx a) : NotCell (κ.add nx p) (nx + 1) a :=
  ⟨fun n hn e => by
    by_cases q : n = nx
    · rw [q, Gh.add_at] at e
      exact h.2 (by rw [← e]; exact List.mem_cons_self)
    · rw [Gh.add_ne q] at e
      exact h.1 n (by omega) e, fun z => h.2 (List.mem_cons_of_mem _ z)⟩
mutual
theorem Rep.cell {K : PySem.W.Frag} {κ : Gh} {nx : Nat} {H : Hp} {p : Addr} : ∀ {v : V} {d : D}, Rep K (κ.hold p) nx H v d → Rep K (κ.add nx p) (nx + 1) H v d
  | _, _, .non => .non
  | _, _, .bl => .bl
  | _, _, .int => .int
  | _, _, .str => .str
  | _, _, .lst h r => .lst ⟨h.1, h.2.cell⟩ (Reps.cell r)
  | _, _, .frz h r => .frz (h.elim (fun x => .inl ⟨x.1, x.2.cell⟩) .inr) (Reps.cell r)
  | _, _, .tup h r => .tup ⟨h.1, h.2.cell⟩ (Reps.cell r)
  | _, _, .cel h e => .cel (Nat.lt_succ_of_lt h) (e.trans (Gh.add_ne (Nat.ne_of_lt h)).symm)
  | _, _, .rng h => .rng ⟨h.1, h.2.cell⟩
theorem Reps.cell {K : PySem.W.Frag} {κ : Gh} {nx : Nat} {H : Hp} {p : Addr} : ∀ {vs : List V} {ds : List D}, Reps K (κ.hold p) nx H vs ds → Reps K (κ.add nx p) (nx + 1) H vs ds
  | _, _, .nil => .nil
  | _, _, .cons h r => .cons (Rep.cell h) (Reps.cell r)
end
theorem KVs.cell {K : PySem.W.Frag} {κ : Gh} {nx : Nat} {H : Hp} {p : Addr} : ∀ {xs : List (Key × V)} {ds : List (D × D)}, KVs K (κ.hold p) nx H xs ds → KVs K (κ.add nx p) (nx + 1) H xs ds
  | _, _, .nil => .nil
  | _, _, .cons e r q => .cons e r.cell (KVs.cell q)
theorem TVs.cell {K : PySem.W.Frag} {κ : Gh} {nx : Nat} {H : Hp} {p : Addr} : ∀ {xs : List (List Key × V)} {ds : List (D × D)}, TVs K (κ.hold p) nx H xs ds → TVs K (κ.add nx p) (nx + 1) H xs ds
  | _, _, .nil => .nil
  | _, _, .cons e r q => .cons e r.cell (TVs.cell q)
theorem FVs.cell {K : PySem.W.Frag} {S : Sig} {κ : Gh} {nx : Nat} {H : Hp} {p : Addr} {k : Nat} : ∀ {xs : List (Str × V)} {ds : List (Nat × D)}, FVs K S (κ.hold p) nx H k xs ds → FVs K S (κ.add nx p) (nx + 1) H k xs ds
  | _, _, .nil => .nil
  | _, _, .cons a b r q => .cons a b r.cell (FVs.cell q)
theorem CellOk.cell {K : PySem.W.Frag} {S : Sig} {κ : Gh} {nx : Nat} {H : Hp} {p a : Addr} {c : Cell} (h : CellOk K S (κ.hold p) nx H a c) (ne : a ≠ p) : CellOk K S (κ.add nx p) (nx + 1) H a c := by
  cases c with
  | no => exact h
  | lst ds =>
    obtain ⟨vs, h1, h2⟩ := h
    exact ⟨vs, h1, h2.cell⟩
  | dic tk kvs =>
    rcases h with ⟨ht, vs, h1, h2⟩ | ⟨ht, vs, h1, h2⟩
    · exact .inl ⟨ht, vs, h1, h2.cell⟩
    · exact .inr ⟨ht, vs, h1, h2.cell⟩
  | dik kvs =>
    obtain ⟨h0, o, vs, h1, h2⟩ := h
    exact ⟨(List.mem_cons.mp h0).resolve_left ne, o, vs, h1, h2.cell⟩
  | ins C fs =>
    obtain ⟨dx, xs, h1, h3, h4, h2⟩ := h
    exact ⟨dx, xs, h1, h3, h4, h2.cell⟩
-- held from a new object on: what was there avoids it
theorem rd_new {H : Hp} {p a : Addr} {o u : HO} (hp : H p = none) (h : Rd H a u) : Rd (upd H p o) a u ∧ a ≠ p := by
  rcases h with h | ⟨x, h⟩
  · have n := ne_of_none h hp
    exact ⟨.inl (by rw [upd_ne n]; exact h), n⟩
  · have n := ne_of_none h hp
    exact ⟨.inr ⟨x, by rw [upd_ne n]; exact h⟩, n⟩
theorem NotCell.hold {κ : Gh} {nx : Nat} {p a : Addr} (h : NotCell κ nx a) (n : a ≠ p) : NotCell (κ.hold p) nx a :=
  ⟨h.1, fun z => (List.mem_cons.mp z).elim (fun e => n e) h.2⟩
mutual
theorem Rep.hold {K : PySem.W.Frag} {κ : Gh} {nx : Nat} {H : Hp} {p : Addr} {o : HO} (hp : H p = none) : ∀ {v : V} {d : D}, Rep K κ nx H v d → Rep K (κ.hold p) nx (upd H p o) v d
  | _, _, .non => .non
  | _, _, .bl => .bl
  | _, _, .int => .int
  | _, _, .str => .str
  | _, _, .lst h r => .lst ⟨by rw [upd_ne (ne_of_none h.1 hp)]; exact h.1, h.2.hold (ne_of_none h.1 hp)⟩ (Reps.hold hp r)
  | _, _, .frz h r => .frz (h.elim (fun x => .inl ⟨(rd_new hp x.1).1, x.2.hold (rd_new (o := o) hp x.1).2⟩) .inr) (Reps.hold hp r)
  | _, _, .tup h r => .tup ⟨by rw [upd_ne (ne_of_none h.1 hp)]; exact h.1, h.2.hold (ne_of_none h.1 hp)⟩ (Reps.hold hp r)
  | _, _, .cel h e => .cel h e
  | _, _, .rng h => .rng ⟨by rw [upd_ne (ne_of_none h.1 hp)]; exact h.1, h.2.hold (ne_of_none h.1 hp)⟩
theorem Reps.hold {K : PySem.W.Frag} {κ : Gh} {nx : Nat} {H : Hp} {p : Addr} {o : HO} (hp : H p = none) : ∀ {vs : List V} {ds : List D}, Reps K κ nx H vs ds → Reps K (κ.hold p) nx (upd H p o) vs ds
  | _, _, .nil => .nil
  | _, _, .cons h r => .cons (Rep.hold hp h) (Reps.hold hp r)
end
theorem KVs.hold {K : PySem.W.Frag} {κ : Gh} {nx : Nat} {H : Hp} {p : Addr} {o : HO} (hp : H p = none) : ∀ {xs : List (Key × V)} {ds : List (D × D)}, KVs K κ nx H xs ds → KVs K (κ.hold p) nx (upd H p o) xs ds
  | _, _, .nil => .nil
  | _, _, .cons e r q => .cons e (r.hold hp) (KVs.hold hp q)
theorem TVs.hold {K : PySem.W.Frag} {κ : Gh} {nx : Nat} {H : Hp} {p : Addr} {o : HO} (hp : H p = none) : ∀ {xs : List (List Key × V)} {ds : List (D × D)}, TVs K κ nx H xs ds → TVs K (κ.hold p) nx (upd H p o) xs ds
  | _, _, .nil => .nil
  | _, _, .cons e r q => .cons e (r.hold hp) (TVs.hold hp q)
theorem FVs.hold {K : PySem.W.Frag} {S : Sig} {κ : Gh} {nx : Nat} {H : Hp} {p : Addr} {o : HO} (hp : H p = none) {k : Nat} : ∀ {xs : List (Str × V)} {ds : List (Nat × D)}, FVs K S κ nx H k xs ds → FVs K S (κ.hold p) nx (upd H p o) k xs ds
  | _, _, .nil => .nil
  | _, _, .cons a b r q => .cons a b (r.hold hp) (FVs.hold hp q)
theorem CellOk.hold {K : PySem.W.Frag} {S : Sig} {κ : Gh} {nx : Nat} {H : Hp} {p a : Addr} {o : HO} (hp : H p = none) {c : Cell} (h : CellOk K S κ nx H a c) : CellOk K S (κ.hold p) nx (upd H p o) a c := by
  cases c with
  | no => exact h
  | lst ds =>
    obtain ⟨vs, h1, h2⟩ := h
    exact ⟨vs, by rw [upd_ne (ne_of_none h1 hp)]; exact h1, h2.hold hp⟩
  | dic tk kvs =>
    rcases h with ⟨ht, vs, h1, h2⟩ | ⟨ht, vs, h1, h2⟩
    · exact .inl ⟨ht, vs, by rw [upd_ne (ne_of_none h1 hp)]; exact h1, h2.hold hp⟩
    · exact .inr ⟨ht, vs, by rw [upd_ne (ne_of_none h1 hp)]; exact h1, h2.hold hp⟩
  | dik kvs =>
    obtain ⟨h0, o, vs, h1, h2⟩ := h
    exact ⟨List.mem_cons_of_mem _ h0, o, vs, by rw [upd_ne (ne_of_none h1 hp)]; exact h1, h2.hold hp⟩
  | ins C fs =>
    obtain ⟨dx, xs, h1, h3, h4, h2⟩ := h
    exact ⟨dx, xs, by rw [upd_ne (ne_of_none h1 hp)]; exact h1, h3, h4, h2.hold hp⟩
theorem HR.hold {K : PySem.W.Frag} {S : Sig} {κ : Gh} {s : Hs} {H : Hp} {p : Addr} {xs : List V} (h : HR K S κ s H) (hp : H p = none) : HR K S (κ.hold p) s (upd H p (.lst xs)) :=
  ⟨fun n hn => (h.ok n hn).hold hp, h.inj, fun r hr => (List.mem_cons.mp hr).elim (fun e => by subst e; exact .inl ⟨⟨_, upd_same⟩, (h.fresh hp).1⟩) fun hr => by rw [upd_ne (h.ne_res hp hr)]; exact h.res r hr, tabs_new h.tb hp⟩
theorem repN_new {K : PySem.W.Frag} {S : Sig} {κ : Gh} {s : Hs} {H H0 : Hp} {p : Addr} {vs : List V} {ds : List D} (h : HR K S κ s H) (hp : H p = none) (r : Reps K κ s.nx H vs ds) (h0 : HN H0 p) : RepN K S H0 κ s (upd H p (.lst vs)) (.ref p) ds :=
  ⟨p, vs, rfl, upd_same, h0, (h.fresh hp).1, (h.fresh hp).2, r.hold hp, h.hold hp⟩
theorem okn_lst (ha : OkA Γ es ca) : OkN Γ (.List es pos) (.lst ca) := by
  intro σ ρ κ s H Q hr sl p
  unfold evN at p
  refine twE (pe_lst paW) ?_
  refine ha.use hr sl p fun ds s1 κ1 H1 vs t1 h1 sl1 rs p1 => ?_
  split at p1
  · rename_i hz
    refine ⟨by rw [rs.len]; exact small_le hz, fun q hq => ?_⟩
    exact p1 κ1 _ _ (h1.trn hq) (h1.new hq) (repN_new h1 hq rs (t1.none' hr h1 hq))
  · exact p1.elim
def ERd (Γ : Set0) (t : TE) (c : C) : Prop := ∀ σ ρ κ s H Q, HR Γ.X.K Γ.S κ s H → Slots Γ.X.K κ s.nx H σ ρ →
  Pre Γ.X.K Γ.S (RepD Γ.X.K) Q (Γ.E σ) κ s.nx H (evE Γ.P Γ.T c ρ s) → t σ H Q
def NRd (Γ : Set0) (t : TE) (c : C) : Prop := ∀ σ ρ κ s H Q, HR Γ.X.K Γ.S κ s H → Slots Γ.X.K κ s.nx H σ ρ →
  Pre Γ.X.K Γ.S (RepN Γ.X.K Γ.S H) Q (Γ.E σ) κ s.nx H (evN Γ.P Γ.T c ρ s) → t σ H Q
/-- a new list as it is, or as a cell -/
theorem newT_rd {t : TE} (h : NRd Γ t c) : ERd Γ t (.newT c) := by
  intro σ ρ κ s H Q hr sl p
  unfold evE at p
  refine h σ ρ κ s H Q hr sl (Pre.bind p fun d s1 κ1 H1 v _ t h1 r p1 => ?_)
  obtain ⟨q, vs, rfl, e1, _, nc, nr, rs, _⟩ := r
  exact p1.give h1 (.lst ⟨e1, nc, nr⟩ rs.unhold)
theorem newC_rd {t : TE} (h : NRd Γ t c) : ERd Γ t (.newC c) := by
  intro σ ρ κ s H Q hr sl p
  unfold evE at p
  cases q0 : evN Γ.P Γ.T c ρ s with
  | stuck => rw [q0] at p; exact p.elim
  | exc x s1 =>
    rw [q0] at p
    exact h σ ρ κ s H Q hr sl (by rw [q0]; exact p)
  | ok d s1 =>
    rw [q0] at p
    refine h σ ρ κ s H Q hr sl ?_
    rw [q0]
    intro κ1 H1 v t h1 r
    obtain ⟨q, vs, rfl, e1, hq0, nc, nr, rs, h2⟩ := r
    have p' : Pre Γ.X.K Γ.S (RepD Γ.X.K) Q (Γ.E σ) κ s.nx H (.ok (cel s1.nx) (s1.push (.lst d))) := p
    have tt : Tr κ s.nx H (κ1.add s1.nx q) (s1.nx + 1) H1 := by
      refine ⟨Nat.le_trans t.le (Nat.le_succ _), fun n hn => ?_, t.rs, t.rk, fun b o hb hz hnb => ?_⟩
      · rw [Gh.add_ne (Nat.ne_of_lt (Nat.lt_of_lt_of_le hn t.le))]
        exact t.ag n hn
      · obtain ⟨k1, k2⟩ := t.kp b o hb hz hnb
        refine ⟨k1, fun m hm e => ?_, k2.2⟩
        by_cases z : m = s1.nx
        · rw [z, Gh.add_at] at e
          rw [← e] at hb
          exact hq0 o hb hz
        · rw [Gh.add_ne z] at e
          exact k2.1 m (by omega) e
    refine p' (κ1.add s1.nx q) H1 _ tt ⟨fun n hn => ?_, fun m n hm hn e => ?_, fun r hr' => ?_, h1.tb⟩ (.cel (Nat.lt_succ_self _) Gh.add_at.symm)
    · by_cases z : n = s1.nx
      · subst z
        rw [Gh.add_at]
        show CellOk _ _ _ _ _ _ (if s1.nx = s1.nx then _ else _)
        rw [if_pos rfl]
        exact ⟨vs, e1, rs.cell⟩
      · have hn' : n < s1.nx := by have : n < s1.nx + 1 := hn; omega
        rw [Gh.add_ne z]
        show CellOk _ _ _ _ _ _ (if n = s1.nx then _ else _)
        rw [if_neg z]
        exact (h2.ok n hn').cell fun e => nc n hn' e
    · have hm' : m < s1.nx + 1 := hm
      have hn' : n < s1.nx + 1 := hn
      by_cases z : m = s1.nx
      · by_cases z2 : n = s1.nx
        · omega
        · rw [z, Gh.add_at, Gh.add_ne z2] at e
          exact absurd e.symm (nc n (by omega))
      · by_cases z2 : n = s1.nx
        · rw [z2, Gh.add_at, Gh.add_ne z] at e
          exact absurd e (nc m (by omega))
        · rw [Gh.add_ne z, Gh.add_ne z2] at e
          exact h1.inj m n (by omega) (by omega) e
    · refine (h1.res r hr').imp (fun q0 => ⟨q0.1, fun n hn e => ?_⟩) id
      have hn' : n < s1.nx + 1 := hn
      by_cases z : n = s1.nx
      · rw [z, Gh.add_at] at e
        exact nr (by rw [e]; exact hr')
      · rw [Gh.add_ne z] at e
        exact q0.2 n (by omega) e
theorem ok_newT (h : OkN Γ e c) : OkE Γ e (.newT c) := newT_rd h
theorem ok_newC (h : OkN Γ e c) : OkE Γ e (.newC c) := newC_rd h
end
end Ev

set_option Elab.async false
set_option linter.all false
set_option maxRecDepth 100000
set_option maxHeartbeats 4000000
/-! enumerate of a tuple -/
namespace EnT
open PySem PySem.Spec PyProof.Rows L2
theorem new_mk {v : Value} {o : Obj} {Hh : Heap → Prop} (B : Begins v o Hh) :
    Meets (Builtin.«enumerate.__new__» ⟨[.type "enumerate", v], []⟩) (fun _ R s => Hh s.heap ∧ R (.ok (.ret (.ref (s.heap.push o).objs.size)))
      { s with heap := (s.heap.push o).push { cls := .type "enumerate", data := .fields #[.none, .bool false, .ref s.heap.objs.size, rawInt 0, .none, .none] } }) := by
  refine .of_wp fun prg wd Ar R s z => ?_
  obtain ⟨hp, g, d, tk, os⟩ := s
  obtain ⟨z1, z2⟩ := z
  have zs := sub_enumerate
  have it0 : ∀ {A' : Around} {E : Value → Shared → Prop} {Q : Value → Shared → Prop}, Q (.ref hp.objs.size) ⟨hp.push o, g, d, tk, os⟩ → wpAny (model prg wd) A' (pyIter v) Q E ⟨hp, g, d, tk, os⟩ := fun y => B.iter prg wd _ _ _ _ z1 y
  wp_walk using it0
  refine wpAny_stack_any fun _ => wpAny_pure ?_
  split
  · rename_i cl _ _ _ _ _
    cases (cl == Value.type "enumerate") <;> (wp_walk using it0; exact ⟨_, rfl, z2⟩)
  · wp_walk using it0
    exact ⟨_, rfl, z2⟩
theorem call_mk {prg : Program} {wd : World} {Ar : Around} {E : Value → Shared → Prop} {s : Shared} {v : Value} {o : Obj} {Hh : Heap → Prop} {Q : Value → Shared → Prop} (B : Begins v o Hh) (z1 : Hh s.heap)
    (z : ∀ g', IsEnum g' (s.heap.objs.size + 1) s.heap.objs.size 0 .none → g'.get? s.heap.objs.size = some o → (∀ b ob, s.heap.get? b = some ob → g'.get? b = some ob) → Q (.ref (s.heap.objs.size + 1)) { s with heap := g' }) :
    wpAny (model prg wd) Ar (call (.type "enumerate") [v]) Q E s := by
  refine callType_new F.called_enumerate (by decide) (F.typeCall_enumerate_1 _) (F.newCall_enumerate_1 _) (fun ob => F.args_object_init_2 ob _) F.entry_enumerate_new (new_mk B) ⟨z1, ?_⟩
  have sz : (s.heap.push o).objs.size = s.heap.objs.size + 1 := Heap.size_push ..
  show _ ∧ _
  rw [sz]
  have ie : IsEnum ((s.heap.push o).push { cls := .type "enumerate", data := .fields #[.none, .bool false, .ref s.heap.objs.size, rawInt 0, .none, .none] }) (s.heap.objs.size + 1) s.heap.objs.size 0 .none := by
    have y := Heap.get?_push_size (s.heap.push o) (o := { cls := .type "enumerate", data := .fields #[.none, .bool false, .ref s.heap.objs.size, rawInt 0, .none, .none] }) rfl
    rwa [sz] at y
  exact ⟨⟨_, ie, rfl⟩, z _ ie (Heap.get?_push_of_some _ (Heap.get?_push_size _ B.free)) fun b ob y => Heap.get?_push_of_some _ (Heap.get?_push_of_some _ y)⟩
/-- the tuple at a, each item in a new pair -/
def Ien (K : PySem.W.Frag) (a : Addr) : It where
  go := fun i H => ∃ (xs : List V) (x : V), SqT K H a xs ∧ xs[i]? = some x
  yld := fun i H v H' => ∃ t x, v = .ref t ∧ H t = none ∧ H' = upd H t (.tup [.int (i : Nat), x]) ∧ ∀ ys, SqT K H a ys → ys[i]? = some x
  stop := fun i H => ∃ ys : List V, SqT K H a ys ∧ ys.length ≤ i
theorem turn_ent {P : Program} {w : World} {K : PySem.W.Frag} {elts : List Expr} {kk : Nat} {tpos : Pos} (a e it : Addr) :
    Turn P w K (.Tuple elts kk tpos) (Ien K a) [e, it] e (fun i h => ((∃ old, IsEnum h e it ((i : Nat) : Int) old) ∧ h.IsTupleIter it a i) ∧ e ≠ it) := by
  have two : ∀ {b : Addr}, b ∈ [e, it] → b = e ∨ b = it := fun hb => by simpa using hb
  refine ⟨by simp, fun i h st b hb => ?_, fun i h h' st k => ?_, ?_, ?_, ?_⟩
  · obtain ⟨⟨⟨old, z1⟩, o, z2, z3, z4⟩, _⟩ := st
    rcases two hb with z | z
    · refine ⟨_, by rw [z]; exact z1, ?_⟩
      intro v q
      cases q
    · exact ⟨o, by rw [z]; exact z2, fun v q => by rw [z4] at q; cases q⟩
  · obtain ⟨⟨⟨old, z1⟩, z2⟩, z3⟩ := st
    exact ⟨⟨⟨old, k e (by simp) _ z1⟩, z2.at fun o q => k it (by simp) o q⟩, z3⟩
  · intro X hP hw hK hc i pins s σ H E I hf st hg
    subst hP hw hK
    obtain ⟨⟨⟨old, z1⟩, z2⟩, z3⟩ := st
    obtain ⟨xs, x, hq, hx⟩ := hg
    obtain ⟨its, rv, pt, hz⟩ := I.tuple hq
    obtain ⟨u0, hu0, ru0⟩ := rv.get hx
    have hu : its.toArray[i]? = some u0 := by simpa using hu0
    have lt1 : i < its.toArray.size := (Array.getElem?_eq_some_iff.mp hu).1
    have nai : a ≠ it := fun z => by
      obtain ⟨o1, y1, y2, _⟩ := z2
      obtain ⟨o2, y3, y4, _⟩ := pt
      rw [z, y1] at y3
      cases y3
      rw [y2] at y4
      exact absurd y4 (by decide)
    have nea : e ∉ [it, a] := fun z => by
      rcases (show e = it ∨ e = a by simpa using z) with y | y
      · exact z3 y
      · obtain ⟨o2, y3, y4, _⟩ := pt
        rw [← y, z1] at y3
        cases y3
        have y5 : Value.type "enumerate" = Value.type "tuple" := y4
        exact absurd y5 (by decide)
    have el : e < s.heap.objs.size := Heap.lt_size z1
    have il : it < s.heap.objs.size := by obtain ⟨_, q, _⟩ := z2; exact Heap.lt_size q
    have DD := Draws.tuple (prog := X.prog) (w := X.w) (A := X.A.in1) (show X.A.in1.handled = none from I.ok.hd hc) it a nai its.toArray
    refine wpAny_pyNext_enum_itemD DD z1 ⟨z2, pt⟩ lt1 z3 nea fun u h1 tk hu1 ho hst hT hsz kp => ?_
    have eu : u0 = u := Option.some.inj (hu.symm.trans hu1)
    subst eu
    refine ⟨_, rfl, wpAny_letOwnedTupleGo_enum (s := { s with heap := h1, toks := tk + 1 }) ho fun h2 he2 sb => ?_⟩
    have hT2 : h2.get? s.heap.objs.size = some { cls := .type "tuple", data := .seq #[.int i tk, u0] } := (sb.2 _ (Nat.ne_of_gt el)).trans hT
    have ok2 : ObjOk X.prog X.w (upd H s.heap.objs.size (.tup [.int (i : Nat), x])) h2 s.heap.objs.size (.tup [.int (i : Nat), x]) := ⟨by show 2 ≤ sizeLine; decide, [.int i tk, u0], .cons ⟨_, rfl⟩ (.cons ru0 .nil), ⟨_, hT2, rfl, _, rfl⟩⟩
    have kp2 : ∀ b ob, b ∉ [e, it] → s.heap.get? b = some ob → h2.get? b = some ob := fun b ob nb q => (sb.2 b fun z => nb (by simp [z])).trans (kp b ob (fun z => nb (by simp [z])) (fun z => nb (by simp [z])) q)
    have I1 : Inv X pins σ (upd H s.heap.objs.size (.tup [.int (i : Nat), x])) { s with heap := h2, toks := tk + 1 } := I.turnedNew (ch := [e, it]) kp2 hf (Nat.le_refl _) ok2
    have fr := I.hok.fresh (Nat.le_refl s.heap.objs.size)
    refine ⟨.ref s.heap.objs.size, _, I1, rfl, ⟨_, x, rfl, fr, rfl, fun ys hy => ?_⟩, ⟨⟨⟨u0, ?_⟩, hst.1.at fun o q => (sb.2 it (Ne.symm z3)).trans q⟩, z3⟩, fun b hb => ?_⟩
    · rw [I.tuple_inj hy hq]; exact hx
    · rw [show ((i + 1 : Nat) : Int) = (i : Int) + 1 by omega]; exact he2
    · have lb : b < s.heap.objs.size := by rcases two hb with z | z <;> rw [z] <;> assumption
      rw [upd_ne (Nat.ne_of_lt lb)]
      exact (hf b hb).1
  · intro X hP hw hK hc i pins s σ H E I hf st hg
    subst hP hw hK
    obtain ⟨⟨⟨old, z1⟩, z2⟩, z3⟩ := st
    obtain ⟨xs, hq, hx⟩ := hg
    obtain ⟨its, rv, pt, hz⟩ := I.tuple hq
    obtain ⟨f0, f1, f2, f3, f4, f5⟩ := hf it (by simp)
    have hl := rv.length
    have none_i : its.toArray[i]? = none := by simp; omega
    have DD : Draws X.prog X.w X.A.in1 it [it, a] 0 (fun _ _ => True) (fun j h => h.IsTupleIter it a (i + j) ∧ h.IsTuple a its.toArray) := by
      refine ⟨fun _ _ st => ?_, fun _ _ _ st hk => ?_, fun _ _ _ _ hi => absurd hi (Nat.not_lt_zero _), fun s Q E st hE => ?_⟩
      · obtain ⟨⟨o, y, _⟩, _⟩ := st; exact ⟨o, y⟩
      · exact ⟨st.1.at fun o y => hk it (by simp) o y, st.2.at fun o y => hk a (by simp) o y⟩
      · exact wpAny_nextOf_tuple_end (show X.A.in1.handled = none from I.ok.hd hc) st.1 st.2 none_i hE
    exact wpAny_pyNext_enum_endD DD z1 ⟨z2, pt⟩ fun h1 eb => ⟨rfl, I.turned (t' := s.toks) (fun b o hb y => eb b o hb y) f0 f1 f3 f4 f5⟩
  · intro Ar i s Q E st h
    obtain ⟨⟨⟨_, z1⟩, _⟩, _⟩ := st
    exact wpAny_pyIter_enum z1 h
/-- enumerate of a list or a tuple -/
def iEnA (K : PySem.W.Frag) (ta : TA) : TI := fun σ H R => ta σ H fun vs H1 => ∃ a xs, vs = [.ref a] ∧ ((SqL K H1 a xs ∧ R (Ite K a) H1) ∨ (SqT K H1 a xs ∧ R (Ien K a) H1))
theorem pi_enA {X : Cx} {e : Expr} {ta : TA} {p pos tpos : Pos} {elts : List Expr} {kk : Nat} (hg : Gl X "enumerate") (hm : X.mg "enumerate" = none) (ha : PA X [e] ta) (hs : starEach [e] X.env = [(false, eval e X.env)]) :
    PI X (.Tuple elts kk tpos) (.Call (.Name "enumerate" p) [e] [] pos) (iEnA X.K ta) := by
  refine ⟨fun pins s σ H R I h => ?_⟩
  refine Call_ (ld_blt I hg hm boot_enumerate (PyProof.Rows.callWith_type1 (thn (ha.run pos pins s σ H _ I h) ?_) hs rfl))
  rintro us s1 ⟨vs, H1, I1, r1, a, xs, rfl, q⟩
  have eu : us = [Value.ref a] := by
    cases r1 with
    | cons r rr =>
      cases rr
      cases r
      rfl
  subst eu
  have fp : ∀ b ∈ [s1.heap.objs.size + 1, s1.heap.objs.size], FpOk X pins H1 b := fun b hb => by
    have le : s1.heap.objs.size ≤ b := by
      rcases (show b = s1.heap.objs.size + 1 ∨ b = s1.heap.objs.size by simpa using hb) with z | z <;> omega
    exact I1.fpOk le (I1.hok.fresh le)
  rcases q with ⟨hq, q⟩ | ⟨hq, q⟩
  · obtain ⟨its, rv, pl, hz⟩ := I1.list hq
    refine call_mk (begins_list a its.toArray) pl.isList fun h' he hit hk => wpAny_pyIter_enum he ?_
    have I2 : Inv X pins σ H1 { s1 with heap := h' } := I1.kept (t' := s1.toks) hk
    have li : h'.IsListIter s1.heap.objs.size a 0 := ⟨_, hit, rfl, rfl⟩
    exact ⟨_, _, _, _, H1, rfl, I2, turn_enum a (s1.heap.objs.size + 1) s1.heap.objs.size, ⟨⟨.none, he⟩, li, Nat.succ_ne_self _⟩, fp, q⟩
  · obtain ⟨its, rv, pt, hz⟩ := I1.tuple hq
    refine call_mk (begins_tuple a its.toArray) pt fun h' he hit hk => wpAny_pyIter_enum he ?_
    have I2 : Inv X pins σ H1 { s1 with heap := h' } := I1.kept (t' := s1.toks) hk
    have li : h'.IsTupleIter s1.heap.objs.size a 0 := ⟨_, hit, rfl, rfl⟩
    exact ⟨_, _, _, _, H1, rfl, I2, turn_ent a (s1.heap.objs.size + 1) s1.heap.objs.size, ⟨⟨⟨.none, he⟩, li⟩, Nat.succ_ne_self _⟩, fp, q⟩
end EnT

set_option Elab.async false
set_option linter.all false
set_option maxRecDepth 100000
set_option maxHeartbeats 1000000
namespace Ev
open PySem PySem.Spec PyProof.Rows L2

/-! ### what is walked -/
theorem KVs.len {K : PySem.W.Frag} {κ : Gh} {nx : Nat} {H : Hp} : ∀ {xs : List (Key × V)} {ds : List (D × D)}, KVs K κ nx H xs ds → xs.length = ds.length
  | _, _, .nil => rfl
  | _, _, .cons _ _ q => by rw [List.length_cons, List.length_cons, KVs.len q]
theorem KVs.keyAt {K : PySem.W.Frag} {κ : Gh} {nx : Nat} {H : Hp} : ∀ {xs : List (Key × V)} {ds : List (D × D)} {i : Nat} {k : Key} {v : V} {d : D}, KVs K κ nx H xs ds → xs[i]? = some (k, v) → (ds.map Prod.fst)[i]? = some d → Rep K κ nx H (kV k) d
  | _, _, _, _, _, _, .nil, h, _ => by cases h
  | _, _, 0, _, _, _, .cons (kd := kd) e r q, h, g => by
    cases h
    cases g
    cases kd <;> first | (cases e; constructor) | cases e
  | _, _, i + 1, _, _, _, .cons e r q, h, g => KVs.keyAt q (i := i) h g
inductive Wk (K : PySem.W.Frag) (κ : Gh) (nx : Nat) (H : Hp) : It → List D → Prop
  | lst {a : Addr} {vs : List V} {ds : List D} : FxL κ nx H a vs → Reps K κ nx H vs ds → Wk K κ nx H (Itl K a) ds
  | tup {a : Addr} {vs : List V} {ds : List D} : FxT K κ nx H a vs → Reps K κ nx H vs ds → Wk K κ nx H (Itt K a) ds
  | rng {lo : Int} {n : Nat} : Wk K κ nx H (Itr lo n) ((List.range n).map fun (i : Nat) => .int (lo + i))
  | rngc {lo c : Int} {n : Nat} : Wk K κ nx H (Itc lo c n) ((List.range n).map fun (i : Nat) => .int (lo + (i : Nat) * c))
  | key {a : Addr} {o : Obj} {xs : List (Key × V)} {ds : List (D × D)} : a ∈ κ.R → H a = some (.frz o (.dK xs)) → KVs K κ nx H xs ds → Wk K κ nx H (Itk a o xs) (ds.map Prod.fst)
  | enm {a : Addr} {vs : List V} {ds : List D} : FxL κ nx H a vs → Reps K κ nx H vs ds → Wk K κ nx H (Ite K a) (enumL 0 ds)
  | ent {a : Addr} {vs : List V} {ds : List D} : FxT K κ nx H a vs → Reps K κ nx H vs ds → Wk K κ nx H (EnT.Ien K a) (enumL 0 ds)
  | zpl {a b : Addr} {vs ws : List V} {ds es : List D} : FxL κ nx H a vs → FxL κ nx H b ws → Reps K κ nx H vs ds → Reps K κ nx H ws es → Wk K κ nx H (Itz K a b) (zipL ds es)
  | zpt {a b : Addr} {vs ws : List V} {ds es : List D} : FxT K κ nx H a vs → FxT K κ nx H b ws → Reps K κ nx H vs ds → Reps K κ nx H ws es → Wk K κ nx H (RZ.ItzT K a b) (zipL ds es)
theorem enumL_get : ∀ (ds : List D) (n i : Nat) (d : D), (enumL n ds)[i]? = some d → ∃ e, ds[i]? = some e ∧ d = .tuple [.int ((n + i : Nat) : Int), e]
  | [], _, _, _, h => by cases h
  | e :: ds, n, 0, d, h => by
    have h : some (PyData.tuple [.int (n : Nat), e]) = some d := h
    cases h; exact ⟨e, rfl, rfl⟩
  | e :: ds, n, i + 1, d, h => by
    obtain ⟨f, h1, h2⟩ := enumL_get ds (n + 1) i d h
    exact ⟨f, h1, by rw [h2, Nat.add_right_comm n 1 i]; rfl⟩
theorem enumL_len : ∀ (ds : List D) (n : Nat), (enumL n ds).length = ds.length
  | [], _ => rfl
  | _ :: ds, n => congrArg (· + 1) (enumL_len ds (n + 1))
theorem zipL_get : ∀ (ds es : List D) (i : Nat) (d : D), (zipL ds es)[i]? = some d → ∃ e f, ds[i]? = some e ∧ es[i]? = some f ∧ d = .tuple [e, f]
  | [], es, i, d, h => by unfold zipL at h; cases h
  | _ :: _, [], i, d, h => by unfold zipL at h; cases h
  | e :: ds, f :: es, 0, d, h => by
    have h : some (PyData.tuple [e, f]) = some d := h
    cases h; exact ⟨e, f, rfl, rfl, rfl⟩
  | e :: ds, f :: es, i + 1, d, h => by
    obtain ⟨e', f', h1, h2, h3⟩ := zipL_get ds es i d h
    exact ⟨e', f', h1, h2, h3⟩
theorem zipL_len : ∀ (ds es : List D), ds.length ≤ (zipL ds es).length ∨ es.length ≤ (zipL ds es).length
  | [], _ => .inl (Nat.zero_le _)
  | _ :: _, [] => .inr (Nat.zero_le _)
  | _ :: ds, _ :: es => (zipL_len ds es).elim (fun h => .inl (Nat.succ_le_succ h)) (fun h => .inr (Nat.succ_le_succ h))
section
variable {K : PySem.W.Frag} {S : Sig} {κ κ' : Gh} {nx nx' : Nat} {s s' : Hs} {H H' : Hp} {J : It} {ds : List D} {p : Addr} {o : HO}
theorem Wk.tr (t : Tr κ nx H κ' nx' H') (w : Wk K κ nx H J ds) : Wk K κ' nx' H' J ds := by
  cases w with
  | lst h r => exact .lst (h.tr t) (r.tr t)
  | tup h r => exact .tup (h.tr t) (r.tr t)
  | rng => exact .rng
  | rngc => exact .rngc
  | key h0 h r => exact .key (by rw [t.rs]; exact h0) ((t.rk _ h0).trans h) (r.tr t)
  | enm h r => exact .enm (h.tr t) (r.tr t)
  | ent h r => exact .ent (h.tr t) (r.tr t)
  | zpl h h' r r' => exact .zpl (h.tr t) (h'.tr t) (r.tr t) (r'.tr t)
  | zpt h h' r r' => exact .zpt (h.tr t) (h'.tr t) (r.tr t) (r'.tr t)
theorem FxL.hold {a : Addr} {vs : List V} (hp : H p = none) (h : FxL κ nx H a vs) : FxL (κ.hold p) nx (upd H p o) a vs :=
  ⟨by rw [upd_ne (ne_of_none h.1 hp)]; exact h.1, h.2.hold (ne_of_none h.1 hp)⟩
theorem FxT.hold {a : Addr} {vs : List V} (hp : H p = none) (h : FxT K κ nx H a vs) : FxT K (κ.hold p) nx (upd H p o) a vs :=
  ⟨by rw [upd_ne (ne_of_none h.1 hp)]; exact h.1, h.2.hold (ne_of_none h.1 hp)⟩
theorem Wk.hold (hp : H p = none) (w : Wk K κ nx H J ds) : Wk K (κ.hold p) nx (upd H p o) J ds := by
  cases w with
  | lst h r => exact .lst (h.hold hp) (r.hold hp)
  | tup h r => exact .tup (h.hold hp) (r.hold hp)
  | rng => exact .rng
  | rngc => exact .rngc
  | key h0 h r => exact .key (List.mem_cons_of_mem _ h0) (by rw [upd_ne (ne_of_none h hp)]; exact h) (r.hold hp)
  | enm h r => exact .enm (h.hold hp) (r.hold hp)
  | ent h r => exact .ent (h.hold hp) (r.hold hp)
  | zpl h h' r r' => exact .zpl (h.hold hp) (h'.hold hp) (r.hold hp) (r'.hold hp)
  | zpt h h' r r' => exact .zpt (h.hold hp) (h'.hold hp) (r.hold hp) (r'.hold hp)
theorem Wk.stop (w : Wk K κ nx H J ds) : J.stop ds.length H := by
  cases w with
  | lst h r => exact ⟨_, h.sq, by rw [r.len]; exact Nat.le_refl _⟩
  | tup h r => exact ⟨_, h.sq, by rw [r.len]; exact Nat.le_refl _⟩
  | rng => show _ ≤ _; simp
  | rngc => show _ ≤ _; simp
  | key h0 h r => exact ⟨h, by rw [List.length_map, r.len]; exact Nat.le_refl _⟩
  | enm h r => exact ⟨_, h.sq, by rw [enumL_len, r.len]; exact Nat.le_refl _⟩
  | ent h r => exact ⟨_, h.sq, by rw [enumL_len, r.len]; exact Nat.le_refl _⟩
  | @zpl _ _ vs ws ds es h h' r r' => exact ⟨vs, ws, h.sq, h'.sq, by rw [r.len, r'.len]; exact zipL_len ds es⟩
  | @zpt _ _ vs ws ds es h h' r r' => exact ⟨vs, ws, h.sq, h'.sq, by rw [r.len, r'.len]; exact zipL_len ds es⟩
theorem Wk.go {i : Nat} {d : D} (w : Wk K κ nx H J ds) (hi : ds[i]? = some d) : J.go i H := by
  cases w with
  | lst h r => obtain ⟨v, h1, _⟩ := r.get hi; exact ⟨_, v, h.sq, h1⟩
  | tup h r => obtain ⟨v, h1, _⟩ := r.get hi; exact ⟨_, v, h.sq, h1⟩
  | rng => show _ < _; have := (List.getElem?_eq_some_iff.mp hi).1; simpa using this
  | rngc => show _ < _; have := (List.getElem?_eq_some_iff.mp hi).1; simpa using this
  | key h0 h r =>
    have := (List.getElem?_eq_some_iff.mp hi).1
    rw [List.length_map] at this
    exact ⟨h, by rw [r.len]; exact this⟩
  | enm h r =>
    obtain ⟨e, h1, _⟩ := enumL_get _ _ _ _ hi
    obtain ⟨v, h2, _⟩ := r.get h1
    exact ⟨_, v, h.sq, h2⟩
  | ent h r =>
    obtain ⟨e, h1, _⟩ := enumL_get _ _ _ _ hi
    obtain ⟨v, h2, _⟩ := r.get h1
    exact ⟨_, v, h.sq, h2⟩
  | zpl h h' r r' =>
    obtain ⟨e, f, h1, h2, _⟩ := zipL_get _ _ _ _ hi
    obtain ⟨v, h3, _⟩ := r.get h1
    obtain ⟨w, h4, _⟩ := r'.get h2
    exact ⟨_, _, v, w, h.sq, h'.sq, h3, h4⟩
  | zpt h h' r r' =>
    obtain ⟨e, f, h1, h2, _⟩ := zipL_get _ _ _ _ hi
    obtain ⟨v, h3, _⟩ := r.get h1
    obtain ⟨w, h4, _⟩ := r'.get h2
    exact ⟨_, _, v, w, h.sq, h'.sq, h3, h4⟩
theorem Wk.yld {i : Nat} {d : D} {x : V} {H2 : Hp} (w : Wk K κ s.nx H J ds) (R : HR K S κ s H) (hi : ds[i]? = some d) (y : J.yld i H x H2) : Tr κ s.nx H κ s.nx H2 ∧ HR K S κ s H2 ∧ Rep K κ s.nx H2 x d := by
  cases w with
  | lst h r =>
    obtain ⟨v, h1, h2⟩ := r.get hi
    obtain ⟨rfl, y2⟩ := y
    rw [y2 _ h.sq] at h1; cases h1
    exact ⟨Tr.refl, R, h2⟩
  | tup h r =>
    obtain ⟨v, h1, h2⟩ := r.get hi
    obtain ⟨rfl, y2⟩ := y
    rw [y2 _ h.sq] at h1; cases h1
    exact ⟨Tr.refl, R, h2⟩
  | rng =>
    obtain ⟨rfl, rfl⟩ := y
    obtain ⟨h1, h2⟩ := List.getElem?_eq_some_iff.mp hi
    rw [← h2]
    refine ⟨Tr.refl, R, ?_⟩
    rw [List.getElem_map, List.getElem_range]
    exact .int
  | rngc =>
    obtain ⟨rfl, rfl⟩ := y
    obtain ⟨h1, h2⟩ := List.getElem?_eq_some_iff.mp hi
    rw [← h2]
    refine ⟨Tr.refl, R, ?_⟩
    rw [List.getElem_map, List.getElem_range]
    exact .int
  | key h0 h r =>
    obtain ⟨rfl, k, v, y1, rfl⟩ := y
    exact ⟨Tr.refl, R, r.keyAt y1 hi⟩
  | enm h r =>
    obtain ⟨e, h1, rfl⟩ := enumL_get _ _ _ _ hi
    obtain ⟨v, h2, h3⟩ := r.get h1
    obtain ⟨T, y, rfl, hT, rfl, f1⟩ := y
    have hy := f1 _ h.sq
    rw [h2] at hy; cases hy
    have tn := R.trn (o := .tup [.int (i : Nat), v]) hT
    refine ⟨tn, R.new hT, .tup ⟨upd_same, R.fresh hT⟩ (.cons ?_ (.cons (h3.tr tn) .nil))⟩
    rw [Nat.zero_add]
    exact .int
  | ent h r =>
    obtain ⟨e, h1, rfl⟩ := enumL_get _ _ _ _ hi
    obtain ⟨v, h2, h3⟩ := r.get h1
    obtain ⟨T, y, rfl, hT, rfl, f1⟩ := y
    have hy := f1 _ h.sq
    rw [h2] at hy; cases hy
    have tn := R.trn (o := .tup [.int (i : Nat), v]) hT
    refine ⟨tn, R.new hT, .tup ⟨upd_same, R.fresh hT⟩ (.cons ?_ (.cons (h3.tr tn) .nil))⟩
    rw [Nat.zero_add]
    exact .int
  | zpl h h' r r' =>
    obtain ⟨e, f, h1, h2, rfl⟩ := zipL_get _ _ _ _ hi
    obtain ⟨v, h3, h5⟩ := r.get h1
    obtain ⟨w, h4, h6⟩ := r'.get h2
    obtain ⟨T, x', y', rfl, hT, rfl, f1, f2⟩ := y
    have hx := f1 _ h.sq
    have hy := f2 _ h'.sq
    rw [h3] at hx; cases hx
    rw [h4] at hy; cases hy
    have tn := R.trn (o := .tup [v, w]) hT
    exact ⟨tn, R.new hT, .tup ⟨upd_same, R.fresh hT⟩ (.cons (h5.tr tn) (.cons (h6.tr tn) .nil))⟩
  | zpt h h' r r' =>
    obtain ⟨e, f, h1, h2, rfl⟩ := zipL_get _ _ _ _ hi
    obtain ⟨v, h3, h5⟩ := r.get h1
    obtain ⟨w, h4, h6⟩ := r'.get h2
    obtain ⟨T, x', y', rfl, hT, rfl, f1, f2⟩ := y
    have hx := f1 _ h.sq
    have hy := f2 _ h'.sq
    rw [h3] at hx; cases hx
    rw [h4] at hy; cases hy
    have tn := R.trn (o := .tup [v, w]) hT
    exact ⟨tn, R.new hT, .tup ⟨upd_same, R.fresh hT⟩ (.cons (h5.tr tn) (.cons (h6.tr tn) .nil))⟩
end

/-- where a walk stands, as the model has it -/
inductive CurOk (K : PySem.W.Frag) (κ : Gh) (nx : Nat) (H : Hp) (J : It) (i : Nat) : Cur → Prop
  | fix {xs : List D} {r : List D} : Wk K κ nx H J xs → r = xs.drop i → CurOk K κ nx H J i (.fix r)
  | live {n j : Nat} {a : Addr} : n < nx → a = κ.f n → J = Itl K a → j = i → CurOk K κ nx H J i (.live n j)
section
variable {K : PySem.W.Frag} {S : Sig} {κ κ' : Gh} {nx nx' : Nat} {s s' : Hs} {H H' H2 : Hp} {J : It} {i : Nat} {c c' : Cur} {p : Addr} {o : HO} {d : D} {x : V}
theorem CurOk.tr (t : Tr κ nx H κ' nx' H') (w : CurOk K κ nx H J i c) : CurOk K κ' nx' H' J i c := by
  cases w with
  | fix h r => exact .fix (h.tr t) r
  | live h e j q => exact .live (Nat.lt_of_lt_of_le h t.le) (e.trans (t.ag _ h).symm) j q
theorem CurOk.hold (hp : H p = none) (w : CurOk K κ nx H J i c) : CurOk K (κ.hold p) nx (upd H p o) J i c := by
  cases w with
  | fix h r => exact .fix (h.hold hp) r
  | live h e j q => exact .live h e j q
theorem CurOk.stop (R : HR K S κ s H) (w : CurOk K κ s.nx H J i c) (e : c.next s = .stop) : J.stop i H := by
  cases w with
  | @fix xs r h q =>
    cases r with
    | nil =>
      have z := h.stop
      have hl : xs.length ≤ i := by
        have := congrArg List.length q
        rw [List.length_nil, List.length_drop] at this
        omega
      cases h with
      | lst f r => exact ⟨_, f.sq, by rw [r.len]; exact hl⟩
      | tup f r => exact ⟨_, f.sq, by rw [r.len]; exact hl⟩
      | rng => show _ ≤ _; simpa using hl
      | rngc => show _ ≤ _; simpa using hl
      | key h0 f r => exact ⟨f, by rw [r.len]; rw [List.length_map] at hl; exact hl⟩
      | enm f r => exact ⟨_, f.sq, by rw [r.len]; rw [enumL_len] at hl; exact hl⟩
      | ent f r => exact ⟨_, f.sq, by rw [r.len]; rw [enumL_len] at hl; exact hl⟩
      | @zpl _ _ vs ws ds es f f' r r' =>
        refine ⟨vs, ws, f.sq, f'.sq, ?_⟩
        rw [r.len, r'.len]
        exact (zipL_len ds es).imp (fun u => Nat.le_trans u hl) (fun u => Nat.le_trans u hl)
      | @zpt _ _ vs ws ds es f f' r r' =>
        refine ⟨vs, ws, f.sq, f'.sq, ?_⟩
        rw [r.len, r'.len]
        exact (zipL_len ds es).imp (fun u => Nat.le_trans u hl) (fun u => Nat.le_trans u hl)
    | cons => cases e
  | @live n j a h q1 q2 q3 =>
    subst q1 q2 q3
    unfold Cur.next at e
    dsimp only at e
    split at e
    · rename_i l hl
      split at e
      · cases e
      · rename_i hn
        have q := R.ok n h
        rw [hl] at q
        obtain ⟨vs, v1, v2⟩ := q
        exact ⟨vs, .inl (.inl v1), by rw [v2.len]; exact List.getElem?_eq_none_iff.mp hn⟩
    · cases e
theorem CurOk.at_ (w : CurOk K κ s.nx H J i c) (e : c.next s = .item d c') (R : HR K S κ s H) : J.go i H ∧ ∀ x H2, J.yld i H x H2 → Tr κ s.nx H κ s.nx H2 ∧ HR K S κ s H2 ∧ Rep K κ s.nx H2 x d ∧ CurOk K κ s.nx H J (i + 1) c' := by
  cases w with
  | @fix xs r h q =>
    cases r with
    | nil => cases e
    | cons y r =>
      have e : Nxt.item y (.fix r) = .item d c' := e
      cases e
      have hlt : i < xs.length := by
        have := congrArg List.length q
        rw [List.length_cons, List.length_drop] at this
        omega
      rw [List.drop_eq_getElem_cons hlt] at q
      injection q with q1 q2
      have hx : xs[i]? = some d := by rw [q1]; exact List.getElem?_eq_getElem hlt
      refine ⟨h.go hx, fun x H2 y => ?_⟩
      obtain ⟨a1, a2, a3⟩ := h.yld R hx y
      exact ⟨a1, a2, a3, .fix h q2⟩
  | @live n j a h q1 q2 q3 =>
    subst q1 q2 q3
    unfold Cur.next at e
    dsimp only at e
    split at e
    · rename_i l hl
      split at e
      · rename_i y hy
        cases e
        have q := R.ok n h
        rw [hl] at q
        obtain ⟨vs, v1, v2⟩ := q
        obtain ⟨v, v3, v4⟩ := v2.get hy
        refine ⟨⟨vs, v, .inl (.inl v1), v3⟩, fun x H2 y => ?_⟩
        obtain ⟨rfl, y2⟩ := y
        rw [y2 _ (.inl (.inl v1))] at v3; cases v3
        exact ⟨Tr.refl, R, v4, .live h rfl rfl rfl⟩
      · cases e
    · cases e
end

variable (Γ : Set0)
abbrev RepI (K : PySem.W.Frag) : RelT It Cur := fun κ s H J d => CurOk K κ s.nx H J 0 d
def OkI (tg e : Expr) (c : C) : Prop := ∀ σ ρ κ s H Q, HR Γ.X.K Γ.S κ s H → Slots Γ.X.K κ s.nx H σ ρ →
  Pre Γ.X.K Γ.S (RepI Γ.X.K) Q (Γ.E σ) κ s.nx H (evI Γ.P Γ.T c ρ s) → TWi Γ.X tg e σ H Q
/-- a target of names: the slots set -/
def OkG (tg : Expr) (c : C) : Prop := ∀ σ ρ ρ1 κ s H v d Q, HR Γ.X.K Γ.S κ s H → Slots Γ.X.K κ s.nx H σ ρ → Rep Γ.X.K κ s.nx H v d → evG c d ρ s = some ρ1 →
  (∀ σ1, Slots Γ.X.K κ s.nx H σ1 ρ1 → σ1.length = σ.length → (∀ j, j ∉ tgs c → σ1[j]? = σ[j]?) → Q σ1 H) → TWg Γ.X tg v σ H Q
section
variable {Γ}
variable {tg a b e : Expr} {ca cb c ct : C} {es : List Expr} {pos : Pos}

theorem okg_slot {i : Nat} {x : Str} (hN : Γ.X.N.Nodup) (hi : Γ.X.N[i]? = some x) (hx : Loc Γ.X.env.scope x) (hf : Γ.X.fn x = true ∨ Γ.X.env.scope.names.lookup x = some .local) : OkG Γ (.Name x pos) (.tslot i) := by
  intro σ ρ ρ1 κ s H v d Q hr sl r e q
  unfold evG at e
  split at e
  · cases e
    exact twG (pg_name hN hi hx hf) (q _ (sl.set r) (List.length_set ..) fun j hj => List.getElem?_set_ne (fun z => hj (by rw [← z]; exact List.mem_singleton_self _)))
  · cases e

/-! #### walks -/
def iRngV (te : TE) : TI := fun σ H R => te σ H fun x H1 => ∃ (a : Addr) (lo hi : Int), x = .ref a ∧ H1 a = some (.rng lo hi) ∧ (-(2 ^ 62) ≤ lo ∧ lo < 2 ^ 62 ∧ -(2 ^ 62) ≤ hi ∧ hi < 2 ^ 62) ∧ R (Itr lo (hi - lo).toNat) H1
/-- a walk over a range object -/
theorem pi_rngv {X : Cx} {tg e : Expr} {te : TE} (he : PE X e te) : PI X tg e (iRngV te) := by
  refine ⟨fun pins s σ H R I h => ?_⟩
  refine thn (he.run pins s σ H _ I h) fun u s1 ⟨x, H1, I1, rx, a, lo, hi, ex, q1, ⟨h1, h2, h3, h4⟩, q⟩ => ?_
  subst ex
  obtain rfl : u = Value.ref a := rx
  obtain ⟨t, u, v, e⟩ := (show ObjOk X.prog X.w H1 s1.heap a (.rng lo hi) from I1.hok a _ q1)
  refine wpAny_pyIter_range (a := lo) (b := hi) (c := 1) (t := t) (u := u) (v := v) e (small_one h1 h2 h3 h4) ?_
  refine ⟨s1.heap.objs.size, [s1.heap.objs.size], _, _, H1, rfl, I1.kept (t' := s1.toks) fun b o e => Heap.get?_push_of_some _ e, turn_range _ lo (hi - lo).toNat, ?_, fun b hb => ?_, q⟩
  · have e1 : lo + ((0 : Nat) : Int) * 1 = lo := by simp
    have e2 : (((hi - lo).toNat : Nat) : Int) - ((0 : Nat) : Int) = Builtin.Range.rangeSize lo hi 1 := by rw [rangeSize_one]; split <;> omega
    show IsRangeIter _ _ (lo + ((0 : Nat) : Int) * 1) ((((hi - lo).toNat : Nat) : Int) - ((0 : Nat) : Int)) 1
    rw [e1, e2]
    exact Heap.get?_push_size _ rfl
  · have e : b = s1.heap.objs.size := by simpa using hb
    subst e
    exact I1.fpOk (Nat.le_refl _) (I1.hok.fresh (Nat.le_refl _))
theorem oki_val (h : OkE Γ e c) : OkI Γ tg e (.ival c) := by
  intro σ ρ κ s H Q hr sl p
  unfold evI at p
  -- a list or a tuple: by the value
  cases q0 : evE Γ.P Γ.T c ρ s with
  | stuck => rw [q0] at p; exact p.elim
  | exc x s1 =>
    rw [q0] at p
    exact twI (pi_list (tl := TW Γ.X e) peW) (h σ ρ κ s H _ hr sl (by rw [q0]; exact p))
  | ok d s1 =>
    rw [q0] at p
    change Pre _ _ _ _ _ _ _ _ (valE d s1) at p
    unfold valE at p
    split at p
    · refine twI (pi_list (tl := TW Γ.X e) peW) (h σ ρ κ s H _ hr sl ?_)
      rw [q0]
      intro κ1 H1 v t h1 r
      cases r with
      | lst f rs => exact ⟨_, rfl, ⟨_, f.sq⟩, p κ1 H1 _ t h1 (.fix (.lst f rs) rfl)⟩
    · refine twI (pi_tup (tl := TW Γ.X e) peW) (h σ ρ κ s H _ hr sl ?_)
      rw [q0]
      intro κ1 H1 v t h1 r
      cases r with
      | tup f rs => exact ⟨_, rfl, ⟨_, f.sq⟩, p κ1 H1 _ t h1 (.fix (.tup f rs) rfl)⟩
    · rename_i lo hi
      split at p
      · rename_i hz
        have hz' := Bool.and_eq_true_iff.mp hz
        have z1 : -(2 ^ 62) ≤ lo ∧ lo < 2 ^ 62 := by
          have := hz'.1
          unfold okI at this
          have := Bool.and_eq_true_iff.mp this
          exact ⟨of_decide_eq_true this.1, of_decide_eq_true this.2⟩
        have z2 : -(2 ^ 62) ≤ hi ∧ hi < 2 ^ 62 := by
          have := hz'.2
          unfold okI at this
          have := Bool.and_eq_true_iff.mp this
          exact ⟨of_decide_eq_true this.1, of_decide_eq_true this.2⟩
        refine twI (pi_rngv (te := TW Γ.X e) peW) (h σ ρ κ s H _ hr sl ?_)
        rw [q0]
        intro κ1 H1 v t h1 r
        cases r with
        | rng f => exact ⟨_, lo, hi, rfl, f.1, ⟨z1.1, z1.2, z2.1, z2.2⟩, p κ1 H1 _ t h1 (.fix .rng rfl)⟩
      · exact p.elim
    · rename_i n
      split at p
      · rename_i l hl
        refine twI (pi_list (tl := TW Γ.X e) peW) (h σ ρ κ s H _ hr sl ?_)
        rw [q0]
        intro κ1 H1 v t h1 r
        obtain ⟨rfl, hn⟩ := cel_of r
        have q := h1.ok n hn
        rw [hl] at q
        obtain ⟨vs, v1, v2⟩ := q
        exact ⟨_, rfl, ⟨vs, .inl (.inl v1)⟩, p κ1 H1 _ t h1 (.live hn rfl rfl rfl)⟩
      · rename_i kvs hl
        refine twI (pi_keys (td := TW Γ.X e) peW) (h σ ρ κ s H _ hr sl ?_)
        rw [q0]
        intro κ1 H1 v t h1 r
        obtain ⟨rfl, hn⟩ := cel_of r
        have q := h1.ok n hn
        rw [hl] at q
        obtain ⟨v0, o, vs, v1, v2⟩ := q
        exact ⟨_, o, rfl, .inl ⟨vs, v1, p κ1 H1 _ t h1 (.fix (.key v0 v1 v2) rfl)⟩⟩
      · exact p.elim
    · exact p.elim
theorem okI_le {i : Int} (h : okI i = true) : -(2 ^ 62) ≤ i ∧ i < 2 ^ 62 := by
  unfold okI at h
  have := Bool.and_eq_true_iff.mp h
  exact ⟨of_decide_eq_true this.1, of_decide_eq_true this.2⟩
theorem reps1 {K : PySem.W.Frag} {κ : Gh} {nx : Nat} {H : Hp} {vs : List V} {i : Int} (r : Reps K κ nx H vs [.int i]) : vs = [.int i] := by
  cases r with
  | cons a b => cases a; cases b; rfl
theorem reps2 {K : PySem.W.Frag} {κ : Gh} {nx : Nat} {H : Hp} {vs : List V} {i j : Int} (r : Reps K κ nx H vs [.int i, .int j]) : vs = [.int i, .int j] := by
  cases r with
  | cons a b => cases a; rw [reps1 b]
theorem reps3 {K : PySem.W.Frag} {κ : Gh} {nx : Nat} {H : Hp} {vs : List V} {i j k : Int} (r : Reps K κ nx H vs [.int i, .int j, .int k]) : vs = [.int i, .int j, .int k] := by
  cases r with
  | cons a b => cases a; rw [reps2 b]
def clen : C → Nat
  | .cons _ r => clen r + 1
  | _ => 0
theorem evA_len {P : Prog} {T : Nat → List D → Hs → Res D} {ρ : Env} : ∀ (c : C) {s s1 : Hs} {ds : List D}, evA P T c ρ s = .ok ds s1 → ds.length = clen c := by
  intro c
  induction c with
  | cons a r _ ih =>
    intro s s1 ds h
    unfold evA at h
    cases q : evE P T a ρ s with
    | stuck => rw [q] at h; cases h
    | exc x s2 => rw [q] at h; cases h
    | ok d s2 =>
      rw [q] at h
      change (evA P T r ρ s2).bind _ = _ at h
      cases q2 : evA P T r ρ s2 with
      | stuck => rw [q2] at h; cases h
      | exc x s2 => rw [q2] at h; cases h
      | ok es s3 =>
        rw [q2] at h
        change Res.ok (d :: es) s3 = _ at h
        cases h
        rw [List.length_cons, ih q2]
        rfl
  | nil => intro s s1 ds h; unfold evA at h; cases h; rfl
  | _ => intro s s1 ds h; unfold evA at h; cases h
theorem OkA.useN (h : OkA Γ es c) {γ δ : Type} {R2 : RelT δ γ} {Q2 : δ → Hp → Prop} {σ : St} {ρ : Env} {κ : Gh} {s : Hs} {H : Hp} {Q : List V → Hp → Prop} {f : List D → Hs → Res γ} (hr : HR Γ.X.K Γ.S κ s H) (sl : Slots Γ.X.K κ s.nx H σ ρ)
    (p : Pre Γ.X.K Γ.S R2 Q2 (Γ.E σ) κ s.nx H ((evA Γ.P Γ.T c ρ s).bind f))
    (k : ∀ d s1 κ1 H1 v, d.length = clen c → Tr κ s.nx H κ1 s1.nx H1 → HR Γ.X.K Γ.S κ1 s1 H1 → Slots Γ.X.K κ1 s1.nx H1 σ ρ → Reps Γ.X.K κ1 s1.nx H1 v d → Pre Γ.X.K Γ.S R2 Q2 (Γ.E σ) κ1 s1.nx H1 (f d s1) → Q v H1) : TWa Γ.X es σ H Q :=
  h σ ρ κ s H Q hr sl (Pre.bind p fun d s1 κ1 H1 v e t h1 r p1 => k d s1 κ1 H1 v (evA_len c e) t h1 (sl.tr t) r p1)
theorem oki_range1 {p0 : Pos} (hg : Gl Γ.X "range") (hm : Γ.X.mg "range" = none) (ha : OkA Γ [a] ca) (hcl : clen ca = 1) (hs : starEach [a] Γ.X.env = [(false, eval a Γ.X.env)]) : OkI Γ tg (.Call (.Name "range" p0) [a] [] pos) (.irange ca) := by
  intro σ ρ κ s H Q hr sl p
  unfold evI at p
  refine twI (pi_range1 hg hm paW hs) ?_
  refine ha.useN hr sl p fun ds s1 κ1 H1 vs hl t1 h1 sl1 rs p1 => ?_
  rw [hcl] at hl
  match ds, rs, p1, hl with
  | [.int j], rs, p1, _ =>
    simp only at p1
    split at p1
    · rename_i hz
      have z := okI_le hz
      refine ⟨j, reps1 rs, z.1, z.2, ?_⟩
      have e : rangeL 0 j = (List.range j.toNat).map fun (i : Nat) => PyData.int ((0 : Int) + i) := by unfold rangeL; rw [Int.sub_zero]
      rw [e] at p1
      exact p1.give h1 (.fix .rng rfl)
    · exact p1.elim
  | [.none], rs, p1, _ | [.bool _], rs, p1, _ | [.str _], rs, p1, _ | [.list _], rs, p1, _ | [.tuple _], rs, p1, _ | [.dict _], rs, p1, _ => exact p1.elim
theorem oki_range2 {p0 : Pos} (hg : Gl Γ.X "range") (hm : Γ.X.mg "range" = none) (ha : OkA Γ [a, b] ca) (hcl : clen ca = 2) (hs : starEach [a, b] Γ.X.env = [(false, eval a Γ.X.env), (false, eval b Γ.X.env)]) (hs2 : starEach [b] Γ.X.env = [(false, eval b Γ.X.env)]) :
    OkI Γ tg (.Call (.Name "range" p0) [a, b] [] pos) (.irange ca) := by
  intro σ ρ κ s H Q hr sl p
  unfold evI at p
  refine twI (pi_range2 hg hm paW hs hs2) ?_
  refine ha.useN hr sl p fun ds s1 κ1 H1 vs hl t1 h1 sl1 rs p1 => ?_
  rw [hcl] at hl
  match ds, rs, p1, hl with
  | [.int i, .int j], rs, p1, _ =>
    simp only at p1
    split at p1
    · rename_i hz
      have hz' := Bool.and_eq_true_iff.mp hz
      have z1 := okI_le hz'.1
      have z2 := okI_le hz'.2
      exact ⟨i, j, reps2 rs, ⟨z1.1, z1.2, z2.1, z2.2⟩, p1.give h1 (.fix .rng rfl)⟩
    · exact p1.elim
  | [.none, _], rs, p1, _ | [.bool _, _], rs, p1, _ | [.str _, _], rs, p1, _ | [.list _, _], rs, p1, _ | [.tuple _, _], rs, p1, _ | [.dict _, _], rs, p1, _ => exact p1.elim
  | [.int _, .none], rs, p1, _ | [.int _, .bool _], rs, p1, _ | [.int _, .str _], rs, p1, _ | [.int _, .list _], rs, p1, _ | [.int _, .tuple _], rs, p1, _ | [.int _, .dict _], rs, p1, _ => exact p1.elim

/-! #### list comprehensions -/
/-- the block's setting -/
abbrev Set0.blk (Γ : Set0) (s : Shared) (H : Hp) (scope : Scope) (Cc : Addr) (cl : List (Str × Addr)) (fp : List Addr) : Set0 :=
  { Γ with X := Γ.X.blk s H scope (compEnvC scope cl Cc Γ.X.env) fp, W := fun _ _ _ _ => False }
def TWts (X : Cx) (ifs : List Expr) : TT := fun σ H Q => ∀ pins s, Inv X pins σ H s → 
    wpAny (model X.prog X.w) X.A (forIn ifs true fun c r => if r = true then do let ok ← isTrue c X.env (eval c X.env); pure (ForInStep.yield ok) else pure (ForInStep.yield r)) (TP X pins σ Q) X.xe s
def OkTs (Γ : Set0) (ifs : List Expr) (c : C) : Prop := ∀ σ ρ κ s H Q, HR Γ.X.K Γ.S κ s H → Slots Γ.X.K κ s.nx H σ ρ →
  Pre Γ.X.K Γ.S (RepD Γ.X.K) (fun v H' => ∃ b, v = .bl b ∧ Q b H') (Γ.E σ) κ s.nx H (evE Γ.P Γ.T c ρ s) → TWts Γ.X ifs σ H Q
theorem okts_nil : OkTs Γ [] (.cst (.bool true)) := by
  intro σ ρ κ s H Q hr sl p pins s0 I
  obtain ⟨b, e, q⟩ := p.give hr .bl
  cases e
  exact pts_nil.run pins s0 σ H Q I q
theorem okts_one (h : OkT Γ e c) : OkTs Γ [e] c := by
  intro σ ρ κ s H Q hr sl p pins s0 I
  exact (pts_one ptW).run pins s0 σ H Q I (h σ ρ κ s H Q hr sl p)

theorem Slots.hold {K : PySem.W.Frag} {κ : Gh} {nx : Nat} {H : Hp} {p : Addr} {o : HO} {σ : St} {ρ : Env} (h : Slots K κ nx H σ ρ) (hp : H p = none) : Slots K (κ.hold p) nx (upd H p o) σ ρ :=
  ⟨h.len, fun i d e => let ⟨v, a, b⟩ := h.at' i d e; ⟨v, a, b.hold hp⟩⟩
theorem KVs.unhold {K : PySem.W.Frag} {κ : Gh} {nx : Nat} {H : Hp} {p : Addr} : ∀ {xs : List (Key × V)} {ds : List (D × D)}, KVs K (κ.hold p) nx H xs ds → KVs K κ nx H xs ds
  | _, _, .nil => .nil
  | _, _, .cons e r q => .cons e r.unhold (KVs.unhold q)
theorem TVs.unhold {K : PySem.W.Frag} {κ : Gh} {nx : Nat} {H : Hp} {p : Addr} : ∀ {xs : List (List Key × V)} {ds : List (D × D)}, TVs K (κ.hold p) nx H xs ds → TVs K κ nx H xs ds
  | _, _, .nil => .nil
  | _, _, .cons e r q => .cons e r.unhold (TVs.unhold q)
theorem FVs.unhold {K : PySem.W.Frag} {S : Sig} {κ : Gh} {nx : Nat} {H : Hp} {p : Addr} {k : Nat} : ∀ {xs : List (Str × V)} {ds : List (Nat × D)}, FVs K S (κ.hold p) nx H k xs ds → FVs K S κ nx H k xs ds
  | _, _, .nil => .nil
  | _, _, .cons a b r q => .cons a b r.unhold (FVs.unhold q)
theorem CellOk.unhold {K : PySem.W.Frag} {S : Sig} {κ : Gh} {nx : Nat} {H : Hp} {p a : Addr} {c : Cell} (h : CellOk K S (κ.hold p) nx H a c) (ne : a ≠ p) : CellOk K S κ nx H a c := by
  cases c with
  | no => exact h
  | lst ds =>
    obtain ⟨vs, h1, h2⟩ := h
    exact ⟨vs, h1, h2.unhold⟩
  | dic tk kvs =>
    rcases h with ⟨ht, vs, h1, h2⟩ | ⟨ht, vs, h1, h2⟩
    · exact .inl ⟨ht, vs, h1, h2.unhold⟩
    · exact .inr ⟨ht, vs, h1, h2.unhold⟩
  | dik kvs =>
    obtain ⟨h0, o, vs, h1, h2⟩ := h
    exact ⟨(List.mem_cons.mp h0).resolve_left ne, o, vs, h1, h2.unhold⟩
  | ins C fs =>
    obtain ⟨dx, xs, h1, h3, h4, h2⟩ := h
    exact ⟨dx, xs, h1, h3, h4, h2.unhold⟩
theorem HR.unhold {K : PySem.W.Frag} {S : Sig} {κ : Gh} {s : Hs} {H : Hp} {p : Addr} (h : HR K S (κ.hold p) s H) {xs : List V} (hl : H p = Option.some (.lst xs)) : HR K S κ s H :=
  ⟨fun n hn => (h.ok n hn).unhold (h.res1 List.mem_cons_self hl n hn), h.inj, fun r hr => h.res r (List.mem_cons_of_mem _ hr), h.tb⟩
theorem wipe_at {σ : St} {i : Nat} : ∀ {vs : List Nat}, (wipe σ vs)[i]? = if i ∈ vs ∧ i < σ.length then some none else σ[i]?
  | [] => by simp [wipe]
  | v :: vs => by
    unfold wipe
    by_cases h : v = i
    · subst h
      by_cases hl : v < σ.length
      · rw [List.getElem?_set_self (by rw [wipe_length]; exact hl), if_pos ⟨List.mem_cons_self, hl⟩]
      · rw [if_neg (fun z => hl z.2), List.getElem?_eq_none (by rw [List.length_set, wipe_length]; omega), List.getElem?_eq_none (by omega)]
    · rw [List.getElem?_set_ne h, wipe_at (vs := vs)]
      have z : (i ∈ v :: vs) ↔ (i ∈ vs) := by
        rw [List.mem_cons]; exact ⟨fun q => q.elim (fun e => absurd e.symm h) id, .inr⟩
      simp only [z]
theorem wipe_eq {σ σ1 : St} {vs ts : List Nat} (hl : σ1.length = (wipe σ vs).length) (h : ∀ j, j ∉ ts → σ1[j]? = (wipe σ vs)[j]?) (ht : ∀ j, j ∈ ts → j ∈ vs) : wipe σ1 vs = wipe σ vs := by
  rw [wipe_length] at hl
  apply List.ext_getElem?
  intro i
  rw [wipe_at, wipe_at, hl]
  by_cases q : i ∈ vs ∧ i < σ.length
  · rw [if_pos q, if_pos q]
  · rw [if_neg q, if_neg q]
    by_cases z : i ∈ vs
    · rw [List.getElem?_eq_none (by have : ¬ i < σ.length := fun w => q ⟨z, w⟩; omega), List.getElem?_eq_none (by have : ¬ i < σ.length := fun w => q ⟨z, w⟩; omega)]
    · rw [h i (fun w => z (ht i w)), wipe_at, if_neg q]
theorem Gh.eta {κ κ' : Gh} {p : Addr} (h : κ'.R = (κ.hold p).R) : ∃ κ1 : Gh, κ' = κ1.hold p ∧ κ1.R = κ.R := by
  obtain ⟨f, R⟩ := κ'
  have h' : R = p :: κ.R := h
  subst h'
  exact ⟨⟨f, κ.R⟩, rfl, rfl⟩
theorem Tr.held {κ0 κ κ' : Gh} {n0 n n' : Nat} {H0 H H' : Hp} {p : Addr} (t : Tr κ0 n0 H0 κ n H) (hp : H0 p = none) (u : Tr (κ.hold p) n H (κ'.hold p) n' H') (hR : κ'.R = κ.R) : Tr κ0 n0 H0 κ' n' H' := by
  refine ⟨Nat.le_trans t.le u.le, fun m h => (u.ag m (Nat.lt_of_lt_of_le h t.le)).trans (t.ag m h), hR.trans t.rs, fun r hr => (u.rk r (List.mem_cons_of_mem _ (by rw [t.rs]; exact hr))).trans (t.rk r hr), fun a o h hz nc => ?_⟩
  obtain ⟨h1, n1⟩ := t.kp a o h hz nc
  obtain ⟨h2, n2⟩ := u.kp a o h1 hz (n1.hold (ne_of_none h hp))
  exact ⟨h2, n2.1, fun z => n2.2 (List.mem_cons_of_mem _ z)⟩
theorem Tr.setp {κ0 κ : Gh} {n0 n : Nat} {H0 H : Hp} {p : Addr} {o : HO} (t : Tr κ0 n0 H0 κ n H) (hp : H0 p = none) (hr : p ∉ κ0.R) : Tr κ0 n0 H0 κ n (upd H p o) :=
  ⟨t.le, t.ag, t.rs, fun r h => (upd_ne fun e => hr (by rw [← e]; exact h)).trans (t.rk r h), fun a u h hz nc => ⟨by rw [upd_ne (ne_of_none h hp)]; exact (t.kp a u h hz nc).1, (t.kp a u h hz nc).2⟩⟩
theorem Slots.tr1 {K : PySem.W.Frag} {κ κ' : Gh} {nx nx' : Nat} {H H' : Hp} {σ : St} {ρ : Env} (t : Tr1 κ nx H κ' nx' H') (h : Slots K κ nx H σ ρ) : Slots K κ' nx' H' σ ρ :=
  ⟨h.len, fun i d e => let ⟨v, a, b⟩ := h.at' i d e; ⟨v, a, b.tr1 t⟩⟩
theorem Wk.setr {K : PySem.W.Frag} {κ : Gh} {nx : Nat} {H : Hp} {J : It} {ds : List D} {p : Addr} {xs ys : List V} (hr : p ∈ κ.R) (hl : H p = some (.lst ys)) (w : Wk K κ nx H J ds) : Wk K κ nx (upd H p (.lst xs)) J ds := by
  have t : Tr1 κ nx H κ nx (upd H p (.lst xs)) := HR.tr1r hr
  cases w with
  | lst h r => exact .lst (h.tr1 t) (r.tr1 t)
  | tup h r => exact .tup (h.tr1 t) (r.tr1 t)
  | rng => exact .rng
  | rngc => exact .rngc
  | key h0 h r => exact .key h0 (by rw [upd_ne fun z => by rw [z, hl] at h; cases h]; exact h) (r.tr1 t)
  | enm h r => exact .enm (h.tr1 t) (r.tr1 t)
  | ent h r => exact .ent (h.tr1 t) (r.tr1 t)
  | zpl h h' r r' => exact .zpl (h.tr1 t) (h'.tr1 t) (r.tr1 t) (r'.tr1 t)
  | zpt h h' r r' => exact .zpt (h.tr1 t) (h'.tr1 t) (r.tr1 t) (r'.tr1 t)
theorem CurOk.setr {K : PySem.W.Frag} {κ : Gh} {nx : Nat} {H : Hp} {J : It} {i : Nat} {c : Cur} {p : Addr} {xs ys : List V} (hr : p ∈ κ.R) (hl : H p = some (.lst ys)) (w : CurOk K κ nx H J i c) : CurOk K κ nx (upd H p (.lst xs)) J i c := by
  cases w with
  | fix h r => exact .fix (h.setr hr hl) r
  | live h e j q => exact .live h e j q
theorem comp_rd {elt it : Expr} {ifs : List Expr} {scope : Scope} {own : List (Str × Nat)} {cg ci cc ce : C} (hi : OkI Γ tg it ci)
    (hg : ∀ s H Cc cl fp, OkG (Γ.blk s H scope Cc cl fp) tg cg) (ht : ∀ s H Cc cl fp, OkTs (Γ.blk s H scope Cc cl fp) ifs cc) (he : ∀ s H Cc cl fp, OkE (Γ.blk s H scope Cc cl fp) elt ce)
    (hgw : ∀ j, j ∈ tgs cg → j ∈ own.map (·.2)) :
    NRd Γ (tLc (TWi Γ.X tg it) (fun v σ H Q => ∀ s0 H0 Cc cl fp, TWg (Γ.X.blk s0 H0 scope (compEnvC scope cl Cc Γ.X.env) fp) tg v σ H Q)
    (fun σ H Q => ∀ s0 H0 Cc cl fp, TWts (Γ.X.blk s0 H0 scope (compEnvC scope cl Cc Γ.X.env) fp) ifs σ H Q)
    (fun σ H Q => ∀ s0 H0 Cc cl fp, TW (Γ.X.blk s0 H0 scope (compEnvC scope cl Cc Γ.X.env) fp) elt σ H Q) (own.map (·.2))) (.comp (own.map (·.2)) cg ci cc ce) := by
  intro σ ρ κ s H Q hr sl p
  unfold evN at p
  refine hi σ ρ κ s H _ hr sl (Pre.bind p fun xs s1 κ1 H1 J _ t1 h1 wk p1 => ?_)
  intro Dd hD
  -- the state as the list is built
  have start : HR Γ.X.K Γ.S (κ1.hold Dd) s1 (upd H1 Dd (.lst [])) := h1.hold hD
  refine ⟨fun i m H' => ∃ (c : Cur) (κ' : Gh) (s' : Hs) (acc : List D) (vs : List V), Tr κ1 s1.nx H1 κ' s'.nx H' ∧ HR Γ.X.K Γ.S (κ'.hold Dd) s' H' ∧ H' Dd = some (.lst vs) ∧ Reps Γ.X.K (κ'.hold Dd) s'.nx H' vs acc ∧
      Slots Γ.X.K (κ'.hold Dd) s'.nx H' σ ρ ∧ CurOk Γ.X.K (κ'.hold Dd) s'.nx H' J i c ∧ Pre Γ.X.K Γ.S (RepN Γ.X.K Γ.S H) Q (Γ.E σ) κ1 s1.nx H1 (compN _ m c acc s'),
    ⟨_, xs, κ1, s1, [], [], h1.trn hD, start, upd_same, .nil, (sl.tr t1).hold hD, wk.hold hD, p1⟩, ?_⟩
  rintro i m H' ⟨c, κ', s', acc, vs, tr, hr', hDl, rs, sl', wk', pp⟩
  cases m with
  | zero => unfold compN at pp; exact pp.elim
  | succ m =>
  unfold compN at pp
  cases hnx : c.next s' with
  | lost => rw [hnx] at pp; exact pp.elim
  | item xd c' =>
    rw [hnx] at pp
    dsimp only at pp
    obtain ⟨go, yl⟩ := wk'.at_ hnx hr'
    refine .inr ⟨go, fun H' => ∃ (c : Cur) (κ' : Gh) (s' : Hs) (acc : List D) (vs : List V), Tr κ1 s1.nx H1 κ' s'.nx H' ∧ HR Γ.X.K Γ.S (κ'.hold Dd) s' H' ∧ H' Dd = some (.lst vs) ∧ Reps Γ.X.K (κ'.hold Dd) s'.nx H' vs acc ∧
      Slots Γ.X.K (κ'.hold Dd) s'.nx H' σ ρ ∧ CurOk Γ.X.K (κ'.hold Dd) s'.nx H' J (i + 1) c ∧ Pre Γ.X.K Γ.S (RepN Γ.X.K Γ.S H) Q (Γ.E σ) κ1 s1.nx H1 (compN _ m c acc s'), fun H'' hh => ⟨m, by omega, hh⟩, fun x H2 y => ?_⟩
    obtain ⟨t2, h2, r2, w2⟩ := yl x H2 y
    intro s0 H0 Cc cl fp
    cases hq : evG cg xd (wipeD ρ (own.map (·.2))) s' with
    | none => rw [hq] at pp; exact pp.elim
    | some ρ1 =>
    rw [hq] at pp
    dsimp only at pp
    refine hg s0 H0 Cc cl fp _ _ ρ1 (κ'.hold Dd) s' H2 x xd _ h2 ((sl'.tr t2).wipe _) r2 hq fun σ1 sl1 hl1 hσ => ?_
    refine ⟨wipe_eq hl1 hσ hgw, fun s0 H0 Cc cl fp => ?_⟩
    have keep : ∀ {κ4 : Gh} {s4 : Hs} {H4 : Hp}, Tr (κ'.hold Dd) s'.nx H' κ4 s4.nx H4 → HR Γ.X.K Γ.S κ4 s4 H4 → ∃ κ5 : Gh, κ4 = κ5.hold Dd ∧ κ5.R = κ'.R ∧ H4 Dd = some (.lst vs) := fun t h => by
      obtain ⟨κ5, e1, e2⟩ := Gh.eta t.rs
      exact ⟨κ5, e1, e2, (t.rk Dd List.mem_cons_self).trans hDl⟩
    refine ht s0 H0 Cc cl fp σ1 ρ1 (κ'.hold Dd) s' H2 _ h2 sl1 ?_
    cases ec : evE Γ.P Γ.T cc ρ1 s' with
    | stuck => rw [ec] at pp; exact pp.elim
    | exc e0 s3 => rw [ec] at pp; exact pp.elim
    | ok b s3 =>
    rw [ec] at pp
    intro κ3 H3 v t3 h3 r3
    have t13 := t2.trans t3
    cases b with
    | bool b =>
      obtain rfl := bl_of r3
      refine ⟨b, rfl, ?_⟩
      cases b with
      | true =>
        rw [if_pos rfl]
        intro s0 H0 Cc cl fp
        refine he s0 H0 Cc cl fp σ1 ρ1 κ3 s3 H3 _ h3 (sl1.tr t3) ?_
        change Pre _ _ _ _ _ _ _ _ (((evE Γ.P Γ.T ce ρ1 s3).bind fun d s4 => .ok (some d) s4).nox.bind _) at pp
        cases ee : evE Γ.P Γ.T ce ρ1 s3 with
        | stuck => rw [ee] at pp; exact pp.elim
        | exc e0 s4 => rw [ee] at pp; exact pp.elim
        | ok d s4 =>
        rw [ee] at pp
        intro κ4 H4 v4 t4 h4 r4
        have t14 := t13.trans t4
        obtain ⟨κ5, rfl, hR5, hD5⟩ := keep t14 h4
        change Pre _ _ _ _ _ _ _ _ (if small acc.length = true then _ else _) at pp
        by_cases hz : small acc.length = true
        · rw [if_pos hz] at pp
          refine ⟨vs, hD5, by rw [rs.len]; exact small_lt hz, c', κ5, s4, acc ++ [d], vs ++ [v4], ?_, h4.setr List.mem_cons_self hD5, upd_same, ?_, ?_, ?_, ?_⟩
          · exact (tr.held hD t14 hR5).setp hD (h1.fresh hD).2
          · exact ((rs.tr t14).append (.cons r4 .nil)).tr1 (HR.tr1r List.mem_cons_self)
          · exact (sl'.tr t14).tr1 (HR.tr1r List.mem_cons_self)
          · exact (w2.tr t14).setr List.mem_cons_self hD5
          · exact pp
        · rw [if_neg hz] at pp; exact pp.elim
      | false =>
        rw [if_neg (by decide)]
        obtain ⟨κ5, rfl, hR5, hD5⟩ := keep t13 h3
        refine ⟨c', κ5, s3, acc, vs, tr.held hD t13 hR5, h3, hD5, rs.tr t13, sl'.tr t13, w2.tr t13, pp⟩
    | _ => exact pp.elim
  | stop =>
    rw [hnx] at pp
    refine .inl ⟨wk'.stop hr' hnx, ?_⟩
    refine pp κ' H' _ tr ?_ ⟨Dd, vs, rfl, hDl, t1.none' hr h1 hD, hr'.res1 List.mem_cons_self hDl, ?_, rs, hr'⟩
    · exact hr'.unhold hDl
    · rw [tr.rs]
      exact (h1.fresh hD).2
theorem comp2_rd {elt it it1 tg1 : Expr} {ifs ifs1 : List Expr} {scope : Scope} {own : List (Str × Nat)} {cg ci cc cg1 ci1 cc1 ce : C} (hi : OkI Γ tg it ci)
    (hg : ∀ s H Cc cl fp, OkG (Γ.blk s H scope Cc cl fp) tg cg) (ht : ∀ s H Cc cl fp, OkTs (Γ.blk s H scope Cc cl fp) ifs cc) (hi1 : ∀ s H Cc cl fp, OkI (Γ.blk s H scope Cc cl fp) tg1 it1 ci1)
    (hg1 : ∀ s H Cc cl fp, OkG (Γ.blk s H scope Cc cl fp) tg1 cg1) (ht1 : ∀ s H Cc cl fp, OkTs (Γ.blk s H scope Cc cl fp) ifs1 cc1) (he : ∀ s H Cc cl fp, OkE (Γ.blk s H scope Cc cl fp) elt ce)
    (hgw : ∀ j, j ∈ tgs cg → j ∈ own.map (·.2)) :
    NRd Γ (tLc2 (TWi Γ.X tg it) (fun v σ H Q => ∀ s0 H0 Cc cl fp, TWg (Γ.X.blk s0 H0 scope (compEnvC scope cl Cc Γ.X.env) fp) tg v σ H Q)
    (fun σ H Q => ∀ s0 H0 Cc cl fp, TWts (Γ.X.blk s0 H0 scope (compEnvC scope cl Cc Γ.X.env) fp) ifs σ H Q)
    (fun σ H R => ∀ s0 H0 Cc cl fp, TWi (Γ.X.blk s0 H0 scope (compEnvC scope cl Cc Γ.X.env) fp) tg1 it1 σ H R)
    (fun v σ H Q => ∀ s0 H0 Cc cl fp, TWg (Γ.X.blk s0 H0 scope (compEnvC scope cl Cc Γ.X.env) fp) tg1 v σ H Q)
    (fun σ H Q => ∀ s0 H0 Cc cl fp, TWts (Γ.X.blk s0 H0 scope (compEnvC scope cl Cc Γ.X.env) fp) ifs1 σ H Q)
    (fun σ H Q => ∀ s0 H0 Cc cl fp, TW (Γ.X.blk s0 H0 scope (compEnvC scope cl Cc Γ.X.env) fp) elt σ H Q) (own.map (·.2)) (tgs cg1)) (.comp2 (own.map (·.2)) cg ci cc cg1 ci1 cc1 ce) := by
  intro σ ρ κ s H Q hr sl p
  unfold evN at p
  refine hi σ ρ κ s H _ hr sl (Pre.bind p fun xs s1 κ1 H1 J _ t1 h1 wk p1 => ?_)
  intro Dd hD
  have start : HR Γ.X.K Γ.S (κ1.hold Dd) s1 (upd H1 Dd (.lst [])) := h1.hold hD
  refine ⟨fun i m H' => ∃ (c : Cur) (κ' : Gh) (s' : Hs) (acc : List D) (vs : List V), Tr κ1 s1.nx H1 κ' s'.nx H' ∧ HR Γ.X.K Γ.S (κ'.hold Dd) s' H' ∧ H' Dd = some (.lst vs) ∧ Reps Γ.X.K (κ'.hold Dd) s'.nx H' vs acc ∧
      Slots Γ.X.K (κ'.hold Dd) s'.nx H' σ ρ ∧ CurOk Γ.X.K (κ'.hold Dd) s'.nx H' J i c ∧ Pre Γ.X.K Γ.S (RepN Γ.X.K Γ.S H) Q (Γ.E σ) κ1 s1.nx H1 (comp2N _ m c acc s'),
    ⟨_, xs, κ1, s1, [], [], h1.trn hD, start, upd_same, .nil, (sl.tr t1).hold hD, wk.hold hD, p1⟩, ?_⟩
  rintro i m H' ⟨c, κ', s', acc, vs, tr, hr', hDl, rs, sl', wk', pp⟩
  cases m with
  | zero => unfold comp2N at pp; exact pp.elim
  | succ m =>
  unfold comp2N at pp
  cases hnx : c.next s' with
  | lost => rw [hnx] at pp; exact pp.elim
  | item xd c' =>
    rw [hnx] at pp
    dsimp only at pp
    obtain ⟨go, yl⟩ := wk'.at_ hnx hr'
    refine .inr ⟨go, fun H' => ∃ (c : Cur) (κ' : Gh) (s' : Hs) (acc : List D) (vs : List V), Tr κ1 s1.nx H1 κ' s'.nx H' ∧ HR Γ.X.K Γ.S (κ'.hold Dd) s' H' ∧ H' Dd = some (.lst vs) ∧ Reps Γ.X.K (κ'.hold Dd) s'.nx H' vs acc ∧
      Slots Γ.X.K (κ'.hold Dd) s'.nx H' σ ρ ∧ CurOk Γ.X.K (κ'.hold Dd) s'.nx H' J (i + 1) c ∧ Pre Γ.X.K Γ.S (RepN Γ.X.K Γ.S H) Q (Γ.E σ) κ1 s1.nx H1 (comp2N _ m c acc s'), fun H'' hh => ⟨m, by omega, hh⟩, fun x H2 y => ?_⟩
    obtain ⟨t2, h2, r2, w2⟩ := yl x H2 y
    intro s0 H0 Cc cl fp
    cases hq : evG cg xd (wipeD ρ (own.map (·.2))) s' with
    | none => rw [hq] at pp; exact pp.elim
    | some ρ1 =>
    rw [hq] at pp
    dsimp only at pp
    refine hg s0 H0 Cc cl fp _ _ ρ1 (κ'.hold Dd) s' H2 x xd _ h2 ((sl'.tr t2).wipe _) r2 hq fun σ1 sl1 hl1 hσ => ?_
    refine ⟨wipe_eq hl1 hσ hgw, fun s0 H0 Cc cl fp => ?_⟩
    have keep : ∀ {κ4 : Gh} {s4 : Hs} {H4 : Hp}, Tr (κ'.hold Dd) s'.nx H' κ4 s4.nx H4 → HR Γ.X.K Γ.S κ4 s4 H4 → ∃ κ5 : Gh, κ4 = κ5.hold Dd ∧ κ5.R = κ'.R ∧ H4 Dd = some (.lst vs) := fun t h => by
      obtain ⟨κ5, e1, e2⟩ := Gh.eta t.rs
      exact ⟨κ5, e1, e2, (t.rk Dd List.mem_cons_self).trans hDl⟩
    refine ht s0 H0 Cc cl fp σ1 ρ1 (κ'.hold Dd) s' H2 _ h2 sl1 ?_
    cases ec : evE Γ.P Γ.T cc ρ1 s' with
    | stuck => rw [ec] at pp; exact pp.elim
    | exc e0 s3 => rw [ec] at pp; exact pp.elim
    | ok b s3 =>
    rw [ec] at pp
    intro κ3 H3 v t3 h3 r3
    have t13 := t2.trans t3
    cases b with
    | bool b =>
      obtain rfl := bl_of r3
      refine ⟨b, rfl, ?_⟩
      cases b with
      | true =>
        rw [if_pos rfl]
        intro s0 H0 Cc cl fp
        refine hi1 s0 H0 Cc cl fp σ1 ρ1 κ3 s3 H3 _ h3 (sl1.tr t3) ?_
        change Pre _ _ _ _ _ _ _ _ (((evI Γ.P Γ.T ci1 ρ1 s3).bind _).nox.bind _) at pp
        cases ei : evI Γ.P Γ.T ci1 ρ1 s3 with
        | stuck => rw [ei] at pp; exact pp.elim
        | exc e0 s4 => rw [ei] at pp; exact pp.elim
        | ok ys s4 =>
        rw [ei] at pp
        intro κ4 H4 J1 t4 h4 wk4
        have t14 := t13.trans t4
        obtain ⟨κ5, rfl, hR5, hD5⟩ := keep t14 h4
        rw [show ∀ (f : Cur → Hs → Res (List D)), (Res.ok ys s4).bind f = f ys s4 from fun _ => rfl] at pp
        -- the inner walk
        refine ⟨fun j k H' => ∃ (c2 : Cur) (κ' : Gh) (s' : Hs) (acc : List D) (vs : List V), Tr κ1 s1.nx H1 κ' s'.nx H' ∧ HR Γ.X.K Γ.S (κ'.hold Dd) s' H' ∧ H' Dd = some (.lst vs) ∧ Reps Γ.X.K (κ'.hold Dd) s'.nx H' vs acc ∧
          Slots Γ.X.K (κ'.hold Dd) s'.nx H' σ ρ ∧ CurOk Γ.X.K (κ'.hold Dd) s'.nx H' J (i + 1) c' ∧ Slots Γ.X.K (κ'.hold Dd) s'.nx H' σ1 ρ1 ∧ CurOk Γ.X.K (κ'.hold Dd) s'.nx H' J1 j c2 ∧
          Pre Γ.X.K Γ.S (RepN Γ.X.K Γ.S H) Q (Γ.E σ) κ1 s1.nx H1 ((compN _ k c2 acc s').nox.bind fun acc1 s1 => comp2N _ m c' acc1 s1),
          ⟨_, ys, κ5, s4, acc, vs, tr.held hD t14 hR5, h4, hD5, rs.tr t14, sl'.tr t14, w2.tr t14, (sl1.tr t3).tr t4, wk4, pp⟩, ?_⟩
        clear pp
        rintro j k H' ⟨c2, κ', s', acc, vs, tr, hr', hDl, rs, sl', wo, sl1, wk', pp⟩
        have keep : ∀ {κ4 : Gh} {s4 : Hs} {H4 : Hp}, Tr (κ'.hold Dd) s'.nx H' κ4 s4.nx H4 → HR Γ.X.K Γ.S κ4 s4 H4 → ∃ κ5 : Gh, κ4 = κ5.hold Dd ∧ κ5.R = κ'.R ∧ H4 Dd = some (.lst vs) := fun t h => by
          obtain ⟨κ5, e1, e2⟩ := Gh.eta t.rs
          exact ⟨κ5, e1, e2, (t.rk Dd List.mem_cons_self).trans hDl⟩
        cases k with
        | zero => unfold compN at pp; exact pp.elim
        | succ k =>
        unfold compN at pp
        cases hnx : c2.next s' with
        | lost => rw [hnx] at pp; exact pp.elim
        | stop =>
          rw [hnx] at pp
          exact .inl ⟨wk'.stop hr' hnx, c', κ', s', acc, vs, tr, hr', hDl, rs, sl', wo, pp⟩
        | item yd c3 =>
          rw [hnx] at pp
          dsimp only at pp
          obtain ⟨go, yl⟩ := wk'.at_ hnx hr'
          refine .inr ⟨go, fun H' => ∃ (c2 : Cur) (κ' : Gh) (s' : Hs) (acc : List D) (vs : List V), Tr κ1 s1.nx H1 κ' s'.nx H' ∧ HR Γ.X.K Γ.S (κ'.hold Dd) s' H' ∧ H' Dd = some (.lst vs) ∧ Reps Γ.X.K (κ'.hold Dd) s'.nx H' vs acc ∧
            Slots Γ.X.K (κ'.hold Dd) s'.nx H' σ ρ ∧ CurOk Γ.X.K (κ'.hold Dd) s'.nx H' J (i + 1) c' ∧ Slots Γ.X.K (κ'.hold Dd) s'.nx H' σ1 ρ1 ∧ CurOk Γ.X.K (κ'.hold Dd) s'.nx H' J1 (j + 1) c2 ∧
            Pre Γ.X.K Γ.S (RepN Γ.X.K Γ.S H) Q (Γ.E σ) κ1 s1.nx H1 ((compN _ k c2 acc s').nox.bind fun acc1 s1 => comp2N _ m c' acc1 s1), fun H'' hh => ⟨k, by omega, hh⟩, fun x H2 y => ?_⟩
          obtain ⟨t2, h2, r2, w2⟩ := yl x H2 y
          intro s0 H0 Cc cl fp
          cases hq : evG cg1 yd (wipeD ρ1 (tgs cg1)) s' with
          | none => rw [hq] at pp; exact pp.elim
          | some ρ2 =>
          rw [hq] at pp
          dsimp only at pp
          refine hg1 s0 H0 Cc cl fp _ _ ρ2 (κ'.hold Dd) s' H2 x yd _ h2 ((sl1.tr t2).wipe _) r2 hq fun σ2 sl2 hl2 hσ2 => ?_
          refine ⟨wipe_eq hl2 hσ2 (fun j hj => hj), fun s0 H0 Cc cl fp => ?_⟩
          refine ht1 s0 H0 Cc cl fp σ2 ρ2 (κ'.hold Dd) s' H2 _ h2 sl2 ?_
          cases ec : evE Γ.P Γ.T cc1 ρ2 s' with
          | stuck => rw [ec] at pp; exact pp.elim
          | exc e0 s3 => rw [ec] at pp; exact pp.elim
          | ok b s3 =>
          rw [ec] at pp
          intro κ3 H3 v t3 h3 r3
          have t13 := t2.trans t3
          cases b with
          | bool b =>
            obtain rfl := bl_of r3
            refine ⟨b, rfl, ?_⟩
            cases b with
            | true =>
              rw [if_pos rfl]
              intro s0 H0 Cc cl fp
              refine he s0 H0 Cc cl fp σ2 ρ2 κ3 s3 H3 _ h3 (sl2.tr t3) ?_
              change Pre _ _ _ _ _ _ _ _ ((((evE Γ.P Γ.T ce ρ2 s3).bind fun d s4 => .ok (some d) s4).bind _).nox.bind _) at pp
              cases ee : evE Γ.P Γ.T ce ρ2 s3 with
              | stuck => rw [ee] at pp; exact pp.elim
              | exc e0 s4 => rw [ee] at pp; exact pp.elim
              | ok d s4 =>
              rw [ee] at pp
              intro κ4 H4 v4 t4 h4 r4
              have t14 := t13.trans t4
              obtain ⟨κ5, rfl, hR5, hD5⟩ := keep t14 h4
              change Pre _ _ _ _ _ _ _ _ ((if small acc.length = true then _ else _ : Res (List D)).nox.bind _) at pp
              by_cases hz : small acc.length = true
              · rw [if_pos hz] at pp
                refine ⟨vs, hD5, by rw [rs.len]; exact small_lt hz, c3, κ5, s4, acc ++ [d], vs ++ [v4], ?_, h4.setr List.mem_cons_self hD5, upd_same, ?_, ?_, ?_, ?_, ?_, ?_⟩
                · exact (tr.held hD t14 hR5).setp hD (h1.fresh hD).2
                · exact ((rs.tr t14).append (.cons r4 .nil)).tr1 (HR.tr1r List.mem_cons_self)
                · exact (sl'.tr t14).tr1 (HR.tr1r List.mem_cons_self)
                · exact (wo.tr t14).setr List.mem_cons_self hD5
                · exact (sl1.tr t14).tr1 (HR.tr1r List.mem_cons_self)
                · exact (w2.tr t14).setr List.mem_cons_self hD5
                · exact pp
              · rw [if_neg hz] at pp; exact pp.elim
            | false =>
              rw [if_neg (by decide)]
              obtain ⟨κ5, rfl, hR5, hD5⟩ := keep t13 h3
              exact ⟨c3, κ5, s3, acc, vs, tr.held hD t13 hR5, h3, hD5, rs.tr t13, sl'.tr t13, wo.tr t13, sl1.tr t13, w2.tr t13, pp⟩
          | _ => exact pp.elim
      | false =>
        rw [if_neg (by decide)]
        obtain ⟨κ5, rfl, hR5, hD5⟩ := keep t13 h3
        exact ⟨c', κ5, s3, acc, vs, tr.held hD t13 hR5, h3, hD5, rs.tr t13, sl'.tr t13, w2.tr t13, pp⟩
    | _ => exact pp.elim
  | stop =>
    rw [hnx] at pp
    refine .inl ⟨wk'.stop hr' hnx, ?_⟩
    refine pp κ' H' _ tr ?_ ⟨Dd, vs, rfl, hDl, t1.none' hr h1 hD, hr'.res1 List.mem_cons_self hDl, ?_, rs, hr'⟩
    · exact hr'.unhold hDl
    · rw [tr.rs]
      exact (h1.fresh hD).2
theorem okn_comp2 {elt it it1 tg1 : Expr} {ifs ifs1 : List Expr} {scope : Scope} {own : List (Str × Nat)} {cg ci cc cg1 ci1 cc1 ce : C} (hc : Γ.X.calm = true) (hN : Γ.X.N.Nodup) (ok : BlkOk Γ.X.N Γ.X.env.scope scope own)
    (hs : ∀ x, foldedSetIterable it Γ.X.env x = pure x) (hs1 : ∀ env x, foldedSetIterable it1 env x = pure x) (hi : OkI Γ tg it ci)
    (hg : ∀ s H Cc cl fp, OkG (Γ.blk s H scope Cc cl fp) tg cg) (ht : ∀ s H Cc cl fp, OkTs (Γ.blk s H scope Cc cl fp) ifs cc) (hi1 : ∀ s H Cc cl fp, OkI (Γ.blk s H scope Cc cl fp) tg1 it1 ci1)
    (hg1 : ∀ s H Cc cl fp, OkG (Γ.blk s H scope Cc cl fp) tg1 cg1) (ht1 : ∀ s H Cc cl fp, OkTs (Γ.blk s H scope Cc cl fp) ifs1 cc1) (he : ∀ s H Cc cl fp, OkE (Γ.blk s H scope Cc cl fp) elt ce)
    (hgw : ∀ j, j ∈ tgs cg → j ∈ own.map (·.2)) (hgw1 : ∀ j, j ∈ tgs cg1 → j ∈ own.map (·.2)) :
    OkN Γ (.ListComp elt [⟨tg, it, ifs, 0⟩, ⟨tg1, it1, ifs1, 0⟩] scope pos) (.comp2 (own.map (·.2)) cg ci cc cg1 ci1 cc1 ce) := by
  intro σ ρ κ s H Q hr sl p
  refine twE (pe_lc2 hc hN piW ok hgw1 (fun s0 H0 Cc cl fp => ⟨fun pins s σ H v u Q I r h => h s0 H0 Cc cl fp pins s u I r⟩) (fun s0 H0 Cc cl fp => ⟨fun pins s σ H Q I h => h s0 H0 Cc cl fp pins s I⟩)
    (fun s0 H0 Cc cl fp => ⟨fun pins s σ H R I h => h s0 H0 Cc cl fp pins s I⟩) (fun s0 H0 Cc cl fp => ⟨fun pins s σ H v u Q I r h => h s0 H0 Cc cl fp pins s u I r⟩) (fun s0 H0 Cc cl fp => ⟨fun pins s σ H Q I h => h s0 H0 Cc cl fp pins s I⟩)
    (fun s0 H0 Cc cl fp => ⟨fun pins s σ H Q I h => h s0 H0 Cc cl fp pins s I⟩) hs hs1)
    (comp2_rd hi hg ht hi1 hg1 ht1 he hgw σ ρ κ s H Q hr sl p)
theorem okn_comp {elt it : Expr} {ifs : List Expr} {scope : Scope} {own : List (Str × Nat)} {cg ci cc ce : C} (hc : Γ.X.calm = true) (hN : Γ.X.N.Nodup) (ok : BlkOk Γ.X.N Γ.X.env.scope scope own)
    (hs : ∀ x, foldedSetIterable it Γ.X.env x = pure x) (hi : OkI Γ tg it ci)
    (hg : ∀ s H Cc cl fp, OkG (Γ.blk s H scope Cc cl fp) tg cg) (ht : ∀ s H Cc cl fp, OkTs (Γ.blk s H scope Cc cl fp) ifs cc) (he : ∀ s H Cc cl fp, OkE (Γ.blk s H scope Cc cl fp) elt ce)
    (hgw : ∀ j, j ∈ tgs cg → j ∈ own.map (·.2)) :
    OkN Γ (.ListComp elt [⟨tg, it, ifs, 0⟩] scope pos) (.comp (own.map (·.2)) cg ci cc ce) := by
  intro σ ρ κ s H Q hr sl p
  refine twE (pe_lc hc hN piW ok (fun s0 H0 Cc cl fp => ⟨fun pins s σ H v u Q I r h => h s0 H0 Cc cl fp pins s u I r⟩) (fun s0 H0 Cc cl fp => ⟨fun pins s σ H Q I h => h s0 H0 Cc cl fp pins s I⟩) (fun s0 H0 Cc cl fp => ⟨fun pins s σ H Q I h => h s0 H0 Cc cl fp pins s I⟩) hs)
    (comp_rd hi hg ht he hgw σ ρ κ s H Q hr sl p)
/-- .. given to a name on its line -/
theorem oks_setLc {elt it : Expr} {ifs : List Expr} {scope : Scope} {own : List (Str × Nat)} {cg ci cc ce : C} {i : Nat} {y : Str} {py spos : Pos} {cn : C} (hcn : cn = .newT (.comp (own.map (·.2)) cg ci cc ce) ∨ cn = .newC (.comp (own.map (·.2)) cg ci cc ce)) (hc : Γ.X.calm = true) (hN : Γ.X.N.Nodup) (hy : Γ.X.N[i]? = some y) (hyl : Γ.X.env.scope.names.lookup y = some .local) (ok : BlkOk Γ.X.N Γ.X.env.scope scope own)
    (hsw : swapsWith (.ListComp elt [⟨tg, it, ifs, 0⟩] scope pos) (some (.Name y py)) spos.line Γ.X.env = pure true) (hs : ∀ x, foldedSetIterable it Γ.X.env x = pure x) (hi : OkI Γ tg it ci)
    (hg : ∀ s H Cc cl fp, OkG (Γ.blk s H scope Cc cl fp) tg cg) (ht : ∀ s H Cc cl fp, OkTs (Γ.blk s H scope Cc cl fp) ifs cc) (he : ∀ s H Cc cl fp, OkE (Γ.blk s H scope Cc cl fp) elt ce)
    (hgw : ∀ j, j ∈ tgs cg → j ∈ own.map (·.2)) :
    ∃ te : TE, ERd Γ te cn ∧ PS Γ.X (.Assign [.Name y py] (.ListComp elt [⟨tg, it, ifs, 0⟩] scope pos) spos) (tAsg te (gName i)) := by
  refine ⟨(tLc (TWi Γ.X tg it) (fun v σ H Q => ∀ s0 H0 Cc cl fp, TWg (Γ.X.blk s0 H0 scope (compEnvC scope cl Cc Γ.X.env) fp) tg v σ H Q)
    (fun σ H Q => ∀ s0 H0 Cc cl fp, TWts (Γ.X.blk s0 H0 scope (compEnvC scope cl Cc Γ.X.env) fp) ifs σ H Q)
    (fun σ H Q => ∀ s0 H0 Cc cl fp, TW (Γ.X.blk s0 H0 scope (compEnvC scope cl Cc Γ.X.env) fp) elt σ H Q) (own.map (·.2))), ?_, ps_setLc hc hN hy hyl hsw piW ok (fun s0 H0 Cc cl fp => ⟨fun pins s σ H v u Q I r h => h s0 H0 Cc cl fp pins s u I r⟩) (fun s0 H0 Cc cl fp => ⟨fun pins s σ H Q I h => h s0 H0 Cc cl fp pins s I⟩) (fun s0 H0 Cc cl fp => ⟨fun pins s σ H Q I h => h s0 H0 Cc cl fp pins s I⟩) hs⟩
  rcases hcn with rfl | rfl
  · exact newT_rd (comp_rd hi hg ht he hgw)
  · exact newC_rd (comp_rd hi hg ht he hgw)

theorem oks_setLc2 {elt it it1 tg1 : Expr} {ifs ifs1 : List Expr} {scope : Scope} {own : List (Str × Nat)} {cg ci cc cg1 ci1 cc1 ce : C} {i : Nat} {y : Str} {py spos : Pos} {cn : C} (hcn : cn = .newT (.comp2 (own.map (·.2)) cg ci cc cg1 ci1 cc1 ce) ∨ cn = .newC (.comp2 (own.map (·.2)) cg ci cc cg1 ci1 cc1 ce)) (hc : Γ.X.calm = true) (hN : Γ.X.N.Nodup) (hy : Γ.X.N[i]? = some y) (hyl : Γ.X.env.scope.names.lookup y = some .local) (ok : BlkOk Γ.X.N Γ.X.env.scope scope own)
    (hsw : swapsWith (.ListComp elt [⟨tg, it, ifs, 0⟩, ⟨tg1, it1, ifs1, 0⟩] scope pos) (some (.Name y py)) spos.line Γ.X.env = pure true)
    (hs : ∀ x, foldedSetIterable it Γ.X.env x = pure x) (hs1 : ∀ env x, foldedSetIterable it1 env x = pure x) (hi : OkI Γ tg it ci)
    (hg : ∀ s H Cc cl fp, OkG (Γ.blk s H scope Cc cl fp) tg cg) (ht : ∀ s H Cc cl fp, OkTs (Γ.blk s H scope Cc cl fp) ifs cc) (hi1 : ∀ s H Cc cl fp, OkI (Γ.blk s H scope Cc cl fp) tg1 it1 ci1)
    (hg1 : ∀ s H Cc cl fp, OkG (Γ.blk s H scope Cc cl fp) tg1 cg1) (ht1 : ∀ s H Cc cl fp, OkTs (Γ.blk s H scope Cc cl fp) ifs1 cc1) (he : ∀ s H Cc cl fp, OkE (Γ.blk s H scope Cc cl fp) elt ce)
    (hgw : ∀ j, j ∈ tgs cg → j ∈ own.map (·.2)) (hgw1 : ∀ j, j ∈ tgs cg1 → j ∈ own.map (·.2)) :
    ∃ te : TE, ERd Γ te cn ∧ PS Γ.X (.Assign [.Name y py] (.ListComp elt [⟨tg, it, ifs, 0⟩, ⟨tg1, it1, ifs1, 0⟩] scope pos) spos) (tAsg te (gName i)) := by
  refine ⟨(tLc2 (TWi Γ.X tg it) (fun v σ H Q => ∀ s0 H0 Cc cl fp, TWg (Γ.X.blk s0 H0 scope (compEnvC scope cl Cc Γ.X.env) fp) tg v σ H Q)
    (fun σ H Q => ∀ s0 H0 Cc cl fp, TWts (Γ.X.blk s0 H0 scope (compEnvC scope cl Cc Γ.X.env) fp) ifs σ H Q)
    (fun σ H R => ∀ s0 H0 Cc cl fp, TWi (Γ.X.blk s0 H0 scope (compEnvC scope cl Cc Γ.X.env) fp) tg1 it1 σ H R)
    (fun v σ H Q => ∀ s0 H0 Cc cl fp, TWg (Γ.X.blk s0 H0 scope (compEnvC scope cl Cc Γ.X.env) fp) tg1 v σ H Q)
    (fun σ H Q => ∀ s0 H0 Cc cl fp, TWts (Γ.X.blk s0 H0 scope (compEnvC scope cl Cc Γ.X.env) fp) ifs1 σ H Q)
    (fun σ H Q => ∀ s0 H0 Cc cl fp, TW (Γ.X.blk s0 H0 scope (compEnvC scope cl Cc Γ.X.env) fp) elt σ H Q) (own.map (·.2)) (tgs cg1)), ?_, ps_setLc2 hc hN hy hyl hsw piW ok hgw1 (fun s0 H0 Cc cl fp => ⟨fun pins s σ H v u Q I r h => h s0 H0 Cc cl fp pins s u I r⟩) (fun s0 H0 Cc cl fp => ⟨fun pins s σ H Q I h => h s0 H0 Cc cl fp pins s I⟩)
    (fun s0 H0 Cc cl fp => ⟨fun pins s σ H R I h => h s0 H0 Cc cl fp pins s I⟩) (fun s0 H0 Cc cl fp => ⟨fun pins s σ H v u Q I r h => h s0 H0 Cc cl fp pins s u I r⟩) (fun s0 H0 Cc cl fp => ⟨fun pins s σ H Q I h => h s0 H0 Cc cl fp pins s I⟩)
    (fun s0 H0 Cc cl fp => ⟨fun pins s σ H Q I h => h s0 H0 Cc cl fp pins s I⟩) hs hs1⟩
  rcases hcn with rfl | rfl
  · exact newT_rd (comp2_rd hi hg ht hi1 hg1 ht1 he hgw)
  · exact newC_rd (comp2_rd hi hg ht hi1 hg1 ht1 he hgw)

end
end Ev

set_option Elab.async false
set_option linter.all false
set_option maxRecDepth 100000
set_option maxHeartbeats 1000000
namespace Ev
open PySem PySem.Spec PyProof.Rows L2

section
variable {Γ : Set0}
variable {tg a b e o : Expr} {ca cb c ct co : C} {es : List Expr} {pos apos : Pos} {k f : Nat} {fa : Addr} {x m : Str}

/-- a def runs, by values -/
theorem run_def {σ : St} {pins : List (Addr × Obj)} {s0 : Shared} {κ : Gh} {s : Hs} {H : Hp} {Q : VK} {vs : List V} {us : List Value} {ds : List D} (dk : DefOk Γ k f fa) (hroom : Room k Γ.X.A) (tk : Takes Γ.X Γ.W)
    (I : Inv Γ.X pins σ H s0) (rv : Vals vs us) (hr : HR Γ.X.K Γ.S κ s H) (rs : Reps Γ.X.K κ s.nx H vs ds) (p : Pre Γ.X.K Γ.S (RepD Γ.X.K) Q (Γ.E σ) κ s.nx H (Γ.T f ds s)) :
    wpAny (model Γ.X.prog Γ.X.w) Γ.X.A (call (.ref fa) us) (EP Γ.X pins σ Q) Γ.X.xe s0 := by
  obtain ⟨fd, ps, hb, F, hlen⟩ := dk.fn
  have hl : ds.length = ps.length := by
    by_cases h : ds.length = ps.length
    · exact h
    · rw [hlen ds s h] at p; exact p.elim
  exact run_fnS (E := fun σ => WE Γ.W σ) F hroom hb (passAt tk σ) I rv ⟨rs.len.trans hl, κ, s, ds, hr, rs, p⟩
theorem ok_call (dk : DefOk Γ k f fa) (hroom : Room k Γ.X.A) (tk : Takes Γ.X Γ.W) (hg : Gl Γ.X x) (hm : Γ.X.mg x = some (.ref fa)) (hdb : (x == ("__debug__" : Str)) = false) {p0 : Pos}
    (ha : OkA Γ (e :: es) ca) (he : starEach (e :: es) Γ.X.env = (false, eval e Γ.X.env) :: starEach es Γ.X.env) (hpl : (backTo pos (starEach es Γ.X.env)).any (·.1) = false) :
    OkE Γ (.Call (.Name x p0) (e :: es) [] pos) (.call f ca) := by
  intro σ ρ κ s H Q hr sl p pins s0 I
  unfold evE at p
  refine wpAny_Call_Name_kw (ld_glob I hg hm ?_ hdb)
  refine PySem.W.callWith_K (h₀ := Γ.X.base) I.ok.mod.kin dk.kp (thn (ha.use (Q := fun vs H1 => ∀ us pins s1, Inv Γ.X pins σ H1 s1 → Vals vs us → wpAny (model Γ.X.prog Γ.X.w) Γ.X.A (call (.ref fa) us) (EP Γ.X pins σ Q) Γ.X.xe s1) hr sl p
    (fun ds s1 κ1 H1 vs t1 h1 sl1 rs p1 us pins s2 I2 rv => run_def dk hroom tk I2 rv h1 rs p1) pos pins s0 I) fun us s1 ⟨vs, H1, I1, r, q⟩ => ⟨I1.kIn, q us pins s1 I1 r⟩) he hpl
theorem ok_call0 (dk : DefOk Γ k f fa) (hroom : Room k Γ.X.A) (tk : Takes Γ.X Γ.W) (hg : Gl Γ.X x) (hm : Γ.X.mg x = some (.ref fa)) (hdb : (x == ("__debug__" : Str)) = false) {p0 : Pos} :
    OkE Γ (.Call (.Name x p0) [] [] pos) (.call f .nil) := by
  intro σ ρ κ s H Q hr sl p pins s0 I
  unfold evE evA at p
  refine wpAny_Call_Name_kw (ld_glob I hg hm ?_ hdb)
  exact PySem.W.callWith_K0 I.kIn dk.kp (run_def (us := []) dk hroom tk I .nil hr .nil p)

/-! #### objects -/
theorem cell_case {n : Nat} {v : V} {κ : Gh} {s : Hs} {H : Hp} {kC : Nat} {fs : List (Nat × D)} (h1 : HR Γ.X.K Γ.S κ s H) (r : Rep Γ.X.K κ s.nx H v (cel n)) (e : s.h n = .ins kC fs) :
    v = .ref (κ.f n) ∧ n < s.nx ∧ ∃ dx xs, H (κ.f n) = some (.ins (Γ.S.cls kC) dx xs) ∧ Cls Γ.X.K (Γ.S.cls kC) ∧ fs.length < 1000 ∧ FVs Γ.X.K Γ.S κ s.nx H kC xs fs := by
  obtain ⟨rfl, hn⟩ := cel_of r
  have q := h1.ok n hn
  rw [e] at q
  exact ⟨rfl, hn, q⟩
theorem ok_fld (hf : Γ.S.fld f = x) (h : OkE Γ e c) (hb : attributeBase e x Γ.X.env (eval e Γ.X.env) = eval e Γ.X.env) : OkE Γ (.Attribute e x pos) (.fld c f) := by
  intro σ ρ κ s H Q hr sl p
  unfold evE at p
  refine twE (pe_fld peW hb) ?_
  refine h.use hr sl p fun d s1 κ1 H1 v t1 h1 sl1 r p1 => ?_
  unfold fldE at p1
  split at p1
  · rename_i n
    split at p1
    · rename_i kC fs hc
      split at p1
      · rename_i d hd
        obtain ⟨rfl, hn, dx, xs, q1, q2, q3, q4⟩ := cell_case h1 r hc
        obtain ⟨z1, z2, w, z3, z4⟩ := q4.look hd
        subst hf
        exact ⟨_, _, dx, xs, w, rfl, q1, q2, z2, z3, p1.give h1 z4⟩
      · exact p1.elim
    · exact p1.elim
  · exact p1.elim
/-- a class's method -/
structure MethOk (Γ : Set0) (k m : Nat) (ms : Str) : Prop where
  at_ : ∀ kC f, Γ.P.meth kC m = some f → ∃ fa, Meth Γ.X.K (Γ.S.cls kC) ms fa ∧ DefOk Γ k f fa
theorem meth_ne {K : PySem.W.Frag} {C : Addr} {m : Str} {f : Addr} (h : Meth K C m f) : PySem.W.findIn K (.ref C) m ≠ some none := by
  rw [h.at_]; intro e; cases e
theorem methF_some {P : Prog} {mi f : Nat} {d : D} {s : Hs} (h : methF P mi d s = some f) : ∃ n kC fs, d = cel n ∧ s.h n = .ins kC fs ∧ P.meth kC mi = some f := by
  unfold methF at h
  split at h
  · rename_i n
    split at h
    · rename_i kC fs hc
      exact ⟨n, kC, fs, rfl, hc, h⟩
    · cases h
  · cases h
def TWm (X : Cx) (m : Str) (σ : St) (Q : VK) (R : Addr → Hp → Prop) : VK := fun v H1 => ∃ a fa C dx xs, v = .ref a ∧ H1 a = some (.ins C dx xs) ∧ Cls X.K C ∧ Meth X.K C m fa ∧ xs.lookup m = none ∧ True
theorem ok_meth {mi : Nat} (mk : MethOk Γ k mi m) (hroom : Room k Γ.X.A) (tk : Takes Γ.X Γ.W) (ho : OkE Γ o co) (ha : OkA Γ (e :: es) ca) {pl : Sem Bool}
    (hst : starEach (e :: es) Γ.X.env = (false, eval e Γ.X.env) :: starEach es Γ.X.env) (hpl : (backTo pos (starEach es Γ.X.env)).any (·.1) = false)
    (ht : eval (.Call (.Attribute o m apos) (e :: es) [] pos) Γ.X.env = (do
      let ov ← eval o Γ.X.env
      standAt apos.atName
      let (f, first) ← holding [ov] (getMethod ov m pl)
      callWith pos f first (backTo pos (starEach (e :: es) Γ.X.env)) (backToKw pos (keywordEach [] Γ.X.env)))) :
    OkE Γ (.Call (.Attribute o m apos) (e :: es) [] pos) (.meth mi co ca) := by
  intro σ ρ κ s H Q hr sl p pins s0 I
  unfold evE at p
  refine PySem.W.methodCall_KW (pl := pl) (thn (ho.use (Q := fun v H1 => ∃ a fa C dx xs, v = .ref a ∧ H1 a = some (.ins C dx xs) ∧ Cls Γ.X.K C ∧ Meth Γ.X.K C m fa ∧ xs.lookup m = none ∧ (TWa Γ.X (e :: es) σ H1 fun vs H2 => ∀ us pins s1, Inv Γ.X pins σ H2 s1 → Vals vs us → wpAny (model Γ.X.prog Γ.X.w) Γ.X.A (call (.ref fa) (.ref a :: us)) (EP Γ.X pins σ Q) Γ.X.xe s1)) hr sl p ?_ pins s0 I) fun u s1 ⟨x, H1, I1, rx, a, fa, C, dx, xs, ex, ea, cl, hme, l, q⟩ => ?_) ht
  · intro d s1 κ1 H1 v t1 h1 sl1 r p1
    cases hm : methF Γ.P mi d s1 with
    | none => rw [hm] at p1; exact p1.elim
    | some f =>
      rw [hm] at p1
      obtain ⟨n, kC, fs, rfl, hc, hmm⟩ := methF_some hm
      obtain ⟨fa, me, dk⟩ := mk.at_ kC f hmm
      obtain ⟨rfl, hn, dx, xs, q1, q2, q3, q4⟩ := cell_case h1 r hc
      refine ⟨_, fa, _, dx, xs, rfl, q1, q2, me, q4.miss (meth_ne me), ?_⟩
      refine ha.use h1 sl1 p1 fun ds s2 κ2 H2 vs t2 h2 sl2 rs p2 us pins s3 I3 rv => ?_
      exact run_def (us := .ref _ :: us) (vs := .ref _ :: vs) dk hroom tk I3 (.cons rfl rv) h2 (.cons (r.tr t2) rs) p2
  · subst ex
    obtain rfl : u = Value.ref a := rx
    refine getmeth_ok I1 ea cl hme l ?_
    refine PySem.W.callWith_K (first := [.ref a]) (h₀ := Γ.X.base) I.ok.mod.kin hme.kp (thn (q pos pins s1 I1) fun us s2 ⟨vs, H2, I2, r, q2⟩ => ⟨I2.kIn, ?_⟩) hst hpl
    exact q2 us pins s2 I2 r
theorem ok_meth0 {mi : Nat} (mk : MethOk Γ k mi m) (hroom : Room k Γ.X.A) (tk : Takes Γ.X Γ.W) (ho : OkE Γ o co) {pl : Sem Bool}
    (ht : eval (.Call (.Attribute o m apos) [] [] pos) Γ.X.env = (do
      let ov ← eval o Γ.X.env
      standAt apos.atName
      let (f, first) ← holding [ov] (getMethod ov m pl)
      callWith pos f first (backTo pos (starEach [] Γ.X.env)) (backToKw pos (keywordEach [] Γ.X.env)))) :
    OkE Γ (.Call (.Attribute o m apos) [] [] pos) (.meth mi co .nil) := by
  intro σ ρ κ s H Q hr sl p pins s0 I
  unfold evE at p
  refine PySem.W.methodCall_KW (pl := pl) (thn (ho.use (Q := fun v H1 => ∃ a fa C dx xs, v = .ref a ∧ H1 a = some (.ins C dx xs) ∧ Cls Γ.X.K C ∧ Meth Γ.X.K C m fa ∧ xs.lookup m = none ∧ (∀ pins s1, Inv Γ.X pins σ H1 s1 → wpAny (model Γ.X.prog Γ.X.w) Γ.X.A (call (.ref fa) [.ref a]) (EP Γ.X pins σ Q) Γ.X.xe s1)) hr sl p ?_ pins s0 I) fun u s1 ⟨x, H1, I1, rx, a, fa, C, dx, xs, ex, ea, cl, hme, l, q⟩ => ?_) ht
  · intro d s1 κ1 H1 v t1 h1 sl1 r p1
    cases hm : methF Γ.P mi d s1 with
    | none => rw [hm] at p1; exact p1.elim
    | some f =>
      rw [hm] at p1
      unfold evA at p1
      obtain ⟨n, kC, fs, rfl, hc, hmm⟩ := methF_some hm
      obtain ⟨fa, me, dk⟩ := mk.at_ kC f hmm
      obtain ⟨rfl, hn, dx, xs, q1, q2, q3, q4⟩ := cell_case h1 r hc
      refine ⟨_, fa, _, dx, xs, rfl, q1, q2, me, q4.miss (meth_ne me), fun pins s3 I3 => ?_⟩
      exact run_def (us := [.ref _]) (vs := [.ref _]) dk hroom tk I3 (.cons rfl .nil) h1 (.cons r .nil) p1
  · subst ex
    obtain rfl : u = Value.ref a := rx
    refine getmeth_ok I1 ea cl hme l ?_
    exact PySem.W.callWith_K0 (first := [.ref a]) I1.kIn hme.kp (q pins s1 I1)

/-! #### instances made -/
structure MakeOk (Γ : Set0) (k kC : Nat) (f : Nat) (fa : Addr) : Prop where
  mkk : Mk Γ.X.K (Γ.S.cls kC) fa
  cl : Cls Γ.X.K (Γ.S.cls kC)
  dk : DefOk Γ k f fa
theorem run_mk {kC : Nat} {σ : St} {pins : List (Addr × Obj)} {s0 : Shared} {κ : Gh} {s : Hs} {H : Hp} {Q : VK} {vs : List V} {us : List Value} {ds : List D} (mo : MakeOk Γ k kC f fa) (hf : Γ.P.init kC = some f) (hroom : Room (k + 1) Γ.X.A) (tk : Takes Γ.X Γ.W)
    (I : Inv Γ.X pins σ H s0) (rv : Vals vs us) (hr : HR Γ.X.K Γ.S κ s H) (rs : Reps Γ.X.K κ s.nx H vs ds) (p : Pre Γ.X.K Γ.S (RepD Γ.X.K) Q (Γ.E σ) κ s.nx H (makeE Γ.P Γ.T kC ds s)) :
    wpAny (model Γ.X.prog Γ.X.w) Γ.X.A (call (.ref (Γ.S.cls kC)) us) (EP Γ.X pins σ Q) Γ.X.xe s0 := by
  obtain ⟨fd, ps, hb, F, hlen⟩ := mo.dk.fn
  unfold makeE at p
  rw [hf] at p
  dsimp only at p
  have hl : (cel s.nx :: ds).length = ps.length := by
    by_cases h : (cel s.nx :: ds).length = ps.length
    · exact h
    · rw [hlen _ _ h] at p; exact p.elim
  -- the state with the new instance
  have a0 : s0.heap.objs.size ≠ s0.heap.objs.size + 1 := Nat.ne_of_lt (Nat.lt_succ_self _)
  have n1 : H s0.heap.objs.size = none := I.hok.fresh (Nat.le_refl _)
  have n2 : H (s0.heap.objs.size + 1) = none := I.hok.fresh (Nat.le_succ _)
  have I2 := Inv.made (C := Γ.S.cls kC) I
  have n2' : (upd H s0.heap.objs.size (.own (s0.heap.objs.size + 1))) (s0.heap.objs.size + 1) = none := by rw [upd_ne (Ne.symm a0)]; exact n2
  have h1 : HR Γ.X.K Γ.S κ s (upd H s0.heap.objs.size (.own (s0.heap.objs.size + 1))) := hr.new n1
  have h2 := h1.push (o := .ins (Γ.S.cls kC) s0.heap.objs.size []) (c := .ins kC []) n2' ⟨_, _, upd_same, mo.cl, by decide, .nil⟩
  have t1 : Tr κ s.nx H (κ.add s.nx (s0.heap.objs.size + 1)) (s.nx + 1) _ := (hr.trn (o := .own (s0.heap.objs.size + 1)) n1).trans (h1.trp (o := .ins (Γ.S.cls kC) s0.heap.objs.size []) n2')
  have r2 : Vals (V.ref (s0.heap.objs.size + 1) :: vs) (Value.ref (s0.heap.objs.size + 1) :: us) := .cons rfl rv
  have hl2 : (Value.ref (s0.heap.objs.size + 1) :: us).length = ps.length := by rw [← hl, List.length_cons, List.length_cons, ← rv.length, rs.len]
  have rcel : ∀ HH : Hp, Rep Γ.X.K (κ.add s.nx (s0.heap.objs.size + 1)) (s.nx + 1) HH (V.ref (s0.heap.objs.size + 1)) (cel s.nx) := fun _ => .cel (Nat.lt_succ_self _) Gh.add_at.symm
  have b := hb _ (Value.ref (s0.heap.objs.size + 1) :: us) I2.kIn (by rw [List.append_nil]; exact hl2)
  rw [List.append_nil] at b
  refine wpAny_call (make_map (f := fa) I.kIn mo.mkk.makes mo.mkk.init (beq_iff_eq.mp mo.mkk.fn) (codeAny_mono (F.run _ Γ.X.stack _ _ ⟨Value.ref (s0.heap.objs.size + 1) :: us, []⟩ (Value.ref (s0.heap.objs.size + 1) :: us) _ (fun v H2 => v = .non ∧ Q (.ref (s0.heap.objs.size + 1)) H2) (WE Γ.W σ) (hroom.make _ us [])
    (I2.env0.make _ us []) b r2 ⟨r2.length.trans hl2, κ.add s.nx (s0.heap.objs.size + 1), s.push (.ins kC []), cel s.nx :: ds, h2, .cons (rcel _) (rs.tr t1), ?_⟩) fun r s' hq' => ?_))
  · refine Pre.bind (p.tr t1) fun d s3 κ3 H3 v e3 t3 h3 r3 p3 => ?_
    cases d with
    | none => exact ⟨non_of r3, p3.give h3 ((rcel _).tr t3)⟩
    | _ => exact p3.elim
  · cases r with
    | error e => exact passAt tk σ pins _ _ e s' I2 hq'
    | ok fl =>
      cases fl with
      | ret u =>
        obtain ⟨v, H', I3, rv, ev, q3⟩ := I2.after hq'
        subst ev
        exact ⟨rv, ⟨V.ref (s0.heap.objs.size + 1), H', I3, rfl, q3⟩⟩
      | next => exact False.elim hq'
      | brk => exact False.elim hq'
      | cont => exact False.elim hq'
theorem ok_make {kC : Nat} (mo : MakeOk Γ k kC f fa) (hf : Γ.P.init kC = some f) (hroom : Room (k + 1) Γ.X.A) (tk : Takes Γ.X Γ.W) (hg : Gl Γ.X x) (hm : Γ.X.mg x = some (.ref (Γ.S.cls kC))) (hdb : (x == ("__debug__" : Str)) = false) {p0 : Pos}
    (ha : OkA Γ (e :: es) ca) (he : starEach (e :: es) Γ.X.env = (false, eval e Γ.X.env) :: starEach es Γ.X.env) (hpl : (backTo pos (starEach es Γ.X.env)).any (·.1) = false) :
    OkE Γ (.Call (.Name x p0) (e :: es) [] pos) (.make kC ca) := by
  intro σ ρ κ s H Q hr sl p pins s0 I
  unfold evE at p
  refine wpAny_Call_Name_kw (ld_glob I hg hm ?_ hdb)
  refine PySem.W.callWith_K (h₀ := Γ.X.base) I.ok.mod.kin mo.mkk.kp (thn (ha.use (Q := fun vs H1 => ∀ us pins s1, Inv Γ.X pins σ H1 s1 → Vals vs us → wpAny (model Γ.X.prog Γ.X.w) Γ.X.A (call (.ref (Γ.S.cls kC)) us) (EP Γ.X pins σ Q) Γ.X.xe s1) hr sl p
    (fun ds s1 κ1 H1 vs t1 h1 sl1 rs p1 us pins s2 I2 rv => run_mk mo hf hroom tk I2 rv h1 rs p1) pos pins s0 I) fun us s1 ⟨vs, H1, I1, r, q⟩ => ⟨I1.kIn, q us pins s1 I1 r⟩) he hpl

/-! #### items, built-ins -/
/-- what a built-in gives is met by its values -/
def BiX (Γ : Set0) (fv : Value) (g : List D → Hs → Res D) : Prop := ∀ pins s0 σ κ s H vs ds us Q, Inv Γ.X pins σ H s0 → Vals vs us → HR Γ.X.K Γ.S κ s H → Reps Γ.X.K κ s.nx H vs ds →
  Pre Γ.X.K Γ.S (RepD Γ.X.K) Q (fun _ _ => False) κ s.nx H (g ds s) → wpAny (model Γ.X.prog Γ.X.w) Γ.X.A (call fv us) (EP Γ.X pins σ Q) Γ.X.xe s0
def BiN (Γ : Set0) (fv : Value) (g : List D → Hs → Res (List D)) : Prop := ∀ pins s0 σ κ s H H0 vs ds us Q, Inv Γ.X pins σ H s0 → Vals vs us → HR Γ.X.K Γ.S κ s H → (∀ p, H p = none → HN H0 p) → Reps Γ.X.K κ s.nx H vs ds →
  Pre Γ.X.K Γ.S (RepN Γ.X.K Γ.S H0) Q (fun _ _ => False) κ s.nx H (g ds s) → wpAny (model Γ.X.prog Γ.X.w) Γ.X.A (call fv us) (EP Γ.X pins σ Q) Γ.X.xe s0
theorem ok_bcall {bi : Bi} {id : String} {p0 : Pos} (hx : BiX Γ (.builtin id) (biE bi)) (hn : ∀ ds s, NoExc (biE bi ds s)) (hg : Gl Γ.X x) (hm : Γ.X.mg x = none) (hv : bootBuiltins x = some (.builtin id)) (ha : OkA Γ (e :: es) ca) (hnm : x ≠ "__name__") (hdb : (x == ("__debug__" : Str)) = false)
    (he : starEach (e :: es) Γ.X.env = (false, eval e Γ.X.env) :: starEach es Γ.X.env) (hpl : (backTo pos (starEach es Γ.X.env)).any (·.1) = false) : OkE Γ (.Call (.Name x p0) (e :: es) [] pos) (.bcall bi ca) := by
  intro σ ρ κ s H Q hr sl p pins s0 I
  unfold evE at p
  refine wpAny_Call_Name_kw (ld_blt I hg hm hv ?_ hnm hdb)
  exact PyProof.Rows.callWith_builtin1 (thn (ha.use (Q := fun vs H1 => ∀ us pins s1, Inv Γ.X pins σ H1 s1 → Vals vs us → wpAny (model Γ.X.prog Γ.X.w) Γ.X.A (call (.builtin id) us) (EP Γ.X pins σ Q) Γ.X.xe s1) hr sl p
    (fun ds s1 κ1 H1 vs t1 h1 sl1 rs p1 us pins s2 I2 rv => hx pins s2 σ κ1 s1 H1 vs ds us Q I2 rv h1 rs (p1.noexc (hn _ _))) pos pins s0 I) fun us s1 ⟨vs, H1, I1, r, q⟩ => q us pins s1 I1 r) he hpl
theorem ok_bcallT {bi : Bi} {T : String} {p0 : Pos} (hx : BiX Γ (.type T) (biE bi)) (hn : ∀ ds s, NoExc (biE bi ds s)) (hg : Gl Γ.X x) (hm : Γ.X.mg x = none) (hv : bootBuiltins x = some (.type T)) (ha : OkA Γ (e :: es) ca) (hnm : x ≠ "__name__") (hdb : (x == ("__debug__" : Str)) = false)
    (he : starEach (e :: es) Γ.X.env = (false, eval e Γ.X.env) :: starEach es Γ.X.env) (hpl : (backTo pos (starEach es Γ.X.env)).any (·.1) = false) : OkE Γ (.Call (.Name x p0) (e :: es) [] pos) (.bcall bi ca) := by
  intro σ ρ κ s H Q hr sl p pins s0 I
  unfold evE at p
  refine wpAny_Call_Name_kw (ld_blt I hg hm hv ?_ hnm hdb)
  exact PyProof.Rows.callWith_type1 (thn (ha.use (Q := fun vs H1 => ∀ us pins s1, Inv Γ.X pins σ H1 s1 → Vals vs us → wpAny (model Γ.X.prog Γ.X.w) Γ.X.A (call (.type T) us) (EP Γ.X pins σ Q) Γ.X.xe s1) hr sl p
    (fun ds s1 κ1 H1 vs t1 h1 sl1 rs p1 us pins s2 I2 rv => hx pins s2 σ κ1 s1 H1 vs ds us Q I2 rv h1 rs (p1.noexc (hn _ _))) pos pins s0 I) fun us s1 ⟨vs, H1, I1, r, q⟩ => q us pins s1 I1 r) he hpl
theorem okn_nb {bi : Nb} {id : String} {p0 : Pos} (hx : BiN Γ (.builtin id) (nbE bi)) (hn : ∀ ds s, NoExc (nbE bi ds s)) (hg : Gl Γ.X x) (hm : Γ.X.mg x = none) (hv : bootBuiltins x = some (.builtin id)) (ha : OkA Γ (e :: es) ca) (hnm : x ≠ "__name__") (hdb : (x == ("__debug__" : Str)) = false)
    (he : starEach (e :: es) Γ.X.env = (false, eval e Γ.X.env) :: starEach es Γ.X.env) (hpl : (backTo pos (starEach es Γ.X.env)).any (·.1) = false) : OkN Γ (.Call (.Name x p0) (e :: es) [] pos) (.nb bi ca) := by
  intro σ ρ κ s H Q hr sl p pins s0 I
  unfold evN at p
  refine wpAny_Call_Name_kw (ld_blt I hg hm hv ?_ hnm hdb)
  exact PyProof.Rows.callWith_builtin1 (thn (ha.use (Q := fun vs H1 => ∀ us pins s1, Inv Γ.X pins σ H1 s1 → Vals vs us → wpAny (model Γ.X.prog Γ.X.w) Γ.X.A (call (.builtin id) us) (EP Γ.X pins σ Q) Γ.X.xe s1) hr sl p
    (fun ds s1 κ1 H1 vs t1 h1 sl1 rs p1 us pins s2 I2 rv => hx pins s2 σ κ1 s1 H1 H vs ds us Q I2 rv h1 (fun q hq => t1.none' hr h1 hq) rs (p1.noexc (hn _ _))) pos pins s0 I) fun us s1 ⟨vs, H1, I1, r, q⟩ => q us pins s1 I1 r) he hpl
theorem okn_nbT {bi : Nb} {T : String} {p0 : Pos} (hx : BiN Γ (.type T) (nbE bi)) (hn : ∀ ds s, NoExc (nbE bi ds s)) (hg : Gl Γ.X x) (hm : Γ.X.mg x = none) (hv : bootBuiltins x = some (.type T)) (ha : OkA Γ (e :: es) ca) (hnm : x ≠ "__name__") (hdb : (x == ("__debug__" : Str)) = false)
    (he : starEach (e :: es) Γ.X.env = (false, eval e Γ.X.env) :: starEach es Γ.X.env) (hpl : (backTo pos (starEach es Γ.X.env)).any (·.1) = false) : OkN Γ (.Call (.Name x p0) (e :: es) [] pos) (.nb bi ca) := by
  intro σ ρ κ s H Q hr sl p pins s0 I
  unfold evN at p
  refine wpAny_Call_Name_kw (ld_blt I hg hm hv ?_ hnm hdb)
  exact PyProof.Rows.callWith_type1 (thn (ha.use (Q := fun vs H1 => ∀ us pins s1, Inv Γ.X pins σ H1 s1 → Vals vs us → wpAny (model Γ.X.prog Γ.X.w) Γ.X.A (call (.type T) us) (EP Γ.X pins σ Q) Γ.X.xe s1) hr sl p
    (fun ds s1 κ1 H1 vs t1 h1 sl1 rs p1 us pins s2 I2 rv => hx pins s2 σ κ1 s1 H1 H vs ds us Q I2 rv h1 (fun q hq => t1.none' hr h1 hq) rs (p1.noexc (hn _ _))) pos pins s0 I) fun us s1 ⟨vs, H1, I1, r, q⟩ => q us pins s1 I1 r) he hpl
theorem bind_assoc {α β γ : Type} {r : Res α} {f : α → Hs → Res β} {g : β → Hs → Res γ} : (r.bind f).bind g = r.bind fun a s => (f a s).bind g := by cases r <;> rfl
theorem evA2 {P : Prog} {T : Nat → List D → Hs → Res D} {ca cb : C} {ρ : Env} {s : Hs} : evA P T (.cons ca (.cons cb .nil)) ρ s = (evE P T ca ρ s).bind fun x s1 => (evE P T cb ρ s1).bind fun y s2 => .ok [x, y] s2 := by
  unfold evA
  cases evE P T ca ρ s with
  | ok x s1 =>
    show (evA P T (.cons cb .nil) ρ s1).bind _ = (evE P T cb ρ s1).bind _
    unfold evA
    cases evE P T cb ρ s1 <;> rfl
  | exc => rfl
  | stuck => rfl
/-- binary operators that make a new list -/
def OpN (Γ : Set0) (f : Value → Value → Sem Value) (g : List D → Hs → Res (List D)) : Prop := ∀ pins s0 σ κ s H H0 x y dx dy v u Q, Inv Γ.X pins σ H s0 → RelV x v → RelV y u → HR Γ.X.K Γ.S κ s H → (∀ p, H p = none → HN H0 p) → Rep Γ.X.K κ s.nx H x dx → Rep Γ.X.K κ s.nx H y dy →
  Pre Γ.X.K Γ.S (RepN Γ.X.K Γ.S H0) Q (fun _ _ => False) κ s.nx H (g [dx, dy] s) → wpAny (model Γ.X.prog Γ.X.w) Γ.X.A (f v u) (EP Γ.X pins σ Q) Γ.X.xe s0
theorem okn_bin {op : Operator} {bi : Nb} (ho : OpN Γ (binaryOp op) (nbE bi)) (hn : ∀ ds s, NoExc (nbE bi ds s)) (ha : OkE Γ a ca) (hb : OkE Γ b cb) : OkN Γ (.BinOp a op b pos) (.nb bi (.cons ca (.cons cb .nil))) := by
  intro σ ρ κ s H Q hr sl p pins s0 I
  refine wpAny_BinOp (bin (R := fun x y H2 => ∀ pins s0 v u, Inv Γ.X pins σ H2 s0 → RelV x v → RelV y u → wpAny (model Γ.X.prog Γ.X.w) Γ.X.A (binaryOp op v u) (EP Γ.X pins σ Q) Γ.X.xe s0) peW peW I ?_ fun v u s2 x y H2 I2 rx ry q => q _ _ _ _ I2 rx ry)
  unfold evN at p
  rw [evA2, bind_assoc] at p
  refine ha.use hr sl p fun d s1 κ1 H1 x t1 hr1 sl1 r1 p1 => ?_
  rw [bind_assoc] at p1
  refine hb.use hr1 sl1 p1 fun d2 s2 κ2 H2 y t2 hr2 sl2 r2 p2 => ?_
  intro pins s0 v u I rx ry
  exact ho pins s0 σ κ2 s2 H2 H x y d d2 v u Q I rx ry hr2 (fun q hq => (t1.trans t2).none' hr hr2 hq) (r1.tr t2) r2 (p2.noexc (hn _ _))
theorem ix_dict {X : Cx} (hu : X.A.units + 1 < cLine) : IxR X (fun x y H Q => ∃ a v, x = V.ref a ∧ DGet H a y (some v) ∧ Q v H) := by
  intro value slice pins s σ H x y v u Q I rx ry h hs
  obtain ⟨a, w, rfl, g, q⟩ := h
  obtain rfl : v = Value.ref a := rx
  have hT := dict_typeIs I g
  have h2 : wpAny (model X.prog X.w) X.A (getItem (.ref a) u) (EP X pins σ Q) X.xe s := d_getItem hu I g ry fun w' s3 I3 rw' => ⟨w, H, I3, rw', q⟩
  unfold subscriptTail
  refine wpAny_bind ?_
  rw [getitemInPython_of_ne hT.not_modules]
  refine wpAny_bind (wpAny_specialOf hT PySem.F.slot_dict_getitem.lookup ?_)
  have fin : wpAny (model X.prog X.w) X.A (subscripted slice false (.ref a) u) (fun r s₃ => wpAny (model X.prog X.w) X.A (letTemporaryGo value (.ref a) r >>= fun _ => pure r) (EP X pins σ Q) X.xe s₃) X.xe s := by
    rw [hs]
    exact wpAny_operating (wpAny_mono h2 (fun r s₃ h₃ => wpAny_bind (wpAny_letTemporaryGo (wpAny_pure h₃))) fun _ _ x => x)
  first
    | exact wpAny_pure (wpAny_bind fin)
    | exact wpAny_bind (wpAny_pure (wpAny_bind fin))
    | exact wpAny_bind fin
theorem KVs.look {K : PySem.W.Frag} {κ : Gh} {nx : Nat} {H : Hp} {k : Key} {d : D} : ∀ {xs : List (Key × V)} {ds : List (D × D)}, KVs K κ nx H xs ds → lookD ds k = some d → ∃ v, valV xs k = some v ∧ Rep K κ nx H v d
  | _, _, .nil, h => by cases h
  | _, _, .cons (k := k') e r q, h => by
    unfold lookD at h
    rw [e] at h
    by_cases hk : k' = k
    · rw [if_pos (by rw [hk])] at h
      cases h
      exact ⟨_, valV_pos hk, r⟩
    · rw [if_neg (fun z => hk (by injection z))] at h
      obtain ⟨v, a, b⟩ := KVs.look q h
      exact ⟨v, (valV_neg hk).trans a, b⟩
theorem KVs.miss {K : PySem.W.Frag} {κ : Gh} {nx : Nat} {H : Hp} {k : Key} : ∀ {xs : List (Key × V)} {ds : List (D × D)}, KVs K κ nx H xs ds → lookD ds k = none → valV xs k = none
  | _, _, .nil, h => rfl
  | _, _, .cons (k := k') e r q, h => by
    unfold lookD at h
    rw [e] at h
    by_cases hk : k' = k
    · rw [if_pos (by rw [hk])] at h
      cases h
    · rw [if_neg (fun z => hk (by injection z))] at h
      exact (valV_neg hk).trans (KVs.miss q h)
theorem TVs.look {K : PySem.W.Frag} {κ : Gh} {nx : Nat} {H : Hp} {k : List Key} {d : D} : ∀ {xs : List (List Key × V)} {ds : List (D × D)}, TVs K κ nx H xs ds → lookT ds k = some d → ∃ v, valV xs k = some v ∧ Rep K κ nx H v d
  | _, _, .nil, h => by cases h
  | _, _, .cons (k := k') e r q, h => by
    unfold lookT at h
    rw [show KeyT (.tuple _) = some _ from e] at h
    by_cases hk : k' = k
    · rw [if_pos (by rw [hk])] at h
      cases h
      exact ⟨_, valV_pos hk, r⟩
    · rw [if_neg (fun z => hk (by injection z))] at h
      obtain ⟨v, a, b⟩ := TVs.look q h
      exact ⟨v, (valV_neg hk).trans a, b⟩
theorem TVs.miss {K : PySem.W.Frag} {κ : Gh} {nx : Nat} {H : Hp} {k : List Key} : ∀ {xs : List (List Key × V)} {ds : List (D × D)}, TVs K κ nx H xs ds → lookT ds k = none → valV xs k = none
  | _, _, .nil, h => rfl
  | _, _, .cons (k := k') e r q, h => by
    unfold lookT at h
    rw [show KeyT (.tuple _) = some _ from e] at h
    by_cases hk : k' = k
    · rw [if_pos (by rw [hk])] at h
      cases h
    · rw [if_neg (fun z => hk (by injection z))] at h
      exact (valV_neg hk).trans (TVs.miss q h)
theorem dicK_of {Γ : Set0} {κ : Gh} {s : Hs} {H : Hp} {v : V} {d : D} {kvs : List (D × D)} (h1 : HR Γ.X.K Γ.S κ s H) (r : Rep Γ.X.K κ s.nx H v d) (h : dicK d s = some kvs) : ∃ n xs, v = .ref (κ.f n) ∧ n < s.nx ∧ Rd H (κ.f n) (.dK xs) ∧ KVs Γ.X.K κ s.nx H xs kvs := by
  unfold dicK at h
  split at h
  · rename_i n
    split at h
    · rename_i l hc
      cases h
      obtain ⟨rfl, hn⟩ := cel_of r
      have q := h1.ok n hn
      rw [hc] at q
      rcases q with ⟨_, xs, q1, q2⟩ | ⟨z, _⟩
      · exact ⟨n, xs, rfl, hn, .inl q1, q2⟩
      · cases z
    · rename_i l hc
      cases h
      obtain ⟨rfl, hn⟩ := cel_of r
      have q := h1.ok n hn
      rw [hc] at q
      obtain ⟨_, o, xs, q1, q2⟩ := q
      exact ⟨n, xs, rfl, hn, .inr ⟨o, q1⟩, q2⟩
    · cases h
  · cases h
/-- .. that is not locked -/
theorem dicK_dir {K : PySem.W.Frag} {S : Sig} {κ : Gh} {s : Hs} {H : Hp} {n : Nat} {xs : List (Key × V)} (h1 : HR K S κ s H) (hn : n < s.nx) (q : Rd H (κ.f n) (.dK xs)) (hc : isDic (s.h n) = true) : H (κ.f n) = some (.dK xs) := by
  rcases q with q | ⟨o, q⟩
  · exact q
  · have z := h1.ok n hn
    cases e : s.h n <;> rw [e] at hc <;> first | cases hc | skip
    rw [e] at z
    rcases z with ⟨_, ys, z1, _⟩ | ⟨_, ys, z1, _⟩
    · rw [q] at z1; cases z1
    · rw [q] at z1; cases z1
theorem dicT_of {Γ : Set0} {κ : Gh} {s : Hs} {H : Hp} {v : V} {d : D} {kvs : List (D × D)} (h1 : HR Γ.X.K Γ.S κ s H) (r : Rep Γ.X.K κ s.nx H v d) (h : dicT d s = some kvs) : ∃ n xs, v = .ref (κ.f n) ∧ n < s.nx ∧ H (κ.f n) = some (.dT xs) ∧ TVs Γ.X.K κ s.nx H xs kvs := by
  unfold dicT at h
  split at h
  · rename_i n
    split at h
    · rename_i l hc
      cases h
      obtain ⟨rfl, hn⟩ := cel_of r
      have q := h1.ok n hn
      rw [hc] at q
      rcases q with ⟨z, _⟩ | ⟨_, xs, q1, q2⟩
      · cases z
      · exact ⟨n, xs, rfl, hn, q1, q2⟩
    · cases h
  · cases h
theorem keysV_of {K : PySem.W.Frag} {κ : Gh} {nx : Nat} {H : Hp} : ∀ {ds : List D} {vs : List V} {ks : List Key}, Reps K κ nx H vs ds → keysD ds = some ks → vs = ks.map kV
  | _, _, _, .nil, h => by cases h; rfl
  | _, _, _, .cons (d := d) (ds := ds) r rs, h => by
    unfold keysD at h
    split at h
    · rename_i k ks h1 h2
      cases h
      rw [List.map_cons, keysV_of rs h2]
      congr 1
      cases r <;> first | (cases h1; rfl) | cases h1
    · cases h
theorem keyT_of {K : PySem.W.Frag} {κ : Gh} {nx : Nat} {H : Hp} {v : V} {d : D} {k : List Key} (r : Rep K κ nx H v d) (h : KeyT d = some k) : ∃ b, v = .ref b ∧ H b = some (.tup (k.map kV)) := by
  cases r with
  | tup f rs =>
    have h' : keysD _ = some k := h
    obtain rfl := keysV_of rs h'
    exact ⟨_, rfl, f.1⟩
  | _ => cases h
theorem keyV_of {K : PySem.W.Frag} {κ : Gh} {nx : Nat} {H : Hp} {v : V} {d : D} {k : Key} (r : Rep K κ nx H v d) (h : KeyD d = some k) : v = kV k := by
  cases r <;> first | (cases h; rfl) | cases h
theorem ok_ix {i : Expr} {ci : C} (ha : OkE Γ a ca) (hb : OkE Γ i ci) (hs : PlainIx i) (hu : Γ.X.A.units + 1 < cLine) : OkE Γ (.Subscript a i pos) (.ix ca ci) := by
  intro σ ρ κ s H Q hr sl p
  unfold evE at p
  refine twE (pe_ix ((ix_list.or ix_tup).or (ix_dict hu)) peW peW hs) ?_
  refine ha.use hr sl p fun d s1 κ1 H1 v t1 h1 sl1 r p1 => ?_
  refine hb.use h1 sl1 p1 fun d2 s2 κ2 H2 y t2 h2 sl2 r2 p2 => ?_
  have r1 := r.tr t2
  unfold ixA at p2
  split at p2
  · rename_i kvs hk
    obtain ⟨n, xs, rfl, hn, q1, q2⟩ := dicK_of h2 r1 hk
    split at p2
    · rename_i k hkk
      split at p2
      · rename_i dd hd
        obtain ⟨w, w1, w2⟩ := q2.look hd
        refine .inr ⟨_, w, rfl, ?_, p2.give h2 w2⟩
        rw [keyV_of r2 hkk, ← w1]
        exact .inl ⟨_, _, q1, rfl, rfl⟩
      · exact p2.elim
    · exact p2.elim
  split at p2
  · rename_i kvs hk
    obtain ⟨n, xs, rfl, hn, q1, q2⟩ := dicT_of h2 r1 hk
    split at p2
    · rename_i k hkk
      split at p2
      · rename_i dd hd
        obtain ⟨w, w1, w2⟩ := q2.look hd
        obtain ⟨b, rfl, hb⟩ := keyT_of r2 hkk
        refine .inr ⟨_, w, rfl, ?_, p2.give h2 w2⟩
        rw [← w1]
        exact .t q1 hb
      · exact p2.elim
    · exact p2.elim
  refine .inl ?_
  unfold ixE at p2
  split at p2
  · rename_i kk
    obtain rfl := int_of r2
    cases r1 with
    | lst f rs =>
      simp only [seqD] at p2
      split at p2
      · rename_i j hj
        split at p2
        · rename_i dd hd
          obtain ⟨w, h3, h4⟩ := rs.get hd
          refine .inl ⟨_, _, kk, w, rfl, rfl, f.sq, ?_, p2.give h2 h4⟩
          unfold atI
          rw [rs.len, show ixN _ kk = some j from hj]
          exact h3
        · exact p2.elim
      · exact p2.elim
    | tup f rs =>
      simp only [seqD] at p2
      split at p2
      · rename_i j hj
        split at p2
        · rename_i dd hd
          obtain ⟨w, h3, h4⟩ := rs.get hd
          refine .inr ⟨_, _, kk, w, rfl, rfl, f.sq, ?_, p2.give h2 h4⟩
          unfold atI
          rw [rs.len, show ixN _ kk = some j from hj]
          exact h3
        · exact p2.elim
      · exact p2.elim
    | @cel n aa hn he =>
      simp only [seqD] at p2
      cases hc : s2.h n with
      | lst l =>
        have q := h2.ok n hn
        rw [hc] at q
        obtain ⟨vs, q1, q2⟩ := q
        rw [hc] at p2
        simp only at p2
        split at p2
        · rename_i j hj
          split at p2
          · rename_i dd hd
            obtain ⟨w, h3, h4⟩ := q2.get hd
            refine .inl ⟨_, vs, kk, w, rfl, rfl, .inl (.inl (by rw [he]; exact q1)), ?_, p2.give h2 h4⟩
            unfold atI
            rw [q2.len, show ixN l.length kk = some j from hj]
            exact h3
          · exact p2.elim
        · exact p2.elim
      | _ => rw [hc] at p2; exact p2.elim
    | _ => exact p2.elim
  · exact p2.elim
end
end Ev

set_option Elab.async false
set_option linter.all false
set_option maxRecDepth 100000
set_option maxHeartbeats 1000000
namespace Ev
open PySem PySem.Spec PyProof.Rows L2

/-- what is wanted of a statement's result -/
def SRok (Γ : Set0) (D : Ends) (κ : Gh) (nx : Nat) (H : Hp) : SR → Prop
  | .nx ρ' s' => ∀ κ' H' σ', Tr κ nx H κ' s'.nx H' → HR Γ.X.K Γ.S κ' s' H' → Slots Γ.X.K κ' s'.nx H' σ' ρ' → D.nx σ' H'
  | .brk ρ' s' => ∀ κ' H' σ', Tr κ nx H κ' s'.nx H' → HR Γ.X.K Γ.S κ' s' H' → Slots Γ.X.K κ' s'.nx H' σ' ρ' → D.bk σ' H'
  | .cont ρ' s' => ∀ κ' H' σ', Tr κ nx H κ' s'.nx H' → HR Γ.X.K Γ.S κ' s' H' → Slots Γ.X.K κ' s'.nx H' σ' ρ' → D.ct σ' H'
  | .ret d s' => ∀ κ' H' v, Tr κ nx H κ' s'.nx H' → HR Γ.X.K Γ.S κ' s' H' → Rep Γ.X.K κ' s'.nx H' v d → D.rt v H'
  | .exc e ρ' s' => ∀ κ' H' σ', Tr κ nx H κ' s'.nx H' → HR Γ.X.K Γ.S κ' s' H' → Slots Γ.X.K κ' s'.nx H' σ' ρ' → Γ.W (Γ.exV e) none σ' H'
  | .stuck => False
abbrev RepS (K : PySem.W.Frag) : RelT St Env := fun κ s H σ ρ => Slots K κ s.nx H σ ρ
def GRd (Γ : Set0) (g : TG) (c : C) : Prop := ∀ σ ρ κ s H v d Q, HR Γ.X.K Γ.S κ s H → Slots Γ.X.K κ s.nx H σ ρ → Rep Γ.X.K κ s.nx H v d →
  Pre Γ.X.K Γ.S (RepS Γ.X.K) Q (fun _ _ => False) κ s.nx H (evT Γ.P Γ.T c d ρ s) → g v σ H Q
def GsRd (Γ : Set0) (g : TGs) (c : C) : Prop := ∀ σ ρ κ s H v d Q, HR Γ.X.K Γ.S κ s H → Slots Γ.X.K κ s.nx H σ ρ → Reps Γ.X.K κ s.nx H v d →
  Pre Γ.X.K Γ.S (RepS Γ.X.K) Q (fun _ _ => False) κ s.nx H (evTs Γ.P Γ.T c d ρ s) → g v σ H Q
def SRd (Γ : Set0) (t : TS) (c : C) : Prop := ∀ σ ρ κ s H D, HR Γ.X.K Γ.S κ s H → Slots Γ.X.K κ s.nx H σ ρ → SRok Γ D κ s.nx H (evS Γ.P Γ.T Γ.F c ρ s) → t D σ H
abbrev OkTg (Γ : Set0) (tg : Expr) (c : C) : Prop := GRd Γ (TWg Γ.X tg) c
abbrev OkS (Γ : Set0) (st : Stmt) (c : C) : Prop := SRd Γ (TWs Γ.X st) c
abbrev OkB (Γ : Set0) (st : List Stmt) (c : C) : Prop := SRd Γ (TWb Γ.X st) c

section
variable {Γ : Set0}
variable {tg a b e o i : Expr} {ca cb c ct co ci ce : C} {es : List Expr} {pos apos : Pos} {k f : Nat} {fa : Addr} {x m : Str} {st : Stmt} {sts sts2 : List Stmt} {te : TE} {g : TG} {gs : TGs}

theorem SRok.tr {D : Ends} {κ κ1 : Gh} {nx nx1 : Nat} {H H1 : Hp} {r : SR} (t : Tr κ nx H κ1 nx1 H1) (p : SRok Γ D κ nx H r) : SRok Γ D κ1 nx1 H1 r := by
  cases r with
  | nx ρ s => exact fun κ' H' σ' t' => p κ' H' σ' (t.trans t')
  | brk ρ s => exact fun κ' H' σ' t' => p κ' H' σ' (t.trans t')
  | cont ρ s => exact fun κ' H' σ' t' => p κ' H' σ' (t.trans t')
  | ret d s => exact fun κ' H' v t' => p κ' H' v (t.trans t')
  | exc e ρ s => exact fun κ' H' σ' t' => p κ' H' σ' (t.trans t')
  | stuck => exact p
theorem SRok.imp {D D' : Ends} {κ : Gh} {nx : Nat} {H : Hp} {r : SR} (p : SRok Γ D κ nx H r) (h1 : ∀ σ H, D.nx σ H → D'.nx σ H) (h2 : ∀ σ H, D.rt σ H → D'.rt σ H) (h3 : ∀ σ H, D.bk σ H → D'.bk σ H) (h4 : ∀ σ H, D.ct σ H → D'.ct σ H) : SRok Γ D' κ nx H r := by
  cases r with
  | nx ρ s => exact fun κ' H' σ' t' a b => h1 _ _ (p κ' H' σ' t' a b)
  | brk ρ s => exact fun κ' H' σ' t' a b => h3 _ _ (p κ' H' σ' t' a b)
  | cont ρ s => exact fun κ' H' σ' t' a b => h4 _ _ (p κ' H' σ' t' a b)
  | ret d s => exact fun κ' H' v t' a b => h2 _ _ (p κ' H' v t' a b)
  | exc e ρ s => exact p
  | stuck => exact p
/-- an expression's result, then a statement's -/
theorem ERd.useS (h : ERd Γ te c) {D : Ends} {σ : St} {ρ : Env} {κ : Gh} {s : Hs} {H : Hp} {Q : VK} {f : Ev.D → Hs → SR} (hr : HR Γ.X.K Γ.S κ s H) (sl : Slots Γ.X.K κ s.nx H σ ρ)
    (p : SRok Γ D κ s.nx H (match evE Γ.P Γ.T c ρ s with | .ok d s1 => f d s1 | .exc x s1 => .exc x ρ s1 | .stuck => .stuck))
    (k : ∀ d s1 κ1 H1 v, Tr κ s.nx H κ1 s1.nx H1 → HR Γ.X.K Γ.S κ1 s1 H1 → Slots Γ.X.K κ1 s1.nx H1 σ ρ → Rep Γ.X.K κ1 s1.nx H1 v d → SRok Γ D κ1 s1.nx H1 (f d s1) → Q v H1) : te σ H Q := by
  refine h σ ρ κ s H Q hr sl ?_
  cases q : evE Γ.P Γ.T c ρ s with
  | ok d s1 =>
    rw [q] at p
    exact fun κ1 H1 v t h1 r => k d s1 κ1 H1 v t h1 (sl.tr t) r (SRok.tr t p)
  | exc x s1 =>
    rw [q] at p
    exact fun κ1 H1 t h1 => p κ1 H1 σ t h1 (sl.tr t)
  | stuck => rw [q] at p; exact p.elim

/-! #### blocks and plain statements -/
theorem okb_nil : OkB Γ [] .done := by
  intro σ ρ κ s H D hr sl p
  exact twB pss_nil (p κ H σ Tr.refl hr sl)
theorem okb_one (h : OkS Γ st c) : OkB Γ [st] c := by
  intro σ ρ κ s H D hr sl p
  exact twB (pss_one psW) (h σ ρ κ s H D hr sl p)
theorem okb_cons (h : OkS Γ st ca) (h2 : OkB Γ sts cb) : OkB Γ (st :: sts) (.seq ca cb) := by
  intro σ ρ κ s H D hr sl p
  refine twB (pss_cons psW pssW) ?_
  refine h σ ρ κ s H _ hr sl ?_
  unfold evS at p
  cases q : evS Γ.P Γ.T Γ.F ca ρ s with
  | nx ρ1 s1 =>
    rw [q] at p
    exact fun κ' H' σ' t h1 sl1 => h2 σ' ρ1 κ' s1 H' D h1 sl1 (SRok.tr t p)
  | brk ρ1 s1 => rw [q] at p; exact p
  | cont ρ1 s1 => rw [q] at p; exact p
  | ret d s1 => rw [q] at p; exact p
  | exc e ρ1 s1 => rw [q] at p; exact p
  | stuck => rw [q] at p; exact p
theorem oks_expr (h : OkE Γ e c) (hs : swapsWith e none pos.line Γ.X.env = pure false) : OkS Γ (.Expr e pos) (.expr c) := by
  intro σ ρ κ s H D hr sl p
  unfold evS at p
  refine twS (ps_expr peW hs) ?_
  exact ERd.useS h hr sl p fun d s1 κ1 H1 v t h1 sl1 r p1 => p1 κ1 H1 σ Tr.refl h1 sl1
theorem oks_ret (h : OkE Γ e c) : OkS Γ (.Return (some e) pos) (.ret c) := by
  intro σ ρ κ s H D hr sl p
  unfold evS at p
  refine twS (ps_ret peW) ?_
  exact ERd.useS h hr sl p fun d s1 κ1 H1 v t h1 sl1 r p1 => p1 κ1 H1 v Tr.refl h1 r
theorem oks_retN : OkS Γ (.Return none pos) .retN := by
  intro σ ρ κ s H D hr sl p
  exact twS ps_retN (p κ H .non Tr.refl hr .non)
theorem oks_pass : OkS Γ (.Pass pos) .pass := by
  intro σ ρ κ s H D hr sl p
  exact twS ps_pass (p κ H σ Tr.refl hr sl)
theorem oks_brk : OkS Γ (.Break pos) .brk := by
  intro σ ρ κ s H D hr sl p
  exact twS ps_break (p κ H σ Tr.refl hr sl)
theorem oks_cont : OkS Γ (.Continue pos) .cont := by
  intro σ ρ κ s H D hr sl p
  exact twS ps_continue (p κ H σ Tr.refl hr sl)
theorem oks_if {t : Expr} (ht : OkT Γ t ct) (ha : OkB Γ sts ca) (hb : OkB Γ sts2 cb) : OkS Γ (.If t sts sts2 pos) (.ifs ct ca cb) := by
  intro σ ρ κ s H D hr sl p
  unfold evS at p
  refine twS (ps_if ptW pssW pssW) ?_
  refine ht σ ρ κ s H _ hr sl ?_
  cases q : evE Γ.P Γ.T ct ρ s with
  | stuck => rw [q] at p; exact p.elim
  | exc x s1 => rw [q] at p; exact fun κ' H' t' h1 => p κ' H' σ t' h1 (sl.tr t')
  | ok d s1 =>
    rw [q] at p
    cases d with
    | bool b =>
      intro κ1 H1 v t1 h1 r
      refine ⟨b, bl_of r, ?_⟩
      cases b with
      | true => rw [if_pos rfl]; exact ha σ ρ κ1 s1 H1 D h1 (sl.tr t1) (SRok.tr t1 p)
      | false => rw [if_neg (by decide)]; exact hb σ ρ κ1 s1 H1 D h1 (sl.tr t1) (SRok.tr t1 p)
    | _ => exact p.elim

/-! #### targets, assignments -/
theorem okt_slot {j : Nat} (hN : Γ.X.N.Nodup) (hi : Γ.X.N[j]? = some x) (hx : Loc Γ.X.env.scope x) (hf : Γ.X.fn x = true ∨ Γ.X.env.scope.names.lookup x = some .local) : OkTg Γ (.Name x pos) (.tslot j) := by
  intro σ ρ κ s H v d Q hr sl r p
  refine twG (pg_name hN hi hx hf) ?_
  unfold evT at p
  split at p
  · exact p κ H _ Tr.refl hr (sl.set r)
  · exact p.elim
theorem Pre.nox {β α : Type} {K : PySem.W.Frag} {S : Sig} {R : RelT β α} {Q : β → Hp → Prop} {E E' : Nat → Hp → Prop} {κ : Gh} {nx : Nat} {H : Hp} {r : Res α} (p : Pre K S R Q E κ nx H r.nox) : Pre K S R Q E' κ nx H r := by
  cases r with
  | ok a s => exact p
  | exc e s => exact p.elim
  | stuck => exact p
theorem KVs.keys {K : PySem.W.Frag} {κ : Gh} {nx : Nat} {H : Hp} {k : Key} : ∀ {xs : List (Key × V)} {ds : List (D × D)}, KVs K κ nx H xs ds → (xs.any fun p => decide (p.1 = k)) = (ds.any fun p => decide (KeyD p.1 = some k))
  | _, _, .nil => rfl
  | _, _, .cons (k := k') e r q => by
    rw [List.any_cons, List.any_cons, KVs.keys q, e]
    congr 1
    exact decide_eq_decide.mpr ⟨fun z => congrArg some (show _ = k from z), fun z => by injection z⟩
theorem KVs.app {K : PySem.W.Frag} {κ : Gh} {nx : Nat} {H : Hp} {k : Key} {v : V} {kd d : D} (e : KeyD kd = some k) (r : Rep K κ nx H v d) : ∀ {xs : List (Key × V)} {ds : List (D × D)}, KVs K κ nx H xs ds → KVs K κ nx H (xs ++ [(k, v)]) (ds ++ [(kd, d)])
  | _, _, .nil => .cons e r .nil
  | _, _, .cons e' r' q => .cons e' r' (KVs.app e r q)
theorem KVs.mapk {K : PySem.W.Frag} {κ : Gh} {nx : Nat} {H : Hp} {k : Key} {v : V} {d : D} (r : Rep K κ nx H v d) : ∀ {xs : List (Key × V)} {ds : List (D × D)}, KVs K κ nx H xs ds → KVs K κ nx H (xs.map fun kv => if kv.1 = k then (kv.1, v) else kv) (ds.map fun p => if KeyD p.1 = some k then (p.1, d) else p)
  | _, _, .nil => .nil
  | _, _, .cons (k := k') e r' q => by
    rw [List.map_cons, List.map_cons]
    by_cases hk : k' = k
    · rw [if_pos hk, if_pos (by rw [e, hk])]
      exact .cons e r (KVs.mapk r q)
    · rw [if_neg hk, if_neg (by rw [e]; exact fun z => hk (by injection z))]
      exact .cons e r' (KVs.mapk r q)
theorem KVs.put {K : PySem.W.Frag} {κ : Gh} {nx : Nat} {H : Hp} {k : Key} {v : V} {kd d : D} {xs : List (Key × V)} {ds : List (D × D)} (q : KVs K κ nx H xs ds) (e : KeyD kd = some k) (r : Rep K κ nx H v d) : KVs K κ nx H (putK xs k v) (putDk ds k kd d) := by
  unfold putK putDk
  rw [q.keys]
  split
  · exact q.mapk r
  · exact q.app e r
theorem TVs.keys {K : PySem.W.Frag} {κ : Gh} {nx : Nat} {H : Hp} {k : List Key} : ∀ {xs : List (List Key × V)} {ds : List (D × D)}, TVs K κ nx H xs ds → (xs.any fun p => decide (p.1 = k)) = (ds.any fun p => decide (KeyT p.1 = some k))
  | _, _, .nil => rfl
  | _, _, .cons (k := k') e r q => by
    rw [List.any_cons, List.any_cons, TVs.keys q, show KeyT (.tuple _) = some _ from e]
    congr 1
    exact decide_eq_decide.mpr ⟨fun z => congrArg some (show _ = k from z), fun z => by injection z⟩
theorem TVs.len {K : PySem.W.Frag} {κ : Gh} {nx : Nat} {H : Hp} : ∀ {xs : List (List Key × V)} {ds : List (D × D)}, TVs K κ nx H xs ds → xs.length = ds.length
  | _, _, .nil => rfl
  | _, _, .cons _ _ q => by rw [List.length_cons, List.length_cons, TVs.len q]
theorem TVs.app {K : PySem.W.Frag} {κ : Gh} {nx : Nat} {H : Hp} {k : List Key} {v : V} {kd : List D} {d : D} (e : keysD kd = some k) (r : Rep K κ nx H v d) : ∀ {xs : List (List Key × V)} {ds : List (D × D)}, TVs K κ nx H xs ds → TVs K κ nx H (xs ++ [(k, v)]) (ds ++ [(.tuple kd, d)])
  | _, _, .nil => .cons e r .nil
  | _, _, .cons e' r' q => .cons e' r' (TVs.app e r q)
theorem TVs.mapk {K : PySem.W.Frag} {κ : Gh} {nx : Nat} {H : Hp} {k : List Key} {v : V} {d : D} (r : Rep K κ nx H v d) : ∀ {xs : List (List Key × V)} {ds : List (D × D)}, TVs K κ nx H xs ds → TVs K κ nx H (xs.map fun kv => if kv.1 = k then (kv.1, v) else kv) (ds.map fun p => if KeyT p.1 = some k then (p.1, d) else p)
  | _, _, .nil => .nil
  | _, _, .cons (k := k') e r' q => by
    rw [List.map_cons, List.map_cons]
    by_cases hk : k' = k
    · rw [if_pos hk, if_pos (by rw [show KeyT (.tuple _) = some _ from e, hk])]
      exact .cons e r (TVs.mapk r q)
    · rw [if_neg hk, if_neg (by rw [show KeyT (.tuple _) = some _ from e]; exact fun z => hk (by injection z))]
      exact .cons e r' (TVs.mapk r q)
theorem TVs.put {K : PySem.W.Frag} {κ : Gh} {nx : Nat} {H : Hp} {k : List Key} {v : V} {kd : List D} {d : D} {xs : List (List Key × V)} {ds : List (D × D)} (q : TVs K κ nx H xs ds) (e : keysD kd = some k) (r : Rep K κ nx H v d) : TVs K κ nx H (putK xs k v) (putDt ds k (.tuple kd) d) := by
  unfold putK putDt
  rw [q.keys]
  split
  · exact q.mapk r
  · exact q.app e r
theorem pset_or {X : Cx} {t t' : TSet} (h : PSet X t) (h' : PSet X t') : PSet X (fun o i v H Q => t o i v H Q ∨ t' o i v H Q) := by
  intro pins s σ H o i v ov iv u Q I ro ri rv q
  rcases q with q | q
  · exact h pins s σ H o i v ov iv u Q I ro ri rv q
  · exact h' pins s σ H o i v ov iv u Q I ro ri rv q
theorem okt_sub (hu : Γ.X.A.units + 1 < cLine) (ho : OkE Γ o co) (hi : OkE Γ i ci)
    (ha : ∀ v, assign (.Subscript o i pos) Γ.X.env v = (do
      let ov ← holding [v] (eval o Γ.X.env)
      let iv ← holding [v, ov] (eval i Γ.X.env)
      standAt pos
      holding [v, ov, iv] (setItem ov iv v)
      release [v, ov, iv] [])) : OkTg Γ (.Subscript o i pos) (.tsub co ci) := by
  intro σ ρ κ s H v d Q hr sl r p
  refine twG (pg_sub (t := fun o i v H Q => rSetL o i v H Q ∨ rSetD o i v H Q) peW peW (pset_or set_list (set_dict hu)) ha) ?_
  unfold evT at p
  have p' : Pre Γ.X.K Γ.S (RepS Γ.X.K) Q (Γ.E σ) κ s.nx H _ := p.nox
  refine ho.use hr sl p' fun d1 s1 κ1 H1 v1 t1 h1 sl1 r1 p1 => ?_
  refine hi.use h1 sl1 p1 fun d2 s2 κ2 H2 v2 t2 h2 sl2 r2 p2 => ?_
  cases hset : setA d1 d2 d s2 with
  | none => rw [hset] at p2; exact p2.elim
  | some s3 =>
    rw [hset] at p2
    unfold setA at hset
    split at hset
    · rename_i kvs hk
      obtain ⟨n, xs, rfl, hn, q1, q2⟩ := dicK_of h2 (r1.tr t2) hk
      split at hset
      · rename_i m
        split at hset
        · rename_i k hkk
          split at hset
          · rename_i hsm0
            have hsm := (Bool.and_eq_true_iff.mp hsm0).1
            cases hset
            have hcel := r1.tr t2
            obtain ⟨hre, hm⟩ := cel_of hcel
            have hnm : n = m := h2.inj n m hn hm (by injection hre)
            subst hnm
            have rv := r.tr (t1.trans t2)
            have q1 := dicK_dir h2 hn q1 (Bool.and_eq_true_iff.mp hsm0).2
            have ts := h2.trs (o := .dK (putK xs k v)) hn (fun _ _ z => by rw [q1] at z; cases z)
            refine .inr ⟨_, _, rfl, ?_, p2 κ2 _ σ ts (h2.set hn (fun _ _ z => by rw [q1] at z; cases z) (.inl ⟨rfl, _, upd_same, (q2.put hkk rv).tr ts⟩)) (sl2.tr ts)⟩
            rw [keyV_of r2 hkk]
            exact .k q1 (by rw [q2.len]; exact small_lt hsm)
          · cases hset
        · cases hset
      · cases hset
    rename_i hk0
    clear hk0
    split at hset
    · rename_i kvs hk
      obtain ⟨n, xs, rfl, hn, q1, q2⟩ := dicT_of h2 (r1.tr t2) hk
      split at hset
      · rename_i m
        split at hset
        · rename_i k hkk
          split at hset
          · rename_i hsm
            cases hset
            have hcel := r1.tr t2
            obtain ⟨hre, hm⟩ := cel_of hcel
            have hnm : n = m := h2.inj n m hn hm (by injection hre)
            subst hnm
            have rv := r.tr (t1.trans t2)
            obtain ⟨b, rfl, hb⟩ := keyT_of r2 hkk
            cases r2 with
            | tup f rs =>
              have ts := h2.trs (o := .dT (putK xs k v)) hn (fun _ _ z => by rw [q1] at z; cases z)
              refine .inr ⟨_, _, rfl, ?_, p2 κ2 _ σ ts (h2.set hn (fun _ _ z => by rw [q1] at z; cases z) (.inr ⟨rfl, _, upd_same, (q2.put hkk rv).tr ts⟩)) (sl2.tr ts)⟩
              exact .t q1 hb (by rw [q2.len]; exact small_lt hsm)
            | _ => cases hkk
          · cases hset
        · cases hset
      · cases hset
    rename_i hk0
    clear hk0
    refine .inl ?_
    unfold setLst at hset
    split at hset
    · rename_i n kk
      split at hset
      · rename_i l hl
        split at hset
        · rename_i j hj
          cases hset
          obtain ⟨rfl, hn⟩ := cel_of (r1.tr t2)
          obtain rfl := int_of r2
          have q := h2.ok n hn
          rw [hl] at q
          obtain ⟨vs, q1, q2⟩ := q
          have rv := r.tr (t1.trans t2)
          refine ⟨_, vs, kk, j, rfl, rfl, q1, by rw [q2.len]; exact hj, ?_⟩
          have ts := h2.trs (o := .lst (vs.set j v)) hn (fun _ _ z => by rw [q1] at z; cases z)
          exact p2 κ2 _ σ ts (h2.set hn (fun _ _ z => by rw [q1] at z; cases z) ⟨_, upd_same, (q2.set rv j).tr ts⟩) (sl2.tr ts)
        · cases hset
      · cases hset
    · cases hset
theorem grd_nil : GsRd Γ gNil .nil := by
  intro σ ρ κ s H v d Q hr sl r p
  unfold evTs at p
  cases r with
  | nil => exact ⟨rfl, p κ H σ Tr.refl hr sl⟩
  | cons => exact p.elim
theorem noexc_bind {β α γ δ : Type} {K : PySem.W.Frag} {S : Sig} {R : RelT β α} {R2 : RelT δ γ} {Q2 : δ → Hp → Prop} {Q : β → Hp → Prop} {E : Nat → Hp → Prop} {κ : Gh} {nx : Nat} {H : Hp} {r : Res α} {f : α → Hs → Res γ} (p : Pre K S R2 Q2 E κ nx H (r.bind f))
    (h : ∀ a s1 κ1 H1 v, Tr κ nx H κ1 s1.nx H1 → HR K S κ1 s1 H1 → R κ1 s1 H1 v a → Pre K S R2 Q2 E κ1 s1.nx H1 (f a s1) → Q v H1) : Pre K S R Q E κ nx H r :=
  Pre.bind p fun a s1 κ1 H1 v _ t h1 r p1 => h a s1 κ1 H1 v t h1 r p1
theorem grd_cons (h : GRd Γ g ca) (h2 : GsRd Γ gs cb) : GsRd Γ (gCons g gs) (.cons ca cb) := by
  intro σ ρ κ s H v d Q hr sl r p
  unfold evTs at p
  cases r with
  | nil => exact p.elim
  | cons r1 rs =>
    refine ⟨_, _, rfl, ?_⟩
    exact h σ ρ κ s H _ _ _ hr sl r1 (noexc_bind p fun ρ1 s1 κ1 H1 σ1 t h1 sl1 p1 => h2 σ1 ρ1 κ1 s1 H1 _ _ Q h1 sl1 (rs.tr t) p1)
theorem okt_tup {n kk : Nat} (hc : Γ.X.calm = true) (h : PGs Γ.X es gs) (h2 : GsRd Γ gs c) (hl : tlen c = n) (hn : (assignEach es Γ.X.env).length = n) (hst : (assignEach es Γ.X.env).findIdx? (·.1) = none) : OkTg Γ (.Tuple es kk pos) (.ttup c) := by
  intro σ ρ κ s H v d Q hr sl r p
  refine twG (pg_tup hc h hn hst) ?_
  unfold evT at p
  cases r with
  | tup f rs =>
    simp only at p
    split at p
    · rename_i hz
      exact ⟨_, _, rfl, f.sq, by rw [rs.len, hz, hl], h2 σ ρ κ s H _ _ Q hr sl rs p⟩
    · exact p.elim
  | _ => exact p.elim
theorem pgsW {X : Cx} {t : Expr} {ts : List Expr} {gs : TGs} (h : PGs X ts gs) : True := trivial
theorem asg_rd (he : ERd Γ te ce) (hg : GRd Γ g ct) : SRd Γ (tAsg te g) (.asg ct ce) := by
  intro σ ρ κ s H D hr sl p
  unfold evS at p
  refine ERd.useS he hr sl p fun d s1 κ1 H1 v t h1 sl1 r p1 => ?_
  refine hg σ ρ κ1 s1 H1 v d D.nx h1 sl1 r ?_
  cases q : evT Γ.P Γ.T ct d ρ s1 with
  | ok ρ1 s2 => rw [q] at p1; exact p1
  | exc => rw [q] at p1; exact p1.elim
  | stuck => rw [q] at p1; exact p1.elim
theorem oks_asg (he : OkE Γ e ce) (hg : OkTg Γ tg ct) (hs : swapsWithSole [tg] e pos.line Γ.X.env = pure false) (hw : swappedStores [tg] e Γ.X.env = pure none)
    (h1 : (assignEach [tg] Γ.X.env).map (·.2) = [assign tg Γ.X.env]) : OkS Γ (.Assign [tg] e pos) (.asg ct ce) := by
  intro σ ρ κ s H D hr sl p
  exact twS (ps_asg peW pgW hs hw h1) (asg_rd he hg σ ρ κ s H D hr sl p)
theorem oks_fld (he : OkE Γ e ce) (ho : OkE Γ o co) (hf : Γ.S.fld f = x) (hok : ∀ kC, Γ.P.fok kC f = true → f < Γ.S.nf ∧ NoAttr Γ.X.K (Γ.S.cls kC) (Γ.S.fld f)) (hs : swapsWith e (some (.Attribute o x apos)) pos.line Γ.X.env = pure false) :
    OkS Γ (.Assign [.Attribute o x apos] e pos) (.asg (.tfld co f) ce) := by
  intro σ ρ κ s H D hr sl p
  refine twS (ps_fld peW peW hs) ?_
  unfold evS at p
  refine ERd.useS he hr sl p fun d s1 κ1 H1 v t h1 sl1 r p1 => ?_
  have p' : Pre Γ.X.K Γ.S (RepS Γ.X.K) D.nx (Γ.E σ) κ1 s1.nx H1 ((evE Γ.P Γ.T co ρ s1).bind fun x s2 => match setFld Γ.P.fok x f d s2 with | some s3 => .ok ρ s3 | none => .stuck) := by
    unfold evT at p1
    apply Pre.nox (E := fun _ _ => False)
    generalize ((evE Γ.P Γ.T co ρ s1).bind fun x s2 => match setFld Γ.P.fok x f d s2 with | some s3 => Res.ok ρ s3 | none => .stuck) = r0 at p1 ⊢
    cases r0 with
    | ok ρ1 s2 => exact p1
    | exc => exact p1.elim
    | stuck => exact p1.elim
  refine ho.use h1 sl1 p' fun d1 s2 κ2 H2 v1 t2 h2 sl2 r1 p2 => ?_
  cases hset : setFld Γ.P.fok d1 f d s2 with
  | none => rw [hset] at p2; exact p2.elim
  | some s3 =>
    rw [hset] at p2
    unfold setFld at hset
    split at hset
    · rename_i n
      split at hset
      · rename_i kC fs hc
        split at hset
        · rename_i hz
          have hz' := Bool.and_eq_true_iff.mp hz
          cases hset
          obtain ⟨rfl, hn, dx, xs, q1, q2, q3, q4⟩ := cell_case h2 r1 hc
          obtain ⟨hlt, hna⟩ := hok kC hz'.1
          have hl500 : fs.length < 500 := Nat.blt_eq.mp hz'.2
          subst hf
          refine ⟨_, _, dx, xs, rfl, q1, q2, hna, by rw [q4.len]; omega, ?_⟩
          have ts := h2.trs (o := .ins (Γ.S.cls kC) dx (L2.putF (Γ.S.fld f) v xs)) hn (fun _ _ z => by rw [q1] at z; cases z)
          refine p2 κ2 _ σ ts (h2.set hn (fun _ _ z => by rw [q1] at z; cases z) ⟨dx, _, upd_same, q2, ?_, (q4.put hlt hna (r.tr t2)).tr ts⟩) (sl2.tr ts)
          have := putD_len f d fs
          omega
        · cases hset
      · cases hset
    · cases hset
end
end Ev

set_option Elab.async false
set_option linter.all false
set_option maxRecDepth 100000
set_option maxHeartbeats 1000000
namespace Ev
open PySem PySem.Spec PyProof.Rows L2

section
variable {Γ : Set0}
variable {tg a b e o i : Expr} {ca cb c ct co ci ce cg : C} {es : List Expr} {pos apos : Pos} {k f : Nat} {fa : Addr} {x m : Str} {st : Stmt} {sts sts2 : List Stmt} {te : TE} {g : TG} {gs : TGs}

/-! #### for -/
theorem oks_for {iter : Expr} (hp : PassesOwn (model Γ.X.prog Γ.X.w) Γ.X.A Γ.X.env Γ.X.xe) (hc : Γ.X.calm = true) (hi : OkI Γ tg iter ci) (hg : OkG Γ tg cg) (hb : OkB Γ sts cb) (hs : ∀ x, foldedSetIterable iter Γ.X.env x = pure x) :
    OkS Γ (.For tg iter sts [] pos) (.fors cg ci cb) := by
  intro σ ρ κ s H D hr sl p
  unfold evS at p
  refine twS (ps_for hp hc piW pgW pssW hs) ?_
  refine hi σ ρ κ s H _ hr sl ?_
  cases q : evI Γ.P Γ.T ci ρ s with
  | stuck => rw [q] at p; exact p.elim
  | exc x s1 => rw [q] at p; exact fun κ1 H1 t h1 => p κ1 H1 σ t h1 (sl.tr t)
  | ok xs s1 =>
  rw [q] at p
  intro κ1 H1 J t1 h1 wk
  have p1 := SRok.tr t1 p
  dsimp only at p1
  refine ⟨fun j mm σ' H' => ∃ (c : Cur) (κ' : Gh) (s' : Hs) (ρ' : Env), HR Γ.X.K Γ.S κ' s' H' ∧ Slots Γ.X.K κ' s'.nx H' σ' ρ' ∧ CurOk Γ.X.K κ' s'.nx H' J j c ∧
      SRok Γ D κ' s'.nx H' (forN _ mm c ρ' s'), ⟨_, xs, κ1, s1, ρ, h1, sl.tr t1, wk, p1⟩, ?_⟩
  rintro j mm σ' H' ⟨c, κ', s', ρ', hr', sl', wk', pp⟩
  cases mm with
  | zero => unfold forN at pp; exact pp.elim
  | succ mm =>
  unfold forN at pp
  cases hnx : c.next s' with
  | lost => rw [hnx] at pp; exact pp.elim
  | item xd c' =>
    rw [hnx] at pp
    dsimp only at pp
    obtain ⟨go, yl⟩ := wk'.at_ hnx hr'
    refine .inr ⟨go, fun σ' H' => ∃ (c : Cur) (κ' : Gh) (s' : Hs) (ρ' : Env), HR Γ.X.K Γ.S κ' s' H' ∧ Slots Γ.X.K κ' s'.nx H' σ' ρ' ∧ CurOk Γ.X.K κ' s'.nx H' J (j + 1) c ∧
      SRok Γ D κ' s'.nx H' (forN _ mm c ρ' s'), fun σ'' H'' hh => ⟨mm, by omega, hh⟩, fun x H2 y => ?_⟩
    obtain ⟨t2, h2, r2, w2⟩ := yl x H2 y
    cases hq : evG cg xd ρ' s' with
    | none => rw [hq] at pp; exact pp.elim
    | some ρ1 =>
    rw [hq] at pp
    dsimp only at pp
    refine hg σ' ρ' ρ1 κ' s' H2 x xd _ h2 (sl'.tr t2) r2 hq fun σ1 sl1 hl1 hσ => ?_
    refine hb σ1 ρ1 κ' s' H2 _ h2 sl1 ?_
    have pp2 := SRok.tr t2 pp
    cases ebd : evS Γ.P Γ.T Γ.F cb ρ1 s' with
    | nx ρ2 s2 =>
      rw [ebd] at pp2
      exact fun κ3 H3 σ3 t3 h3 sl3 => ⟨c', κ3, s2, ρ2, h3, sl3, (w2.tr t2).tr t3, SRok.tr t3 pp2⟩
    | cont ρ2 s2 =>
      rw [ebd] at pp2
      exact fun κ3 H3 σ3 t3 h3 sl3 => ⟨c', κ3, s2, ρ2, h3, sl3, (w2.tr t2).tr t3, SRok.tr t3 pp2⟩
    | brk ρ2 s2 => rw [ebd] at pp2; exact pp2
    | ret d s2 => rw [ebd] at pp2; exact pp2
    | exc e ρ2 s2 => rw [ebd] at pp2; exact pp2
    | stuck => rw [ebd] at pp2; exact pp2
  | stop =>
    rw [hnx] at pp
    exact .inl ⟨wk'.stop hr' hnx, pp κ' H' σ' Tr.refl hr' sl'⟩

/-! #### while -/
theorem oks_while {t : Expr} (hp : PassesOwn (model Γ.X.prog Γ.X.w) Γ.X.A Γ.X.env Γ.X.xe) (ht : OkT Γ t ct) (hb : OkB Γ sts cb) : OkS Γ (.While t sts [] pos) (.whl ct cb) := by
  intro σ ρ κ s H D hr sl p
  unfold evS at p
  refine twS (ps_while hp ptW pssW) ?_
  refine ⟨fun mm σ' H' => ∃ (κ' : Gh) (s' : Hs) (ρ' : Env), HR Γ.X.K Γ.S κ' s' H' ∧ Slots Γ.X.K κ' s'.nx H' σ' ρ' ∧ SRok Γ D κ' s'.nx H' (whlN _ _ mm ρ' s'), ⟨_, κ, s, ρ, hr, sl, p⟩, ?_⟩
  rintro mm σ' H' ⟨κ', s', ρ', hr', sl', pp⟩
  cases mm with
  | zero => exact pp.elim
  | succ n =>
  unfold whlN at pp
  refine ht σ' ρ' κ' s' H' _ hr' sl' ?_
  cases q : evE Γ.P Γ.T ct ρ' s' with
  | stuck => rw [q] at pp; exact pp.elim
  | exc x s1 => rw [q] at pp; exact fun κ1 H1 t h1 => pp κ1 H1 σ' t h1 (sl'.tr t)
  | ok d s1 =>
    rw [q] at pp
    cases d with
    | bool bb =>
      intro κ1 H1 v t1 h1 r
      refine ⟨bb, bl_of r, ?_⟩
      cases bb with
      | false => rw [if_neg (by decide)]; exact pp κ1 H1 σ' t1 h1 (sl'.tr t1)
      | true =>
        rw [if_pos rfl]
        dsimp only at pp
        have pp1 := SRok.tr t1 pp
        refine ⟨fun σ' H' => ∃ (κ' : Gh) (s' : Hs) (ρ' : Env), HR Γ.X.K Γ.S κ' s' H' ∧ Slots Γ.X.K κ' s'.nx H' σ' ρ' ∧ SRok Γ D κ' s'.nx H' (whlN _ _ n ρ' s'), fun σ'' H'' hh => ⟨n, Nat.lt_succ_self _, hh⟩, ?_⟩
        refine hb σ' ρ' κ1 s1 H1 _ h1 (sl'.tr t1) ?_
        cases ebd : evS Γ.P Γ.T Γ.F cb ρ' s1 with
        | nx ρ2 s2 => rw [ebd] at pp1; exact fun κ3 H3 σ3 t3 h3 sl3 => ⟨κ3, s2, ρ2, h3, sl3, SRok.tr t3 pp1⟩
        | cont ρ2 s2 => rw [ebd] at pp1; exact fun κ3 H3 σ3 t3 h3 sl3 => ⟨κ3, s2, ρ2, h3, sl3, SRok.tr t3 pp1⟩
        | brk ρ2 s2 => rw [ebd] at pp1; exact pp1
        | ret d s2 => rw [ebd] at pp1; exact pp1
        | exc e ρ2 s2 => rw [ebd] at pp1; exact pp1
        | stuck => rw [ebd] at pp1; exact pp1
    | _ => exact pp.elim

/-! #### x += e -/
def AugX (Γ : Set0) (op : Operator) (bo : Bop) : Prop := ∀ pins s0 σ κ s H x y dx dy v u Q, Inv Γ.X pins σ H s0 → RelV x v → RelV y u → HR Γ.X.K Γ.S κ s H → Rep Γ.X.K κ s.nx H x dx → Rep Γ.X.K κ s.nx H y dy →
  Pre Γ.X.K Γ.S (RepD Γ.X.K) Q (fun _ _ => False) κ s.nx H (augE bo dx dy s) → wpAny (model Γ.X.prog Γ.X.w) Γ.X.A (inplaceOp op v u) (EP Γ.X pins σ Q) Γ.X.xe s0
theorem oks_aug {j : Nat} {op : Operator} {bo : Bop} {pos' : Pos} (ho : AugX Γ op bo) (hN : Γ.X.N.Nodup) (hi : Γ.X.N[j]? = some x) (hx : Loc Γ.X.env.scope x) (hf : Γ.X.fn x = true ∨ Γ.X.env.scope.names.lookup x = some .local) (he : OkE Γ e ce) :
    OkS Γ (.AugAssign (.Name x pos') op e pos) (.aug j bo ce) := by
  intro σ ρ κ s H D hr sl p
  unfold evS at p
  cases ql : look ρ j with
  | none => rw [ql] at p; exact p.elim
  | some dx =>
  rw [ql] at p
  obtain ⟨xv, hx1, hx2⟩ := sl.at' j dx ql
  refine twS (ps_aug (ti := fun x y H Q => ∃ κ s dx dy, HR Γ.X.K Γ.S κ s H ∧ Rep Γ.X.K κ s.nx H x dx ∧ Rep Γ.X.K κ s.nx H y dy ∧ Pre Γ.X.K Γ.S (RepD Γ.X.K) Q (fun _ _ => False) κ s.nx H (augE bo dx dy s)) hN hi hx peW ?_ hf) ?_
  · intro pins s0 σ H x y v u Q I rx ry h
    obtain ⟨κ, s, dx, dy, h1, h2, h3, h4⟩ := h
    exact ho pins s0 σ κ s H x y dx dy v u Q I rx ry h1 h2 h3 h4
  · refine ⟨xv, hx1, ?_⟩
    refine ERd.useS he hr sl p fun d s1 κ1 H1 v t h1 sl1 r p1 => ?_
    refine ⟨κ1, s1, dx, d, h1, hx2.tr t, r, ?_⟩
    cases q : augE bo dx d s1 with
    | ok y s2 =>
      rw [q] at p1
      exact fun κ' H' v t' h' r' => p1 κ' H' _ t' h' ((sl1.tr t').set r')
    | exc => rw [q] at p1; exact p1.elim
    | stuck => rw [q] at p1; exact p1.elim

/-! #### raise -/
theorem oks_raise {t : St → Hp → XK → Prop} (hc : Γ.X.calm = true) (tk : Takes Γ.X Γ.W) (he : PMk Γ.X e t) {xx : Nat} (ht : ∀ σ H (Q : XK), Q (Γ.exV xx) none H → t σ H Q) : OkS Γ (.Raise (some e) none pos) (.raise xx) := by
  intro σ ρ κ s H D hr sl p
  unfold evS at p
  exact twS (ps_raise hc tk he) (ht σ H _ (p κ H σ Tr.refl hr sl))

/-! #### a, b = x, y stored the other way round -/
theorem oks_par {j l : Nat} {x y : Str} {px py pt : Pos} {kt k2 : Nat} {pt2 : Pos} (hc : Γ.X.calm = true) (hN : Γ.X.N.Nodup) (hi : Γ.X.N[j]? = some x) (hj : Γ.X.N[l]? = some y) (hij : j ≠ l)
    (hx : Γ.X.env.scope.names.lookup x = some .local) (hy : Γ.X.env.scope.names.lookup y = some .local) (ha : OkA Γ [a, b] ca) (hcl : clen ca = 2)
    (hw : swappedStores [.Tuple [.Name x px, .Name y py] kt pt] (.Tuple [a, b] k2 pt2) Γ.X.env = pure (some [x, y]))
    (hs : swapsWithSole [.Tuple [.Name x px, .Name y py] kt pt] (.Tuple [a, b] k2 pt2) pos.line Γ.X.env = pure false) :
    OkS Γ (.Assign [.Tuple [.Name x px, .Name y py] kt pt] (.Tuple [a, b] k2 pt2) pos) (.asg (.ttup (.cons (.tslot j) (.cons (.tslot l) .nil))) (.tup ca)) := by
  intro σ ρ κ s H D hr sl p
  refine twS (ps_par hc hN hi hj hij hx hy paW hw hs) ?_
  refine ha σ ρ κ s H _ hr sl ?_
  unfold evS evE at p
  cases q : evA Γ.P Γ.T ca ρ s with
  | stuck => rw [q] at p; exact p.elim
  | exc x s1 => rw [q] at p; exact fun κ1 H1 t h1 => p κ1 H1 σ t h1 (sl.tr t)
  | ok ds s1 =>
    rw [q] at p
    intro κ1 H1 vs t1 h1 rs
    have hl := evA_len ca q
    rw [hcl] at hl
    match ds, rs, hl with
    | [d1, d2], .cons r1 (.cons r2 .nil), _ =>
      refine ⟨_, _, rfl, ?_⟩
      have p1 := SRok.tr t1 p
      change SRok Γ D κ1 s1.nx H1 (match evT Γ.P Γ.T (.ttup (.cons (.tslot j) (.cons (.tslot l) .nil))) (.tuple [d1, d2]) ρ s1 with | .ok ρ1 s2 => .nx ρ1 s2 | _ => .stuck) at p1
      have e1 : evT Γ.P Γ.T (.ttup (.cons (.tslot j) (.cons (.tslot l) .nil))) (.tuple [d1, d2]) ρ s1 = if j < ρ.length then (if l < ρ.length then Res.ok ((ρ.set j (some d1)).set l (some d2)) s1 else .stuck) else .stuck := by
        by_cases z : j < ρ.length <;> by_cases z2 : l < ρ.length <;> simp [evT, evTs, tlen, Res.bind, z, z2]
      rw [e1] at p1
      by_cases z : j < ρ.length
      · rw [if_pos z] at p1
        by_cases z2 : l < ρ.length
        · rw [if_pos z2] at p1
          exact p1 κ1 H1 _ Tr.refl h1 (((sl.tr t1).set r1).set r2)
        · rw [if_neg z2] at p1; exact p1.elim
      · rw [if_neg z] at p1; exact p1.elim
/-! #### o.f += e, o[i] += e -/
theorem SRok.ofRes {D : Ends} {κ : Gh} {nx : Nat} {H : Hp} {σ : St} {ρ : Env} {r : Res Ev.D} (sl : Slots Γ.X.K κ nx H σ ρ) (p : SRok Γ D κ nx H (SR.of ρ r)) : Pre Γ.X.K Γ.S (RepD Γ.X.K) (fun _ H' => D.nx σ H') (Γ.E σ) κ nx H r := by
  cases r with
  | ok d s1 => exact fun κ' H' v t h r => p κ' H' σ t h (sl.tr t)
  | exc e s1 => exact p.elim
  | stuck => exact p
theorem oks_augF {op : Operator} {bo : Bop} (hop : AugX Γ op bo) (hnx : ∀ x y s, NoExc (augE bo x y s)) (ho : OkE Γ o co) (he : OkE Γ e ce) (hf : Γ.S.fld f = x) (hok : ∀ kC, Γ.P.fok kC f = true → f < Γ.S.nf ∧ NoAttr Γ.X.K (Γ.S.cls kC) (Γ.S.fld f)) :
    OkS Γ (.AugAssign (.Attribute o x apos) op e pos) (.augF co f bo ce) := by
  intro σ ρ κ s H D hr sl p
  unfold evS at p
  refine twS (ps_fldaug (rd := fun x y H Q => ∃ κ s dx dy, HR Γ.X.K Γ.S κ s H ∧ Rep Γ.X.K κ s.nx H x dx ∧ Rep Γ.X.K κ s.nx H y dy ∧ Pre Γ.X.K Γ.S (RepD Γ.X.K) Q (fun _ _ => False) κ s.nx H (augE bo dx dy s)) peW peW ?_) ?_
  · intro pins s0 σ H x y u v Q I rx ry h
    obtain ⟨κ, s, dx, dy, h1, h2, h3, h4⟩ := h
    exact hop pins s0 σ κ s H x y dx dy u v Q I rx ry h1 h2 h3 h4
  · refine ho.use hr sl (SRok.ofRes sl p) fun d s1 κ1 H1 v t1 h1 sl1 r1 p1 => ?_
    cases hfl : fldE d f s1 with
    | exc x s2 => unfold fldE at hfl; (repeat' (split at hfl)) <;> cases hfl
    | stuck => rw [hfl] at p1; exact p1.elim
    | ok dv s2 =>
    rw [hfl] at p1
    unfold fldE at hfl
    split at hfl
    · rename_i n
      split at hfl
      · rename_i kC fs hc
        split at hfl
        · rename_i _ hl
          cases hfl
          obtain ⟨rfl, hn, dx, xs, q1, q2, q3, q4⟩ := cell_case h1 r1 hc
          obtain ⟨hlt, hna, w, hw, rw'⟩ := q4.look hl
          subst hf
          refine ⟨_, _, dx, xs, w, rfl, q1, q2, hna, hw, ?_⟩
          refine he.use h1 sl1 p1 fun d2 s3 κ2 H2 y t2 h2 sl2 r2 p2 => ?_
          refine ⟨κ2, s3, dv, d2, h2, rw'.tr t2, r2, ?_⟩
          refine Pre.noexc (E := Γ.E σ) ?_ (hnx _ _ _)
          refine noexc_bind p2 fun dz s4 κ3 H3 z t3 h3 r3 p3 => ?_
          split at p3
          · rename_i hk
            cases hset : setFld Γ.P.fok (cel n) f dz s4 with
            | none => rw [hset] at p3; exact p3.elim
            | some s5 =>
            rw [hset] at p3
            unfold setFld at hset
            dsimp only at hset
            split at hset
            · rename_i kC' fs' hc'
              split at hset
              · rename_i hz
                have hz' := Bool.and_eq_true_iff.mp hz
                cases hset
                have hk' : some kC = some kC' := by
                  unfold clsD at hk
                  dsimp only at hk
                  rw [hc, hc'] at hk
                  exact hk
                cases hk'
                obtain ⟨e1, hn', dx', xs', q1', q2', q3', q4'⟩ := cell_case h3 ((r1.tr t2).tr t3) hc'
                injection e1 with e1
                obtain ⟨hlt', hna'⟩ := hok kC hz'.1
                have hl500 : fs'.length < 500 := Nat.blt_eq.mp hz'.2
                rw [e1]
                refine ⟨dx', xs', q1', by rw [q4'.len]; omega, ?_⟩
                have ts := h3.trs (o := .ins (Γ.S.cls kC) dx' (L2.putF (Γ.S.fld f) z xs')) hn' (fun _ _ z => by rw [q1'] at z; cases z)
                refine p3 κ3 _ .non ts (h3.set hn' (fun _ _ z => by rw [q1'] at z; cases z) ⟨dx', _, upd_same, q2', ?_, (q4'.put hlt' hna' r3).tr ts⟩) .non
                have := putD_len f dz fs'
                omega
              · cases hset
            · cases hset
          · exact p3.elim
        · cases hfl
      · cases hfl
    · cases hfl
theorem get_list {X : Cx} : PGet X (rIxL X.K) := by
  intro pins s σ H o i ov iv Q I ro ri h
  obtain ⟨p, xs, k, z, rfl, rfl, hq, he, q⟩ := h
  cases ro
  obtain ⟨t, rfl⟩ := ri
  obtain ⟨its, r, pl, hz⟩ := I.list hq
  obtain ⟨j, h1, h2, h3, h4, h5⟩ := atI_get he
  obtain ⟨w, ew, rw'⟩ := r.get h2
  have hl := r.length
  have hn := line63
  have fin : EP X pins σ Q w s := ⟨z, H, I, rw', q⟩
  by_cases h0 : 0 ≤ k
  · have hj : k.toNat = j := by
      rw [seqIndex_of h0 h5] at h1
      exact Option.some.inj h1
    exact wpAny_getItem_list pl.isList h0 (by omega) (by rw [hj]; simpa using ew) fin
  · have hj : (k + (its.toArray.size : Int)).toNat = j := by
      rw [seqIndex_neg (by omega) h4] at h1
      rw [List.size_toArray, ← hl]
      exact Option.some.inj h1
    exact wpAny_getItem_list_neg pl.isList (by omega) (by rw [List.size_toArray]; omega) (by omega) (by rw [hj]; simpa using ew) fin
theorem oks_augS {op : Operator} {bo : Bop} (hop : AugX Γ op bo) (hnx : ∀ x y s, NoExc (augE bo x y s)) (ho : OkE Γ o co) (hi : OkE Γ i ci) (he : OkE Γ e ce)
    (ha : ∀ ov iv new, augStore i ov iv new = (do holding [new, ov, iv] (setItem ov iv new); release [new, ov, iv] []; pure .next)) :
    OkS Γ (.AugAssign (.Subscript o i apos) op e pos) (.augS co ci bo ce) := by
  intro σ ρ κ s H D hr sl p
  unfold evS at p
  refine twS (ps_augS (tip := fun x y H Q => ∃ κ s dx dy, HR Γ.X.K Γ.S κ s H ∧ Rep Γ.X.K κ s.nx H x dx ∧ Rep Γ.X.K κ s.nx H y dy ∧ Pre Γ.X.K Γ.S (RepD Γ.X.K) Q (fun _ _ => False) κ s.nx H (augE bo dx dy s)) peW peW get_list peW ?_ set_list ha) ?_
  · intro pins s0 σ H x y u v Q I rx ry h
    obtain ⟨κ, s, dx, dy, h1, h2, h3, h4⟩ := h
    exact hop pins s0 σ κ s H x y dx dy u v Q I rx ry h1 h2 h3 h4
  · refine ho.use hr sl (SRok.ofRes sl p) fun d s1 κ1 H1 v t1 h1 sl1 r1 p1 => ?_
    refine hi.use h1 sl1 p1 fun d2 s2 κ2 H2 y t2 h2 sl2 r2 p2 => ?_
    replace r1 := r1.tr t2
    cases hix : ixC d d2 s2 with
    | exc x s3 => unfold ixC at hix; (repeat' (split at hix)) <;> cases hix
    | stuck => rw [hix] at p2; exact p2.elim
    | ok dv s3 =>
    rw [hix] at p2
    unfold ixC at hix
    split at hix
    · rename_i n kk
      obtain rfl := int_of r2
      split at hix
      · rename_i l hl
        split at hix
        · rename_i j hj
          split at hix
          · rename_i _ hd
            cases hix
            obtain ⟨rfl, hn⟩ := cel_of r1
            have q := h2.ok n hn
            rw [hl] at q
            obtain ⟨vs, q1, q2⟩ := q
            obtain ⟨z, hz1, hz2⟩ := q2.get hd
            refine ⟨_, vs, kk, z, rfl, rfl, .inl (.inl q1), ?_, ?_⟩
            · unfold atI
              rw [q2.len, show ixN _ kk = some j from hj]
              exact hz1
            refine he.use h2 sl2 p2 fun d4 s4 κ4 H4 w t4 h4 sl4 r4 p4 => ?_
            refine ⟨κ4, s4, dv, d4, h4, hz2.tr t4, r4, ?_⟩
            refine Pre.noexc (E := Γ.E σ) ?_ (hnx _ _ _)
            refine noexc_bind p4 fun dz s5 κ5 H5 zz t5 h5 r5 p5 => ?_
            cases hset : setLst (cel n) (.int kk) dz s5 with
            | none => rw [hset] at p5; exact p5.elim
            | some s6 =>
            rw [hset] at p5
            unfold setLst at hset
            dsimp only at hset
            split at hset
            · rename_i l' hl'
              split at hset
              · rename_i j' hj'
                cases hset
                obtain ⟨e1, hn'⟩ := cel_of ((r1.tr t4).tr t5)
                have q' := h5.ok n hn'
                rw [hl'] at q'
                obtain ⟨vs', q1', q2'⟩ := q'
                rw [e1]
                refine ⟨_, vs', kk, j', rfl, rfl, q1', by rw [q2'.len]; exact hj', ?_⟩
                have ts := h5.trs (o := .lst (vs'.set j' zz)) hn' (fun _ _ z => by rw [q1'] at z; cases z)
                exact p5 κ5 _ .non ts (h5.set hn' (fun _ _ z => by rw [q1'] at z; cases z) ⟨_, upd_same, (q2'.set r5 j').tr ts⟩) .non
              · cases hset
            · cases hset
          · cases hix
        · cases hix
      · cases hix
    · cases hix
end
end Ev

set_option Elab.async false
set_option linter.all false
set_option maxRecDepth 100000
set_option maxHeartbeats 1000000
namespace Ev
open PySem PySem.Spec PyProof.Rows L2

section
variable {Γ : Set0}

/-- the list that a datum is -/
theorem lst_of {κ : Gh} {s : Hs} {H : Hp} {v : V} {d : D} {l : List D} (h1 : HR Γ.X.K Γ.S κ s H) (r : Rep Γ.X.K κ s.nx H v d) (h : lstD d s = some l) : ∃ a vs, v = .ref a ∧ H a = some (.lst vs) ∧ Reps Γ.X.K κ s.nx H vs l := by
  unfold lstD at h
  split at h
  · cases h
    cases r with
    | lst f rs => exact ⟨_, _, rfl, f.1, rs⟩
  · rename_i n
    split at h
    · rename_i l2 hc
      cases h
      obtain ⟨rfl, hn⟩ := cel_of r
      have q := h1.ok n hn
      rw [hc] at q
      obtain ⟨vs, q1, q2⟩ := q
      exact ⟨_, vs, rfl, q1, q2⟩
    · cases h
  · cases h
theorem reps_flat {K : PySem.W.Frag} {κ : Gh} {nx : Nat} {H : Hp} {vs : List V} {ds : List D} (r : Reps K κ nx H vs ds) : ∀ n, Reps K κ nx H (List.replicate n vs).flatten (List.replicate n ds).flatten
  | 0 => .nil
  | n + 1 => by
    rw [List.replicate_succ, List.replicate_succ, List.flatten_cons, List.flatten_cons]
    exact r.append (reps_flat r n)
theorem give_lst {κ : Gh} {s : Hs} {H : Hp} {Q : VK} {E : Nat → Hp → Prop} {vs : List V} {l : List D} {q : Addr} (h1 : HR Γ.X.K Γ.S κ s H) (rs : Reps Γ.X.K κ s.nx H vs l)
    (p : Pre Γ.X.K Γ.S (RepD Γ.X.K) Q E κ s.nx H (.ok (.list l) s)) (hq : H q = none) : Q (.ref q) (upd H q (.lst vs)) :=
  p κ _ _ (h1.trn hq) (h1.new hq) (.lst ⟨upd_same, h1.fresh hq⟩ (rs.tr (h1.trn hq)))
/-! ### binary operators -/
theorem bop_nx (o : Bop) (x y : D) (s : Hs) : NoExc (bopE o x y s) := by
  intro e s1 h
  unfold bopE at h
  split at h
  · cases o <;> simp only at h <;> (try split at h) <;> cases h
  · cases o <;> simp only at h <;> (try split at h) <;> cases h
  · cases o <;> simp only at h <;> (repeat' (split at h)) <;> cases h
theorem opx_int {op : Operator} {o : Bop} {r : R2} (hr : OpR Γ.X (binaryOp op) r)
    (h : ∀ i j s d, bopE o (.int i) (.int j) s = d → d ≠ .stuck → ∃ z, d = .ok (.int z) s ∧ ∀ H Q, Q (.int z) H → r (.int i) (.int j) H Q)
    (hn : ∀ x y s, (∀ i j, ¬ (x = .int i ∧ y = .int j)) → bopE o x y s = .stuck) : OpX (Γ := Γ) (binaryOp op) (bopE o) := by
  intro pins s0 σ κ s H x y dx dy v u Q I rx ry h1 r1 r2 p
  by_cases q : ∃ i j, dx = .int i ∧ dy = .int j
  · obtain ⟨i, j, rfl, rfl⟩ := q
    obtain rfl := int_of r1
    obtain rfl := int_of r2
    obtain ⟨z, hz, hq⟩ := h i j s _ rfl (fun e => by rw [e] at p; exact p)
    rw [hz] at p
    exact hr pins s0 σ H _ _ v u Q I rx ry (hq H Q (p.give h1 .int))
  · rw [hn dx dy s (fun i j e => q ⟨i, j, e⟩)] at p
    exact p.elim
theorem opx_sub : OpX (Γ := Γ) (binaryOp .Sub) (bopE .sub) := opx_int op_sub
  (fun i j s d e _ => ⟨i - j, e.symm, fun H Q q => ⟨i, j, rfl, rfl, q⟩⟩)
  (fun x y s h => by unfold bopE; split <;> simp_all)
theorem opx_xor : OpX (Γ := Γ) (binaryOp .BitXor) (bopE .xor) := opx_int op_xor
  (fun i j s d e _ => ⟨Builtin.bitXor i j, e.symm, fun H Q q => ⟨i, j, rfl, rfl, q⟩⟩)
  (fun x y s h => by unfold bopE; split <;> simp_all)
theorem opx_mul : OpX (Γ := Γ) (binaryOp .Mult) (bopE .mul) := by
  intro pins s0 σ κ s H x y dx dy v u Q I rx ry h1 r1 r2 p
  unfold bopE at p
  split at p
  · rename_i i j
    obtain rfl := int_of r1
    obtain rfl := int_of r2
    simp only at p
    split at p
    · rename_i hz
      refine op_mul pins s0 σ H _ _ v u Q I rx ry ⟨i, j, rfl, rfl, ?_, p.give h1 .int⟩
      rcases Bool.or_eq_true_iff.mp hz with z | z
      · have := Bool.and_eq_true_iff.mp z
        exact .inr ⟨of_decide_eq_true this.1, of_decide_eq_true this.2⟩
      · have := Bool.and_eq_true_iff.mp z
        exact .inl ⟨of_decide_eq_true this.1, of_decide_eq_true this.2⟩
    · exact p.elim
  · exact p.elim
  · simp only at p
    split at p
    · rename_i l k hl _ _
      split at p
      · rename_i hz
        have hz1 := Bool.and_eq_true_iff.mp hz
        have hz2 := Bool.and_eq_true_iff.mp hz1.1
        have z1 : -100000 < k := of_decide_eq_true hz2.1
        have z2 : k < 100000 := of_decide_eq_true hz2.2
        have z3 : l.length * k.toNat ≤ 1000000 := Nat.ble_eq.mp hz1.2
        obtain ⟨b, ws, rfl, q1, q2⟩ := lst_of h1 r1 hl
        obtain rfl := int_of r2
        refine op_rep pins s0 σ H _ _ v u Q I rx ry ⟨b, k, ws, rfl, rfl, q1, by omega, by omega, ?_, fun q hq => give_lst h1 (reps_flat q2 _) p hq⟩
        rw [q2.len]
        exact Nat.le_trans z3 (by decide)
      · exact p.elim
    · exact p.elim
theorem opx_fdiv : OpX (Γ := Γ) (binaryOp .FloorDiv) (bopE .fdiv) := opx_int op_fdivN
  (fun i j s d e hd => by
    have e' : (if (decide (0 < j) && decide (j < 1073741824)) = true then Res.ok (PyData.int (i / j)) s else .stuck) = d := e
    split at e'
    · rename_i hz
      have hz := Bool.and_eq_true_iff.mp hz
      have h1 : 0 < j := of_decide_eq_true hz.1
      have h2 : j < 1073741824 := of_decide_eq_true hz.2
      refine ⟨i / j, e'.symm, fun H Q q => ⟨i, j, rfl, rfl, ⟨by omega, by omega⟩, ?_⟩⟩
      show Q (V.int (i.fdiv j)) H
      rw [Int.fdiv_eq_ediv_of_nonneg i (show 0 ≤ j by omega)]
      exact q
    · exact absurd e'.symm hd)
  (fun x y s h => by unfold bopE; split <;> simp_all)
theorem opx_mod : OpX (Γ := Γ) (binaryOp .Mod) (bopE .mod) := opx_int op_modN
  (fun i j s d e hd => by
    have e' : (if decide (0 < j) = true then Res.ok (PyData.int (i % j)) s else .stuck) = d := e
    split at e'
    · rename_i hz
      have h1 : 0 < j := of_decide_eq_true hz
      refine ⟨i % j, e'.symm, fun H Q q => ⟨i, j, rfl, rfl, by show j ≠ 0; omega, ?_⟩⟩
      show Q (V.int (i.fmod j)) H
      rw [Int.fmod_eq_emod_of_nonneg i (show 0 ≤ j by omega)]
      exact q
    · exact absurd e'.symm hd)
  (fun x y s h => by unfold bopE; split <;> simp_all)
theorem opx_pow : OpX (Γ := Γ) (binaryOp .Pow) (bopE .pow) := opx_int op_pow
  (fun i j s d e hd => by
    have e' : (if (decide (0 ≤ j) && decide (j ≤ 1000) && decide (i.natAbs < 2 ^ 64)) = true then Res.ok (PyData.int (i ^ j.toNat)) s else .stuck) = d := e
    split at e'
    · rename_i hz
      have hz1 := Bool.and_eq_true_iff.mp hz
      have hz2 := Bool.and_eq_true_iff.mp hz1.1
      have h1 : 0 ≤ j := of_decide_eq_true hz2.1
      have h2 : j ≤ 1000 := of_decide_eq_true hz2.2
      have h3 : i.natAbs < 2 ^ 64 := of_decide_eq_true hz1.2
      exact ⟨i ^ j.toNat, e'.symm, fun H Q q => ⟨i, j, rfl, rfl, ⟨h1, by omega, h3⟩, q⟩⟩
    · exact absurd e'.symm hd)
  (fun x y s h => by unfold bopE; split <;> simp_all)
theorem opx_add : OpX (Γ := Γ) (binaryOp .Add) (bopE .add) := by
  intro pins s0 σ κ s H x y dx dy v u Q I rx ry h1 r1 r2 p
  unfold bopE at p
  split at p
  · rename_i i j
    obtain rfl := int_of r1
    obtain rfl := int_of r2
    exact op_add pins s0 σ H _ _ v u Q I rx ry ⟨i, j, rfl, rfl, p.give h1 .int⟩
  · rename_i xs ys
    simp only at p
    split at p
    · rename_i hz
      have hz : xs.length + ys.length ≤ 1000000 := Nat.ble_eq.mp hz
      cases r1 with
      | @tup a1 vs1 _ f1 rs1 =>
      cases r2 with
      | @tup a2 vs2 _ f2 rs2 =>
      refine op_catA pins s0 σ H _ _ v u Q I rx ry ⟨_, _, _, _, rfl, rfl, f1.sq, f2.sq, ?_, ?_⟩
      · rw [rs1.len, rs2.len]
        exact Nat.le_trans hz (by decide)
      · refine ⟨fun e => ?_, fun _ e => ?_, fun _ _ q hq => ?_⟩
        · subst e
          cases rs1
          exact p.give h1 (.tup f2 rs2)
        · subst e
          cases rs2
          rw [List.append_nil] at p
          exact p.give h1 (.tup f1 rs1)
        · have tn := h1.trn (o := .tup (vs1 ++ vs2)) hq
          exact p κ _ _ tn (h1.new hq) (.tup ⟨upd_same, h1.fresh hq⟩ ((rs1.append rs2).tr tn))
    · exact p.elim
  · simp only at p
    split at p
    · rename_i l m hl hm
      split at p
      · rename_i hz
        have hz : l.length + m.length ≤ 1000000 := Nat.ble_eq.mp hz
        obtain ⟨a, ws, rfl, q1, q2⟩ := lst_of h1 r1 hl
        obtain ⟨b, zs, rfl, q3, q4⟩ := lst_of h1 r2 hm
        refine op_cat pins s0 σ H _ _ v u Q I rx ry ⟨a, b, ws, zs, rfl, rfl, q1, q3, ?_, fun q hq => give_lst h1 (q2.append q4) p hq⟩
        rw [q2.len, q4.len]
        exact Nat.le_trans hz (by decide)
      · exact p.elim
    · exact p.elim

/-! ### comparisons -/
theorem memE_nx (a b : D) (s : Hs) (k : Bool) : NoExc (memE a b s k) := by
  intro e s1 h
  unfold memE at h
  split at h
  · split at h <;> cases h
  · split at h
    · split at h <;> cases h
    · cases h
theorem memA_nx (a b : D) (s : Hs) (k : Bool) : NoExc (memA a b s k) := by
  intro e s1 h
  unfold memA at h
  split at h
  · split at h <;> cases h
  · split at h
    · split at h <;> cases h
    · exact memE_nx _ _ _ _ e s1 h
theorem cmp_nx (o : Cop) (x y : D) (s : Hs) : NoExc (cmpE o x y s) := by
  intro e s1 h
  unfold cmpE at h
  cases o <;> simp only at h <;> (try exact memA_nx _ _ _ _ e s1 h) <;> (repeat' (split at h)) <;> cases h
theorem dp_drfN {κ : Gh} {s : Hs} {H : Hp} (h1 : HR Γ.X.K Γ.S κ s H) : ∀ (k : Nat) {v : V} {d : D}, Rep Γ.X.K κ s.nx H v d → PyData.canLay0 (drfN k d s) = true → Dp Γ.X.K H v (drfN k d s)
  | 0, v, d, r, hz => r.dp hz
  | k + 1, v, d, r, hz => by
    have all : ∀ {vs : List V} {ds : List D}, Reps Γ.X.K κ s.nx H vs ds → PyData.canLayAll0 (ds.map fun x => drfN k x s) = true → DpAll Γ.X.K H vs (ds.map fun x => drfN k x s) := by
      intro vs ds rs
      induction ds generalizing vs with
      | nil => intro _; cases rs; exact .nil
      | cons d ds ih =>
        intro hz
        cases rs with
        | cons r1 r2 =>
          have e' := (Bool.and_eq_true_iff.mp (show (_ && _) = true by simpa [PyData.canLayAll0] using hz))
          exact .cons (dp_drfN h1 k r1 e'.1) (ih r2 (by simpa [PyData.canLayAll0] using e'.2))
    cases r with
    | non => exact .non
    | bl => exact .bl _
    | int => exact .int _
    | str => exact .str _
    | lst h rs => exact .lst h.sq (all rs (by simpa [drfN, PyData.canLay0] using hz))
    | tup h rs => exact .tup h.sq (all rs (by simpa [drfN, PyData.canLay0] using hz))
    | frz _ _ => exact absurd hz (by simp [drfN, PyData.canLay0])
    | rng _ => exact absurd hz (by simp [drfN, PyData.canLay0])
    | @cel n a hn e =>
      have q := h1.ok n hn
      subst e
      unfold drfN at hz ⊢
      simp only at hz ⊢
      cases z : s.h n with
      | lst l =>
        rw [z] at hz q
        obtain ⟨vs, q1, q2⟩ := q
        exact .lst (.inl (.inl q1)) (all q2 (by simpa [PyData.canLay0] using hz))
      | _ => rw [z] at hz; simp [PyData.canLay0] at hz
theorem dp_drf {κ : Gh} {s : Hs} {H : Hp} {v : V} {d : D} (h1 : HR Γ.X.K Γ.S κ s H) (r : Rep Γ.X.K κ s.nx H v d) (hz : SeqAt.shaped (drf d s) = true) : Dp Γ.X.K H v (drf d s) := dp_drfN h1 4 r (SeqAt.canLay_of_shaped hz)
theorem opx_eq (hu : Γ.X.A.units + 64 < cLine) : OpX (Γ := Γ) (compareOp .Eq) (cmpE .eq) := by
  intro pins s0 σ κ s H x y dx dy v u Q I rx ry h1 r1 r2 p
  unfold cmpE at p
  simp only at p
  split at p
  · rename_i hz
    have hz := Bool.and_eq_true_iff.mp hz
    exact op_eqD hu pins s0 σ H x y v u Q I rx ry ⟨_, _, dp_drf h1 r1 hz.1, dp_drf h1 r2 hz.2, hz.1, hz.2, p.give h1 .bl⟩
  · exact p.elim
theorem opx_ne (hu : Γ.X.A.units + 64 < cLine) : OpX (Γ := Γ) (compareOp .NotEq) (cmpE .ne) := by
  intro pins s0 σ κ s H x y dx dy v u Q I rx ry h1 r1 r2 p
  unfold cmpE at p
  simp only at p
  split at p
  · rename_i hz
    have hz := Bool.and_eq_true_iff.mp hz
    exact op_neD hu pins s0 σ H x y v u Q I rx ry ⟨_, _, dp_drf h1 r1 hz.1, dp_drf h1 r2 hz.2, hz.1, hz.2, p.give h1 .bl⟩
  · exact p.elim
theorem rep_non {K : PySem.W.Frag} {κ : Gh} {nx : Nat} {H : Hp} {v : V} {d : D} (r : Rep K κ nx H v d) : decide (v = .non) = isNoneD d := by
  cases r <;> simp [isNoneD]
theorem opx_isN : OpX (Γ := Γ) (compareOp .Is) (cmpE .isN) := by
  intro pins s0 σ κ s H x y dx dy v u Q I rx ry h1 r1 r2 p
  unfold cmpE at p
  simp only at p
  split at p
  · obtain rfl := non_of r2
    refine op_isN pins s0 σ H x _ v u Q I rx ry ⟨rfl, ?_⟩
    rw [rep_non r1]
    exact p.give h1 .bl
  · exact p.elim
theorem opx_notN : OpX (Γ := Γ) (compareOp .IsNot) (cmpE .notN) := by
  intro pins s0 σ κ s H x y dx dy v u Q I rx ry h1 r1 r2 p
  unfold cmpE at p
  simp only at p
  split at p
  · obtain rfl := non_of r2
    refine op_notN pins s0 σ H x _ v u Q I rx ry ⟨rfl, ?_⟩
    rw [rep_non r1]
    exact p.give h1 .bl
  · exact p.elim
theorem opx_cmpI {op : CmpOp} {o : Cop} {g : Int → Int → Bool} (hr : OpR Γ.X (compareOp op) (rI0 fun i j => .bl (g i j))) (h : ∀ i j s, cmpE o (.int i) (.int j) s = .ok (.bool (g i j)) s)
    (hn : ∀ x y s, (∀ i j, ¬ (x = .int i ∧ y = .int j)) → cmpE o x y s = .stuck) : OpX (Γ := Γ) (compareOp op) (cmpE o) := by
  intro pins s0 σ κ s H x y dx dy v u Q I rx ry h1 r1 r2 p
  by_cases q : ∃ i j, dx = .int i ∧ dy = .int j
  · obtain ⟨i, j, rfl, rfl⟩ := q
    obtain rfl := int_of r1
    obtain rfl := int_of r2
    rw [h] at p
    exact hr pins s0 σ H _ _ v u Q I rx ry ⟨i, j, rfl, rfl, p.give h1 .bl⟩
  · rw [hn dx dy s (fun i j e => q ⟨i, j, e⟩)] at p
    exact p.elim
theorem opx_le : OpX (Γ := Γ) (compareOp .LtE) (cmpE .le) := opx_cmpI op_le (fun _ _ _ => rfl) (fun x y s h => by unfold cmpE; simp only; split <;> simp_all)
theorem opx_gt : OpX (Γ := Γ) (compareOp .Gt) (cmpE .gt) := opx_cmpI op_gt (fun _ _ _ => rfl) (fun x y s h => by unfold cmpE; simp only; split <;> simp_all)
theorem opx_ge : OpX (Γ := Γ) (compareOp .GtE) (cmpE .ge) := opx_cmpI op_ge (fun _ _ _ => rfl) (fun x y s h => by unfold cmpE; simp only; split <;> simp_all)
/-- rows of ints -/
theorem ints_of {K : PySem.W.Frag} {κ : Gh} {nx : Nat} {H : Hp} : ∀ {vs : List V} {ns : List Int}, Reps K κ nx H vs (ns.map PyData.int) → vs = ns.map V.int
  | _, [], .nil => rfl
  | _, n :: ns, .cons r rs => by rw [int_of r, ints_of rs]; rfl
theorem ltAll_ints : ∀ {xs ys : List D} {b : Bool}, ltAll xs ys = some b → ∃ ns ms, xs = ns.map PyData.int ∧ ys = ms.map PyData.int ∧ b = HT.lexLt ns ms := by
  have allint : ∀ r : List D, (r.all (fun d => match d with | .int _ => true | _ => false)) = true → ∃ ns : List Int, r = ns.map PyData.int := by
    intro r
    induction r with
    | nil => intro _; exact ⟨[], rfl⟩
    | cons d r ih =>
      intro h
      rw [List.all_cons] at h
      obtain ⟨h1, h2⟩ := Bool.and_eq_true_iff.mp h
      obtain ⟨ns, rfl⟩ := ih h2
      cases d with
      | int i => exact ⟨i :: ns, rfl⟩
      | _ => cases h1
  intro xs
  induction xs with
  | nil =>
    intro ys b h
    cases ys with
    | nil => unfold ltAll at h; cases h; exact ⟨[], [], rfl, rfl, rfl⟩
    | cons d r =>
      cases d with
      | int i =>
        unfold ltAll at h
        split at h
        · rename_i hz
          cases h
          obtain ⟨ns, rfl⟩ := allint r hz
          exact ⟨[], i :: ns, rfl, rfl, rfl⟩
        · cases h
      | _ => unfold ltAll at h; cases h
  | cons d r ih =>
    intro ys b h
    cases d with
    | int i =>
      cases ys with
      | nil =>
        unfold ltAll at h
        split at h
        · rename_i hz
          cases h
          obtain ⟨ns, rfl⟩ := allint r hz
          exact ⟨i :: ns, [], rfl, rfl, rfl⟩
        · cases h
      | cons d2 r2 =>
        cases d2 with
        | int j =>
          unfold ltAll at h
          cases q : ltAll r r2 with
          | none => rw [q] at h; cases h
          | some b2 =>
            rw [q] at h
            cases h
            obtain ⟨ns, ms, rfl, rfl, rfl⟩ := ih q
            refine ⟨i :: ns, j :: ms, rfl, rfl, ?_⟩
            rw [HT.lexLt_cons]
            by_cases z : i = j
            · rw [if_pos z, decide_eq_true z, decide_eq_false (by omega)]; simp
            · rw [if_neg z, decide_eq_false z]; simp
        | _ => unfold ltAll at h; cases h
    | _ => cases ys <;> (unfold ltAll at h; cases h)
theorem opx_lt (hu : Γ.X.A.units < cLine) : OpX (Γ := Γ) (compareOp .Lt) (cmpE .lt) := by
  intro pins s0 σ κ s H x y dx dy v u Q I rx ry h1 r1 r2 p
  unfold cmpE at p
  simp only at p
  split at p
  · rename_i i j
    obtain rfl := int_of r1
    obtain rfl := int_of r2
    exact op_lt pins s0 σ H _ _ v u Q I rx ry ⟨i, j, rfl, rfl, p.give h1 .bl⟩
  · rename_i xs ys
    split at p
    · rename_i b hb
      obtain ⟨ns, ms, rfl, rfl, rfl⟩ := ltAll_ints hb
      cases r1 with
      | tup f1 rs1 =>
      cases r2 with
      | tup f2 rs2 =>
      refine op_ltT hu pins s0 σ H _ _ v u Q I rx ry ⟨_, _, ns, ms, rfl, rfl, ?_, ?_, p.give h1 .bl⟩
      · rw [← ints_of rs1]; exact f1.sq
      · rw [← ints_of rs2]; exact f2.sq
    · exact p.elim
  · exact p.elim
theorem eqV_flat {K : PySem.W.Frag} {κ : Gh} {nx : Nat} {H : Hp} {v w : V} {d e : D} (r : Rep K κ nx H v d) (r2 : Rep K κ nx H w e) (h : flat d = true) (h2 : flat e = true) : eqV v w = PyData.eqv d e := by
  cases r <;> cases r2 <;> first | rfl | exact absurd (show false = true from h) Bool.false_ne_true | exact absurd (show false = true from h2) Bool.false_ne_true | simp [eqV, PyData.eqv]
theorem flat_V {K : PySem.W.Frag} {κ : Gh} {nx : Nat} {H : Hp} {v : V} {d : D} (r : Rep K κ nx H v d) (h : flat d = true) : flatV v = true := by
  cases r <;> first | rfl | exact absurd (show false = true from h) Bool.false_ne_true
theorem inV_flat {K : PySem.W.Frag} {κ : Gh} {nx : Nat} {H : Hp} {x : V} {a : D} (r : Rep K κ nx H x a) (h : flat a = true) : ∀ {vs : List V} {l : List D}, Reps K κ nx H vs l → l.all flat = true → vs.all flatV = true ∧ inV x vs = l.any fun z => PyData.eqv z a
  | _, _, .nil, _ => ⟨rfl, rfl⟩
  | _, _, .cons r1 rs, e => by
    rw [List.all_cons] at e
    obtain ⟨e1, e2⟩ := Bool.and_eq_true_iff.mp e
    obtain ⟨h1, h2⟩ := inV_flat r h rs e2
    refine ⟨by rw [List.all_cons, flat_V r1 e1, h1]; rfl, ?_⟩
    unfold inV at h2 ⊢
    rw [List.any_cons, List.any_cons, eqV_flat r1 r e1 h, h2]
theorem seq_of {κ : Gh} {s : Hs} {H : Hp} {v : V} {d : D} {l : List D} (h1 : HR Γ.X.K Γ.S κ s H) (r : Rep Γ.X.K κ s.nx H v d) (h : seqD d s = some l) : ∃ a vs, v = .ref a ∧ (SqL Γ.X.K H a vs ∨ SqT Γ.X.K H a vs) ∧ Reps Γ.X.K κ s.nx H vs l := by
  unfold seqD at h
  split at h
  · cases h
    cases r with
    | lst f rs => exact ⟨_, _, rfl, .inl f.sq, rs⟩
  · cases h
    cases r with
    | tup f rs => exact ⟨_, _, rfl, .inr f.sq, rs⟩
  · rename_i n
    split at h
    · rename_i l2 hc
      cases h
      obtain ⟨rfl, hn⟩ := cel_of r
      have q := h1.ok n hn
      rw [hc] at q
      obtain ⟨vs, q1, q2⟩ := q
      exact ⟨_, vs, rfl, .inl (.inl (.inl q1)), q2⟩
    · cases h
  · cases h
theorem shaped_list {l : List D} (h : SeqAt.shaped (.list l) = true) : PyData.canLayAll0 l = true := by
  have := SeqAt.canLay_of_shaped h
  simpa [PyData.canLay0] using this
theorem opx_mem (hu : Γ.X.A.units + 65 < cLine) : OpX (Γ := Γ) (compareOp .In) (cmpE .mem) := by
  intro pins s0 σ κ s H x y dx dy v u Q I rx ry h1 r1 r2 p
  have p' : Pre Γ.X.K Γ.S (RepD Γ.X.K) Q (fun _ _ => False) κ s.nx H (memA dx dy s true) := p
  unfold memA at p'
  split at p'
  · rename_i kvs hk
    obtain ⟨n, xs, rfl, hn, q1, q2⟩ := dicK_of h1 r2 hk
    split at p'
    · rename_i k hkk
      cases (show u = Value.ref (κ.f n) from ry)
      have hg : DGet H (κ.f n) x (valV xs k) := by rw [keyV_of r1 hkk]; exact .inl ⟨_, _, q1, rfl, rfl⟩
      have hv : (valV xs k).isSome = (lookD kvs k).isSome := by
        cases hd : lookD kvs k with
        | none => rw [q2.miss hd]; rfl
        | some d => obtain ⟨w, w1, _⟩ := q2.look hd; rw [w1]; rfl
      refine d_in (Nat.lt_of_le_of_lt (Nat.add_le_add_left (by decide : 1 ≤ 65) _) hu) I hg rx fun s' I' => ⟨.bl ((valV xs k).isSome), H, I', rfl, ?_⟩
      rw [hv]
      exact p'.give h1 .bl
    · exact p'.elim
  split at p'
  · rename_i kvs hk
    obtain ⟨n, xs, rfl, hn, q1, q2⟩ := dicT_of h1 r2 hk
    split at p'
    · rename_i k hkk
      cases (show u = Value.ref (κ.f n) from ry)
      obtain ⟨b, rfl, hb⟩ := keyT_of r1 hkk
      have hg : DGet H (κ.f n) (.ref b) (valV xs k) := .t q1 hb
      have hv : (valV xs k).isSome = (lookT kvs k).isSome := by
        cases hd : lookT kvs k with
        | none => rw [q2.miss hd]; rfl
        | some d => obtain ⟨w, w1, _⟩ := q2.look hd; rw [w1]; rfl
      refine d_in (Nat.lt_of_le_of_lt (Nat.add_le_add_left (by decide : 1 ≤ 65) _) hu) I hg rx fun s' I' => ⟨.bl ((valV xs k).isSome), H, I', rfl, ?_⟩
      rw [hv]
      exact p'.give h1 .bl
    · exact p'.elim
  unfold memE at p'
  split at p'
  · rename_i l hl
    split at p'
    · rename_i hz
      have hz := Bool.and_eq_true_iff.mp hz
      obtain ⟨a, vs, rfl, q1, q2⟩ := lst_of h1 r2 hl
      exact op_inD hu pins s0 σ H x _ v u Q I rx ry ⟨dx, l, r1.dp (SeqAt.canLay_of_shaped hz.1), .lst (.inl (.inl q1)) (q2.dp (shaped_list hz.2)), hz.1, hz.2, p'.give h1 .bl⟩
    · exact p'.elim
  · split at p'
    · rename_i l
      split at p'
      · rename_i hz
        have hz := Bool.and_eq_true_iff.mp hz
        cases r2 with
        | tup f rs =>
        obtain ⟨z1, z2⟩ := inV_flat r1 hz.1 rs hz.2
        refine op_in_seq pins s0 σ H x _ v u Q I rx ry ⟨_, _, rfl, .inr f.sq, flat_V r1 hz.1, z1, ?_⟩
        show Q (.bl (inV x _)) H
        rw [z2]
        exact p'.give h1 .bl
      · exact p'.elim
    · exact p'.elim
theorem opx_nmem (hu : Γ.X.A.units + 65 < cLine) : OpX (Γ := Γ) (compareOp .NotIn) (cmpE .nmem) := by
  intro pins s0 σ κ s H x y dx dy v u Q I rx ry h1 r1 r2 p
  have p' : Pre Γ.X.K Γ.S (RepD Γ.X.K) Q (fun _ _ => False) κ s.nx H (memA dx dy s false) := p
  unfold memA at p'
  split at p'
  · rename_i kvs hk
    obtain ⟨n, xs, rfl, hn, q1, q2⟩ := dicK_of h1 r2 hk
    split at p'
    · rename_i k hkk
      cases (show u = Value.ref (κ.f n) from ry)
      have hg : DGet H (κ.f n) x (valV xs k) := by rw [keyV_of r1 hkk]; exact .inl ⟨_, _, q1, rfl, rfl⟩
      have hv : (valV xs k).isSome = (lookD kvs k).isSome := by
        cases hd : lookD kvs k with
        | none => rw [q2.miss hd]; rfl
        | some d => obtain ⟨w, w1, _⟩ := q2.look hd; rw [w1]; rfl
      refine d_notIn (Nat.lt_of_le_of_lt (Nat.add_le_add_left (by decide : 1 ≤ 65) _) hu) I hg rx fun s' I' => ⟨.bl (!(valV xs k).isSome), H, I', rfl, ?_⟩
      rw [hv]
      exact p'.give h1 .bl
    · exact p'.elim
  split at p'
  · rename_i kvs hk
    obtain ⟨n, xs, rfl, hn, q1, q2⟩ := dicT_of h1 r2 hk
    split at p'
    · rename_i k hkk
      cases (show u = Value.ref (κ.f n) from ry)
      obtain ⟨b, rfl, hb⟩ := keyT_of r1 hkk
      have hg : DGet H (κ.f n) (.ref b) (valV xs k) := .t q1 hb
      have hv : (valV xs k).isSome = (lookT kvs k).isSome := by
        cases hd : lookT kvs k with
        | none => rw [q2.miss hd]; rfl
        | some d => obtain ⟨w, w1, _⟩ := q2.look hd; rw [w1]; rfl
      refine d_notIn (Nat.lt_of_le_of_lt (Nat.add_le_add_left (by decide : 1 ≤ 65) _) hu) I hg rx fun s' I' => ⟨.bl (!(valV xs k).isSome), H, I', rfl, ?_⟩
      rw [hv]
      exact p'.give h1 .bl
    · exact p'.elim
  unfold memE at p'
  split at p'
  · rename_i l hl
    split at p'
    · rename_i hz
      have hz := Bool.and_eq_true_iff.mp hz
      obtain ⟨a, vs, rfl, q1, q2⟩ := lst_of h1 r2 hl
      exact op_notInD hu pins s0 σ H x _ v u Q I rx ry ⟨dx, l, r1.dp (SeqAt.canLay_of_shaped hz.1), .lst (.inl (.inl q1)) (q2.dp (shaped_list hz.2)), hz.1, hz.2, p'.give h1 .bl⟩
    · exact p'.elim
  · split at p'
    · rename_i l
      split at p'
      · rename_i hz
        have hz := Bool.and_eq_true_iff.mp hz
        cases r2 with
        | tup f rs =>
        obtain ⟨z1, z2⟩ := inV_flat r1 hz.1 rs hz.2
        refine op_notIn_seq pins s0 σ H x _ v u Q I rx ry ⟨_, _, rfl, .inr f.sq, flat_V r1 hz.1, z1, ?_⟩
        show Q (.bl (!inV x _)) H
        rw [z2]
        exact p'.give h1 .bl
      · exact p'.elim
    · exact p'.elim
end
end Ev

set_option Elab.async false
set_option linter.all false
set_option maxRecDepth 100000
set_option maxHeartbeats 1000000
namespace Ev
open PySem PySem.Spec PyProof.Rows L2
/-! ### sorted of a tuple of ints -/
section
variable {prog : Program} {w : World} {A : Around} {E : Value → Shared → Prop} {s : Shared}
abbrev laidH (h : Heap) (vs : List Value) : Heap := (h.push (seqObj "list" #[] 0)).update h.objs.size (Obj.mapSeq (· ++ vs.toArray))
theorem gather_tup {t : Addr} {vs : List Value} {Q : List Value → Shared → Prop} (ht : IsTup s.heap t vs.toArray) (k : Q vs { s with heap := laidH s.heap vs }) (hz : vs.length ≤ sizeLine) :
    wpAny (model prog w) A (collect (.ref t)) Q E s := by
  obtain ⟨o, g, c, n, d⟩ := ht
  have old : (s.heap.push (seqObj "list" #[] 0)).get? t = some o := Heap.get?_push_of_some _ g
  have new : (s.heap.push (seqObj "list" #[] 0)).get? s.heap.objs.size = some (seqObj "list" #[] 0) := Heap.get?_push_size _ rfl
  unfold collect
  apply wpAny_bind
  apply wpAny_runValue
  apply codeAny_builtin entry_proto_collect'
  show wpAny _ _ (newList [] >>= fun l => again (.builtin "list.__iadd__" ⟨[l, .ref t], []⟩)) _ _ s
  apply wpAny_bind
  refine wpAny_newList ?_ (Nat.zero_le _)
  apply wpAny_pure
  refine ⟨Code.quiet_builtin _ (by decide +kernel), ?_⟩
  apply codeAny_builtin entry_list_iadd'
  show wpAny _ _ (Builtin.List.listExtendWith (.ref s.heap.objs.size) (.ref t) (.ref s.heap.objs.size)) _ _ { s with heap := s.heap.push (seqObj "list" #[] 0) }
  unfold Builtin.List.listExtendWith
  apply wpAny_bind
  refine wpAny_typeOf (T := "tuple") ⟨o, old, c⟩ ?_
  have e2 : (Value.type "tuple" == Value.type "tuple") = true := by rfl
  rw [if_pos (by rw [e2]; simp)]
  apply wpAny_bind
  refine listItems_at old d ?_
  apply wpAny_bind
  refine listItems_at new rfl ?_
  rw [if_neg (by simp)]
  apply wpAny_bind
  refine listUpdate_at new rfl ?_ (Nat.zero_le _) ?_
  · apply wpAny_pure
    show wpAny (model prog w) A (load s.heap.objs.size >>= fun o => match o.data with
      | .seq xs _ => pure xs.toList
      | _ => unsupported "internal:collect") Q E { s with heap := laidH s.heap vs }
    apply wpAny_bind
    refine wpAny_load (get?_update_seq new _) ?_
    show wpAny _ _ (pure ((#[] : Array Value) ++ vs.toArray).toList) Q E _
    have e3 : ((#[] : Array Value) ++ vs.toArray).toList = vs := by simp
    rw [e3]
    exact wpAny_pure k
  · show (#[] ++ vs.toArray).size ≤ sizeLine + 1
    have e4 : (#[] ++ vs.toArray).size = vs.length := by simp
    omega
theorem sorted_tupE {t : Addr} {vs : List Value} {lt : Value → Value → Bool} {Q : Value → Shared → Prop} (O : SrtO.Swo lt) (ht : IsTup s.heap t vs.toArray) (hz : vs.length ≤ sizeLine)
    (hS : 2 ≤ vs.length → ∀ (h₁ : Heap) (a : Addr), h₁.get? a = some (seqObj "list" vs.toArray 0) → (∀ b o, s.heap.get? b = some o → b ≠ a ∧ h₁.get? b = some o) → SrtO.SortableO prog w A.in1.in1 { s with heap := h₁ } a vs lt)
    (k : ∀ out : List Value, SrtO.Srtd lt out → SrtO.Stb lt out vs → Q (.ref (s.heap.objs.size + 1)) { s with heap := sortedAll s.heap vs out.toArray }) :
    wpAny (model prog w) A (call (.builtin "sorted") [.ref t]) Q E s := by
  have z : (laidH s.heap vs).objs.size = s.heap.objs.size + 1 := by rw [Heap.size_update, size_push']
  have at1 : ((laidH s.heap vs).push (seqObj "list" vs.toArray 0)).get? (s.heap.objs.size + 1) = some (seqObj "list" vs.toArray 0) := by
    rw [← z]
    exact Heap.get?_push_size _ rfl
  have keep : ∀ b o, s.heap.get? b = some o → b ≠ s.heap.objs.size + 1 ∧ ((laidH s.heap vs).push (seqObj "list" vs.toArray 0)).get? b = some o := by
    intro b o q
    have lt := Heap.lt_size q
    refine ⟨Nat.ne_of_lt (Nat.lt_succ_of_lt lt), ?_⟩
    apply Heap.get?_push_of_some
    rw [Heap.get?_update_ne _ _ _ _ (Nat.ne_of_lt lt)]
    exact Heap.get?_push_of_some _ q
  apply Calls.call_function_entry kind_sorted plain_sorted entry_sorted (args_sorted1 _)
  unfold Builtin.«sorted»
  apply wpAny_bind (m := checkCount "sorted" 1 1 _)
  apply wpAny_pure
  apply wpAny_bind
  refine gather_tup ht ?_ hz
  apply wpAny_bind
  refine wpAny_newList ?_ hz
  show wpAny _ _ _ _ _ { s with heap := (laidH s.heap vs).push (seqObj "list" vs.toArray 0) }
  rw [z]
  apply wpAny_bind
  apply wpAny_holding
  refine wpAny_call_entry slot_list_sort ⟨_, at1, rfl⟩ entry_list_sort (SrtO.list_sort_ord O at1 hz (fun h2 => hS h2 _ _ at1 keep) fun out h1 h2 => ⟨_, rfl, ?_⟩) (args_list_sort _)
  exact wpAny_pure ⟨_, rfl, k out h1 h2⟩
end
section
variable {X : Cx}
theorem cr_sortedTi : CallR X (.builtin "sorted") (fun vs H Q => ∃ (a : Addr) (ns : List Int), vs = [V.ref a] ∧ SqT X.K H a (ns.map V.int) ∧ ∀ (ns' : List Int) (p : Addr), ns'.Perm ns → ns'.Pairwise (· ≤ ·) → H p = none → Q (.ref p) (upd H p (.lst (ns'.map V.int)))) := by
  intro pins s σ H vs us Q I r h
  obtain ⟨a, ns, rfl, hs, q⟩ := h
  obtain ⟨its, rv, hT, hz⟩ := I.tuple hs
  rw [Vals.ref1 r]
  have hi := rv.ints
  refine sorted_tupE SrtO.swo_int hT (by rw [← rv.length]; exact hz) (fun h2 h₁ a' _ _ => SrtO.ints_sortable hi h2) fun out h1 h2 => ?_
  obtain ⟨k1, k2, k3⟩ := SrtO.ints_out hi h1 h2
  obtain ⟨ep, e⟩ := PyProof.Rows.sortedAll_at s.heap its out.toArray
  have len : ((out.map SrtO.iv).map V.int).length ≤ sizeLine := by
    rw [List.length_map] at hz ⊢
    rw [k2.length_eq]
    exact hz
  refine ⟨.ref _, upd H (s.heap.objs.size + 1) (.lst ((out.map SrtO.iv).map V.int)), I.laid (t' := s.toks) (fun _ _ => PyProof.Rows.sortedAll_old) (Nat.le_succ _) ⟨len, out, ep, vals_of_ints k1, e⟩, rfl, ?_⟩
  exact q _ _ k2 k3 (I.hok.fresh (Nat.le_succ _))
end
end Ev

set_option Elab.async false
set_option linter.all false
set_option maxRecDepth 100000
set_option maxHeartbeats 1000000
namespace Ev
open PySem PySem.Spec PyProof.Rows L2

section
variable {Γ : Set0}
theorem bi_nx (o : Bi) (x : List D) (s : Hs) : NoExc (biE o x s) := by
  intro e s1 h
  unfold biE at h
  split at h <;> (repeat' (split at h)) <;> cases h
theorem nb_nx (o : Nb) (x : List D) (s : Hs) : NoExc (nbE o x s) := by
  intro e s1 h
  unfold nbE at h
  split at h <;> (repeat' (split at h)) <;> cases h
theorem rep1 {K : PySem.W.Frag} {κ : Gh} {nx : Nat} {H : Hp} {vs : List V} {d : D} (r : Reps K κ nx H vs [d]) : ∃ v, vs = [v] ∧ Rep K κ nx H v d := by
  cases r with
  | cons a b => cases b; exact ⟨_, rfl, a⟩
theorem rep2 {K : PySem.W.Frag} {κ : Gh} {nx : Nat} {H : Hp} {vs : List V} {d e : D} (r : Reps K κ nx H vs [d, e]) : ∃ v w, vs = [v, w] ∧ Rep K κ nx H v d ∧ Rep K κ nx H w e := by
  cases r with
  | cons a b =>
    obtain ⟨w, rfl, hw⟩ := rep1 b
    exact ⟨_, _, rfl, a, hw⟩
theorem intsD_some : ∀ {l : List D} {ns : List Int}, intsD l = some ns → l = ns.map PyData.int
  | [], ns, h => by unfold intsD at h; cases h; rfl
  | d :: r, ns, h => by
    cases d with
    | int i =>
      unfold intsD at h
      cases q : intsD r with
      | none => rw [q] at h; cases h
      | some ms => rw [q] at h; cases h; rw [intsD_some q]; rfl
    | _ => unfold intsD at h; cases h
theorem boolsD_some : ∀ {l : List D} {ns : List Bool}, boolsD l = some ns → l = ns.map PyData.bool
  | [], ns, h => by unfold boolsD at h; cases h; rfl
  | d :: r, ns, h => by
    cases d with
    | bool i =>
      unfold boolsD at h
      cases q : boolsD r with
      | none => rw [q] at h; cases h
      | some ms => rw [q] at h; cases h; rw [boolsD_some q]; rfl
    | _ => unfold boolsD at h; cases h
theorem bools_of {K : PySem.W.Frag} {κ : Gh} {nx : Nat} {H : Hp} : ∀ {vs : List V} {ns : List Bool}, Reps K κ nx H vs (ns.map PyData.bool) → vs = ns.map V.bl
  | _, [], .nil => rfl
  | _, n :: ns, .cons r rs => by rw [bl_of r, bools_of rs]; rfl
theorem reps_ints {K : PySem.W.Frag} {κ : Gh} {nx : Nat} {H : Hp} : ∀ (ns : List Int), Reps K κ nx H (ns.map V.int) (ns.map PyData.int)
  | [] => .nil
  | n :: ns => .cons .int (reps_ints ns)

theorem bi_len : BiX Γ (.builtin "len") (biE .len) := by
  intro pins s0 σ κ s H vs ds us Q I rv h1 rs p
  match ds, rs, p with
  | [], rs, p => exact p.elim
  | _ :: _ :: _, rs, p => exact p.elim
  | [d], rs, p =>
    obtain ⟨v, rfl, r⟩ := rep1 rs
    have p' : Pre Γ.X.K Γ.S (RepD Γ.X.K) Q (fun _ _ => False) κ s.nx H (match seqD d s with | some l => .ok (.int l.length) s | none => .stuck) := p
    split at p'
    · rename_i l hl
      obtain ⟨a, ws, rfl, q1, q2⟩ := seq_of h1 r hl
      refine call_len_seq pins s0 σ H _ us Q I rv ⟨a, ws, rfl, q1, ?_⟩
      rw [q2.len]
      exact p'.give h1 .int
    · exact p'.elim
theorem bi_abs : BiX Γ (.builtin "abs") (biE .abs) := by
  intro pins s0 σ κ s H vs ds us Q I rv h1 rs p
  unfold biE at p
  split at p <;> (try contradiction) <;> (try exact p.elim)
  rename_i i h _
  obtain ⟨v, rfl, r⟩ := rep1 rs
  obtain rfl := int_of r
  exact call_abs pins s0 σ H _ us Q I rv ⟨_, rfl, p.give h1 .int⟩
theorem bi_int : BiX Γ (.type "int") (biE .int) := by
  intro pins s0 σ κ s H vs ds us Q I rv h1 rs p
  unfold biE at p
  split at p <;> (try contradiction) <;> (try exact p.elim)
  · obtain ⟨v, rfl, r⟩ := rep1 rs
    obtain rfl := int_of r
    exact call_int1 pins s0 σ H _ us Q I rv (.inl ⟨_, rfl, p.give h1 .int⟩)
  · obtain ⟨v, rfl, r⟩ := rep1 rs
    obtain rfl := bl_of r
    exact call_int1 pins s0 σ H _ us Q I rv (.inr ⟨_, rfl, p.give h1 .int⟩)
theorem maxI_is : ∀ (ns : List Int) (n : Int), maxI n ns ∈ n :: ns ∧ ∀ y ∈ n :: ns, y ≤ maxI n ns
  | [], n => ⟨List.mem_singleton_self _, fun y h => by rw [List.mem_singleton.mp h]; exact Int.le_refl _⟩
  | k :: ns, n => by
    obtain ⟨h1, h2⟩ := maxI_is ns (if n < k then k else n)
    have e : maxI n (k :: ns) = maxI (if n < k then k else n) ns := rfl
    rw [e]
    have hk : n ≤ (if n < k then k else n) ∧ k ≤ (if n < k then k else n) := by split <;> omega
    refine ⟨?_, fun y hy => ?_⟩
    · rcases List.mem_cons.mp h1 with h | h
      · rw [h]
        split
        · exact List.mem_cons_of_mem _ List.mem_cons_self
        · exact List.mem_cons_self
      · exact List.mem_cons_of_mem _ (List.mem_cons_of_mem _ h)
    · have hm := h2 _ List.mem_cons_self
      rcases List.mem_cons.mp hy with h | h
      · rw [h]; omega
      · rcases List.mem_cons.mp h with h | h
        · rw [h]; omega
        · exact h2 y (List.mem_cons_of_mem _ h)
theorem minI_is : ∀ (ns : List Int) (n : Int), minI n ns ∈ n :: ns ∧ ∀ y ∈ n :: ns, minI n ns ≤ y
  | [], n => ⟨List.mem_singleton_self _, fun y h => by rw [List.mem_singleton.mp h]; exact Int.le_refl _⟩
  | k :: ns, n => by
    obtain ⟨h1, h2⟩ := minI_is ns (if k < n then k else n)
    have e : minI n (k :: ns) = minI (if k < n then k else n) ns := rfl
    rw [e]
    have hk : (if k < n then k else n) ≤ n ∧ (if k < n then k else n) ≤ k := by split <;> omega
    refine ⟨?_, fun y hy => ?_⟩
    · rcases List.mem_cons.mp h1 with h | h
      · rw [h]
        split
        · exact List.mem_cons_of_mem _ List.mem_cons_self
        · exact List.mem_cons_self
      · exact List.mem_cons_of_mem _ (List.mem_cons_of_mem _ h)
    · have hm := h2 _ List.mem_cons_self
      rcases List.mem_cons.mp hy with h | h
      · rw [h]; omega
      · rcases List.mem_cons.mp h with h | h
        · rw [h]; omega
        · exact h2 y (List.mem_cons_of_mem _ h)
theorem maxI_ok {n m : Int} {ns : List Int} (hm : m ∈ n :: ns) (h : ∀ y, y ∈ n :: ns → y ≤ m) : m = maxI n ns :=
  Int.le_antisymm ((maxI_is ns n).2 m hm) (h _ (maxI_is ns n).1)
theorem minI_ok {n m : Int} {ns : List Int} (hm : m ∈ n :: ns) (h : ∀ y, y ∈ n :: ns → m ≤ y) : m = minI n ns :=
  Int.le_antisymm (h _ (minI_is ns n).1) ((minI_is ns n).2 m hm)
theorem bi_max (hc : Γ.X.calm = true) : BiX Γ (.builtin "max") (biE .max) := by
  intro pins s0 σ κ s H vs ds us Q I rv h1 rs p
  unfold biE at p
  split at p <;> (try contradiction) <;> (try exact p.elim)
  · obtain ⟨v, w, rfl, r, r2⟩ := rep2 rs
    obtain rfl := int_of r
    obtain rfl := int_of r2
    exact call_max2 hc pins s0 σ H _ us Q I rv ⟨_, _, rfl, p.give h1 .int⟩
  · rename_i d hd
    split at p
    · rename_i n ns hl
      obtain ⟨v, rfl, r⟩ := rep1 rs
      cases hq : lstD d s with
      | none => rw [hq] at hl; cases hl
      | some l =>
        rw [hq] at hl
        obtain ⟨a, ws, rfl, q1, q2⟩ := lst_of h1 r hq
        have e := intsD_some hl
        subst e
        have e2 := ints_of q2
        subst e2
        refine cr_max hc pins s0 σ H _ us Q I rv ⟨a, n :: ns, rfl, .inl (.inl q1), Nat.succ_pos _, fun m hm hall => ?_⟩
        have em := maxI_ok hm hall
        subst em
        exact p.give h1 .int
    · exact p.elim
theorem bi_min (hc : Γ.X.calm = true) : BiX Γ (.builtin "min") (biE .min) := by
  intro pins s0 σ κ s H vs ds us Q I rv h1 rs p
  unfold biE at p
  split at p <;> (try contradiction) <;> (try exact p.elim)
  · obtain ⟨v, w, rfl, r, r2⟩ := rep2 rs
    obtain rfl := int_of r
    obtain rfl := int_of r2
    exact call_min2 hc pins s0 σ H _ us Q I rv ⟨_, _, rfl, p.give h1 .int⟩
  · rename_i d hd
    split at p
    · rename_i n ns hl
      obtain ⟨v, rfl, r⟩ := rep1 rs
      cases hq : lstD d s with
      | none => rw [hq] at hl; cases hl
      | some l =>
        rw [hq] at hl
        obtain ⟨a, ws, rfl, q1, q2⟩ := lst_of h1 r hq
        have e := intsD_some hl
        subst e
        have e2 := ints_of q2
        subst e2
        refine cr_min hc pins s0 σ H _ us Q I rv ⟨a, n :: ns, rfl, .inl (.inl q1), Nat.succ_pos _, fun m hm hall => ?_⟩
        have em := minI_ok hm hall
        subst em
        exact p.give h1 .int
    · exact p.elim
theorem bi_tuple : BiX Γ (.type "tuple") (biE .tuple) := by
  intro pins s0 σ κ s H vs ds us Q I rv h1 rs p
  unfold biE at p
  split at p <;> (try contradiction) <;> (try exact p.elim)
  · rename_i l
    obtain ⟨v, rfl, r⟩ := rep1 rs
    cases r with
    | tup f rr => exact call_tuple_of pins s0 σ H _ us Q I rv ⟨_, _, rfl, .inr ⟨f.sq, p.give h1 (.tup f rr)⟩⟩
  · rename_i d hd hd2
    split at p
    · rename_i l hl
      obtain ⟨v, rfl, r⟩ := rep1 rs
      obtain ⟨a, ws, rfl, q1, q2⟩ := lst_of h1 r hl
      refine call_tuple_of pins s0 σ H _ us Q I rv ⟨a, ws, rfl, .inl ⟨.inl (.inl q1), fun q hq => ?_⟩⟩
      have tn := h1.trn (o := .tup ws) hq
      exact p κ _ _ tn (h1.new hq) (.tup ⟨upd_same, h1.fresh hq⟩ (q2.tr tn))
    · exact p.elim
theorem cr_sumT {X : Cx} (hc : X.calm = true) : CallR X (.builtin "sum") (fun vs H Q => ∃ (a : Addr) (ns : List Int), vs = [V.ref a] ∧ SqT X.K H a (ns.map V.int) ∧ Q (.int ns.sum) H) := by
  intro pins s σ H vs us Q I r h
  obtain ⟨a, ns, rfl, hs, q⟩ := h
  obtain ⟨its, rv, hl, _⟩ := I.tuple hs
  rw [Vals.ref1 r]
  obtain ⟨xs, hx⟩ := rv.ints.allInts.items
  have hn : numsOf its.toArray.toList = ns := by rw [show its.toArray.toList = its from by simp]; exact rv.ints.numsOf
  have hl : s.heap.IsTuple a its.toArray := hl
  rw [hx] at hl hn
  rw [nums_intItems] at hn
  refine PySem.W.ktm_sumG (I.ok.hd hc) hl fun h' tk t' hk => ?_
  have e : preSum (numAt xs) xs.size = ns.sum := by rw [preSum_eq, List.take_of_length_le (by simp), hn]
  rw [e]
  exact ⟨.int ns.sum, H, I.kept hk, ⟨t', rfl⟩, q⟩
theorem bi_sum (hc : Γ.X.calm = true) : BiX Γ (.builtin "sum") (biE .sum) := by
  intro pins s0 σ κ s H vs ds us Q I rv h1 rs p
  unfold biE at p
  split at p <;> (try contradiction) <;> (try exact p.elim)
  · rename_i l
    split at p
    · rename_i ns hl
      obtain ⟨v, rfl, r⟩ := rep1 rs
      have e := intsD_some hl
      subst e
      cases r with
      | @tup a vs _ f q2 =>
        have e2 := ints_of q2
        subst e2
        exact cr_sumT hc pins s0 σ H _ us Q I rv ⟨a, ns, rfl, f.sq, p.give h1 .int⟩
    · exact p.elim
  · rename_i d hd hd2
    split at p
    · rename_i ns hl
      obtain ⟨v, rfl, r⟩ := rep1 rs
      cases hq : lstD d s with
      | none => rw [hq] at hl; cases hl
      | some l =>
        rw [hq] at hl
        obtain ⟨a, ws, rfl, q1, q2⟩ := lst_of h1 r hq
        have e := intsD_some hl
        subst e
        have e2 := ints_of q2
        subst e2
        exact cr_sum hc pins s0 σ H _ us Q I rv ⟨a, ns, rfl, .inl (.inl q1), p.give h1 .int⟩
    · exact p.elim
theorem bi_any (hc : Γ.X.calm = true) : BiX Γ (.builtin "any") (biE .any) := by
  intro pins s0 σ κ s H vs ds us Q I rv h1 rs p
  unfold biE at p
  split at p <;> (try contradiction) <;> (try exact p.elim)
  rename_i d hd
  split at p
  · rename_i ns hl
    obtain ⟨v, rfl, r⟩ := rep1 rs
    cases hq : lstD d s with
    | none => rw [hq] at hl; cases hl
    | some l =>
      rw [hq] at hl
      obtain ⟨a, ws, rfl, q1, q2⟩ := lst_of h1 r hq
      have e := boolsD_some hl
      subst e
      have e2 := bools_of q2
      subst e2
      exact cr_any hc pins s0 σ H _ us Q I rv ⟨a, ns, rfl, .inl (.inl q1), p.give h1 .bl⟩
  · exact p.elim
theorem cr_allT {X : Cx} (hc : X.calm = true) : CallR X (.builtin "all") (fun vs H Q => ∃ (a : Addr) (bs : List Bool), vs = [V.ref a] ∧ SqT X.K H a (bs.map V.bl) ∧ Q (.bl (bs.all id)) H) := by
  intro pins s σ H vs us Q I r h
  obtain ⟨a, bs, rfl, hs, q⟩ := h
  obtain ⟨its, rv, hl, _⟩ := I.tuple hs
  rw [Vals.ref1 r]
  have hb := rv.bls
  have hlt : a < s.heap.objs.size := by obtain ⟨_, e, _⟩ := hl; exact Heap.lt_size e
  refine call_all_walk (wpAny_pyIter_tuple hl ?_)
  have st : (s.heap.push { cls := .type "tuple_iterator", data := .fields #[.ref a, .int 0 0] }).IsTupleIter s.heap.objs.size a 0 ∧ (s.heap.push { cls := .type "tuple_iterator", data := .fields #[.ref a, .int 0 0] }).IsTuple a its.toArray := ⟨⟨_, Heap.get?_push_size _ rfl, rfl, rfl⟩, Heap.IsTuple.push hl _⟩
  refine ⟨_, _, _, _, _, _, _, rfl, Walks.tuple (A := X.A.in1) (I.ok.hd hc) _ a (Nat.ne_of_lt hlt) its.toArray, st, truth_bools hb, fun h' tk hk => ?_⟩
  refine ⟨.bl _, H, I.kept fun b o eo => hk b o (fun hmem => ?_) (Heap.get?_push_of_some _ eo), ?_, q⟩
  · rcases List.mem_cons.mp hmem with e1 | hmem
    · exact absurd (e1 ▸ Heap.lt_size eo) (Nat.lt_irrefl _)
    · cases hmem
  · show Value.bool _ = Value.bool _
    rw [← L2.all_range, hb, List.size_toArray, List.length_map]
theorem bi_all (hc : Γ.X.calm = true) : BiX Γ (.builtin "all") (biE .all) := by
  intro pins s0 σ κ s H vs ds us Q I rv h1 rs p
  unfold biE at p
  split at p <;> (try contradiction) <;> (try exact p.elim)
  · rename_i l
    split at p
    · rename_i ns hl
      obtain ⟨v, rfl, r⟩ := rep1 rs
      have e := boolsD_some hl
      subst e
      cases r with
      | @tup a vs _ f q2 =>
        have e2 := bools_of q2
        subst e2
        exact cr_allT hc pins s0 σ H _ us Q I rv ⟨a, ns, rfl, f.sq, p.give h1 .bl⟩
    · exact p.elim
  · rename_i d hd hd2
    split at p
    · rename_i ns hl
      obtain ⟨v, rfl, r⟩ := rep1 rs
      cases hq : lstD d s with
      | none => rw [hq] at hl; cases hl
      | some l =>
        rw [hq] at hl
        obtain ⟨a, ws, rfl, q1, q2⟩ := lst_of h1 r hq
        have e := boolsD_some hl
        subst e
        have e2 := bools_of q2
        subst e2
        exact cr_all hc pins s0 σ H _ us Q I rv ⟨a, ns, rfl, .inl (.inl q1), p.give h1 .bl⟩
    · exact p.elim

/-! ### new lists -/
theorem give_new {κ : Gh} {s : Hs} {H H0 : Hp} {Q : VK} {E : Nat → Hp → Prop} {vs : List V} {l : List D} {q : Addr} (h1 : HR Γ.X.K Γ.S κ s H) (h0 : ∀ p, H p = none → HN H0 p) (rs : Reps Γ.X.K κ s.nx H vs l)
    (p : Pre Γ.X.K Γ.S (RepN Γ.X.K Γ.S H0) Q E κ s.nx H (.ok l s)) (hq : H q = none) : Q (.ref q) (upd H q (.lst vs)) :=
  p κ _ _ (h1.trn hq) (h1.new hq) (repN_new h1 hq rs (h0 q hq))
theorem bn_list : BiN Γ (.type "list") (nbE .list) := by
  intro pins s0 σ κ s H H0 vs ds us Q I rv h1 h0 rs p
  unfold nbE at p
  split at p <;> (try contradiction) <;> (try exact p.elim)
  rename_i d hd
  split at p
  · rename_i l hl
    obtain ⟨v, rfl, r⟩ := rep1 rs
    obtain ⟨a, ws, rfl, q1, q2⟩ := seq_of h1 r hl
    exact call_list_of pins s0 σ H _ us Q I rv ⟨a, ws, rfl, q1, fun q hq => give_new h1 h0 q2 p hq⟩
  · exact p.elim
theorem on_cat : OpN Γ (binaryOp .Add) (nbE .cat) := by
  intro pins s0 σ κ s H H0 x y dx dy v u Q I rx ry h1 h0 r1 r2 p
  have p' : Pre Γ.X.K Γ.S (RepN Γ.X.K Γ.S H0) Q (fun _ _ => False) κ s.nx H (match lstD dx s, lstD dy s with
    | some x, some y => if Nat.ble (x.length + y.length) 1000000 then .ok (x ++ y) s else .stuck
    | _, _ => .stuck) := p
  split at p'
  · rename_i l m hl hm
    split at p'
    · rename_i hz
      have hz : l.length + m.length ≤ 1000000 := Nat.ble_eq.mp hz
      obtain ⟨a, ws, rfl, q1, q2⟩ := lst_of h1 r1 hl
      obtain ⟨b, zs, rfl, q3, q4⟩ := lst_of h1 r2 hm
      refine op_cat pins s0 σ H _ _ v u Q I rx ry ⟨a, b, ws, zs, rfl, rfl, q1, q3, ?_, fun q hq => give_new h1 h0 (q2.append q4) p' hq⟩
      rw [q2.len, q4.len]
      exact Nat.le_trans hz (by decide)
    · exact p'.elim
  · exact p'.elim
theorem on_rep : OpN Γ (binaryOp .Mult) (nbE .rep) := by
  intro pins s0 σ κ s H H0 x y dx dy v u Q I rx ry h1 h0 r1 r2 p
  cases dy with
  | int k =>
  change Pre Γ.X.K Γ.S (RepN Γ.X.K Γ.S H0) Q (fun _ _ => False) κ s.nx H (match lstD dx s with
    | some x => if decide (-100000 < k) && decide (k < 100000) && Nat.ble (x.length * k.toNat) 1000000 then .ok (List.replicate k.toNat x).flatten s else .stuck
    | none => .stuck) at p
  split at p
  · rename_i l hl
    split at p
    · rename_i hz
      have hz1 := Bool.and_eq_true_iff.mp hz
      have hz2 := Bool.and_eq_true_iff.mp hz1.1
      have z1 : -100000 < k := of_decide_eq_true hz2.1
      have z2 : k < 100000 := of_decide_eq_true hz2.2
      have z3 : l.length * k.toNat ≤ 1000000 := Nat.ble_eq.mp hz1.2
      obtain ⟨b, ws, rfl, q1, q2⟩ := lst_of h1 r1 hl
      obtain rfl := int_of r2
      refine op_rep pins s0 σ H _ _ v u Q I rx ry ⟨b, k, ws, rfl, rfl, q1, by omega, by omega, ?_, fun q hq => give_new h1 h0 (reps_flat q2 _) p hq⟩
      rw [q2.len]
      exact Nat.le_trans z3 (by decide)
    · exact p.elim
  · exact p.elim
  | none => exact p.elim
  | bool _ => exact p.elim
  | str _ => exact p.elim
  | list _ => exact p.elim
  | tuple _ => exact p.elim
  | dict _ => exact p.elim
theorem insI_perm (i : Int) : ∀ l, (insI i l).Perm (i :: l)
  | [] => .refl _
  | j :: r => by
    unfold insI
    split
    · exact .refl _
    · exact ((insI_perm i r).cons j).trans (.swap i j r)
theorem sortI_perm : ∀ l, (sortI l).Perm l
  | [] => .refl _
  | i :: r => (insI_perm i _).trans ((sortI_perm r).cons i)
theorem insI_sorted (i : Int) : ∀ l, l.Pairwise (· ≤ ·) → (insI i l).Pairwise (· ≤ ·)
  | [], _ => List.pairwise_singleton _ _
  | j :: r, h => by
    unfold insI
    have h' := List.pairwise_cons.mp h
    split
    · rename_i hz
      refine List.pairwise_cons.mpr ⟨fun x hx => ?_, h⟩
      rcases List.mem_cons.mp hx with rfl | hx
      · exact hz
      · exact Int.le_trans hz (h'.1 x hx)
    · rename_i hz
      refine List.pairwise_cons.mpr ⟨fun x hx => ?_, insI_sorted i r h'.2⟩
      rcases List.mem_cons.mp ((insI_perm i r).mem_iff.mp hx) with rfl | hx
      · omega
      · exact h'.1 x hx
theorem sortI_sorted : ∀ l, (sortI l).Pairwise (· ≤ ·)
  | [] => .nil
  | i :: r => insI_sorted i _ (sortI_sorted r)
theorem sortI_unique {l m : List Int} (hp : m.Perm l) (hs : m.Pairwise (· ≤ ·)) : m = sortI l :=
  List.Perm.eq_of_pairwise (le := (· ≤ ·)) (fun a b _ _ h1 h2 => Int.le_antisymm h1 h2) hs (sortI_sorted l) (hp.trans (sortI_perm l).symm)
theorem bn_sorted : BiN Γ (.builtin "sorted") (nbE .sorted) := by
  intro pins s0 σ κ s H H0 vs ds us Q I rv h1 h0 rs p
  unfold nbE at p
  split at p <;> (try contradiction) <;> (try exact p.elim)
  rename_i d hd
  split at p
  · rename_i ns hl
    obtain ⟨v, rfl, r⟩ := rep1 rs
    cases hq : seqD d s with
    | none => rw [hq] at hl; cases hl
    | some l =>
      rw [hq] at hl
      obtain ⟨a, ws, rfl, q1, q2⟩ := seq_of h1 r hq
      have e := intsD_some hl
      subst e
      have e2 := ints_of q2
      subst e2
      rcases q1 with q1 | q1
      · refine cr_sortedI pins s0 σ H _ us Q I rv ⟨a, ns, rfl, q1, fun ns' q hp hs hq => ?_⟩
        rw [sortI_unique hp hs]
        exact give_new h1 h0 (reps_ints _) p hq
      · refine cr_sortedTi pins s0 σ H _ us Q I rv ⟨a, ns, rfl, q1, fun ns' q hp hs hq => ?_⟩
        rw [sortI_unique hp hs]
        exact give_new h1 h0 (reps_ints _) p hq
  · exact p.elim
end
end Ev

set_option Elab.async false
set_option linter.all false
set_option maxRecDepth 100000
set_option maxHeartbeats 1000000
namespace Ev
open PySem PySem.Spec PyProof.Rows L2
/-! ### slices -/
theorem reps_cut {K : PySem.W.Frag} {κ : Gh} {nx : Nat} {H : Hp} {vs : List V} {ds : List D} (r : Reps K κ nx H vs ds) (lo hi : Option Int) : Reps K κ nx H (cutV vs lo hi) (cutD ds lo hi) := by
  unfold cutV cutD
  rw [r.len]
  exact (r.drop _).take _
theorem cut_whole {α : Type} {xs : List α} {lo hi : Option Int} (h : HT.sIx xs.length 0 lo = 0 ∧ HT.sIx xs.length xs.length hi = xs.length) : cutD xs lo hi = xs := by
  unfold cutD
  rw [h.1, h.2, List.drop_zero, Nat.sub_zero, List.take_length]
/-- a slice's part -/
def TWp (X : Cx) (e : Option Expr) : TO := fun σ H Q => ∀ pins s, Inv X pins σ H s → wpAny (model X.prog X.w) X.A (evalPart e X.env) (fun u s' => ∃ o H', Inv X pins σ H' s' ∧ IsPart u o ∧ Q o H') X.xe s
theorem poW {X : Cx} {e : Option Expr} : PO X e (TWp X e) := ⟨fun pins s σ H Q I h => h pins s I⟩
section
variable {Γ : Set0} {a : Expr} {ca cl ch c : C} {lo hi : Option Expr} {pos : Pos}
def OkO (Γ : Set0) (e : Option Expr) (c : C) : Prop := ∀ σ ρ κ s H Q, HR Γ.X.K Γ.S κ s H → Slots Γ.X.K κ s.nx H σ ρ → (∀ d s1, evA Γ.P Γ.T c ρ s = .ok d s1 → (optI d).isSome = true) →
  Pre Γ.X.K Γ.S (fun κ s H (v : Option Int) d => optI d = some v) Q (Γ.E σ) κ s.nx H (evA Γ.P Γ.T c ρ s) → TWp Γ.X e σ H Q
theorem oko_none : OkO Γ none .nil := by
  intro σ ρ κ s H Q hr sl hI p pins s0 I
  exact po_none.run pins s0 σ H Q I (p.give (v := (none : Option Int)) hr rfl)
theorem evA1 {P : Prog} {T : Nat → List D → Hs → Res D} {ca : C} {ρ : Env} {s : Hs} : evA P T (.cons ca .nil) ρ s = (evE P T ca ρ s).bind fun x s1 => .ok [x] s1 := by
  simp only [evA, Res.bind]
theorem oko_some {e : Expr} (h : OkE Γ e c) : OkO Γ (some e) (.cons c .nil) := by
  intro σ ρ κ s H Q hr sl hI p pins s0 I
  refine (po_some (peW (e := e))).run pins s0 σ H Q I ?_
  rw [evA1] at p hI
  refine h σ ρ κ s H _ hr sl (Pre.bind p fun d s1 κ1 H1 v e1 t h1 r p1 => ?_)
  have z := hI [d] s1 (by rw [e1]; rfl)
  cases d with
  | int i => exact ⟨i, int_of r, p1.give (v := some i) h1 rfl⟩
  | _ => cases z
theorem ok_slice {p2 : Pos} (ha : OkE Γ a ca) (hl : OkO Γ lo cl) (hh : OkO Γ hi ch) : OkE Γ (.Subscript a (.Slice lo hi none p2) pos) (.slice ca cl ch) := by
  intro σ ρ κ s H Q hr sl p
  unfold evE at p
  refine twE (pe_slice ((sl_list (X := Γ.X)).or sl_tupA) peW poW poW) ?_
  refine ha.use hr sl p fun d s1 κ1 H1 x t1 h1 sl1 r1 p1 => ?_
  refine hl σ ρ κ1 s1 H1 _ h1 sl1 (fun ls s2 e => ?_) (Pre.bind p1 fun ls s2 κ2 H2 v e2 t2 h2 r2 p2 => ?_)
  · rw [e] at p1
    cases q : optI ls with
    | some v => rfl
    | none =>
      have p1' : Pre Γ.X.K Γ.S (RepD Γ.X.K) Q (Γ.E σ) κ1 s1.nx H1 (match optI ls with
        | some l => (evA Γ.P Γ.T ch ρ s2).bind fun hs s3 => match optI hs with
          | some h => sliceE d l h s3
          | none => .stuck
        | none => .stuck) := p1
      rw [q] at p1'
      exact p1'.elim
  · rw [r2] at p2
    dsimp only at p2
    refine hh σ ρ κ2 s2 H2 _ h2 (sl1.tr t2) (fun hs s3 e => ?_) (Pre.bind p2 fun hs s3 κ3 H3 w e3 t3 h3 r3 p3 => ?_)
    · rw [e] at p2
      cases q : optI hs with
      | some v => rfl
      | none =>
        have p2' : Pre Γ.X.K Γ.S (RepD Γ.X.K) Q (Γ.E σ) κ2 s2.nx H2 (match optI hs with
          | some h => sliceE d v h s3
          | none => .stuck) := p2
        rw [q] at p2'
        exact p2'.elim
    · rw [r3] at p3
      dsimp only at p3
      have rx := r1.tr (t2.trans t3)
      unfold sliceE at p3
      split at p3
      · rename_i l
        cases rx with
        | @tup aa vs _ f rs =>
          refine .inr ⟨aa, vs, rfl, f.sq, fun e => ?_, fun e q hq => ?_⟩
          · rw [rs.len] at e
            rw [cut_whole e] at p3
            exact p3.give h3 (.tup f rs)
          · have tn := h3.trn (o := .tup (cutV vs v w)) hq
            exact p3 κ3 _ _ tn (h3.new hq) (.tup ⟨upd_same, h3.fresh hq⟩ ((reps_cut rs v w).tr tn))
      · rename_i l
        cases rx with
        | @frz aa vs _ f rs => exact .inl ⟨aa, vs, rfl, f.sq, fun q hq => give_lst h3 (reps_cut rs v w) p3 hq⟩
      · split at p3
        · rename_i l hl
          obtain ⟨aa, vs, rfl, q1, q2⟩ := lst_of h3 rx hl
          exact .inl ⟨aa, vs, rfl, .inl (.inl q1), fun q hq => give_lst h3 (reps_cut q2 v w) p3 hq⟩
        · exact p3.elim

theorem okn_slice {p2 : Pos} (ha : OkE Γ a ca) (hl : OkO Γ lo cl) (hh : OkO Γ hi ch) : OkN Γ (.Subscript a (.Slice lo hi none p2) pos) (.nsl ca cl ch) := by
  intro σ ρ κ s H Q hr sl p
  unfold evN at p
  refine twE (pe_slice ((sl_list (X := Γ.X)).or sl_tupA) peW poW poW) ?_
  refine ha.use hr sl p fun d s1 κ1 H1 x t1 h1 sl1 r1 p1 => ?_
  refine hl σ ρ κ1 s1 H1 _ h1 sl1 (fun ls s2 e => ?_) (Pre.bind p1 fun ls s2 κ2 H2 v e2 t2 h2 r2 p2 => ?_)
  · rw [e] at p1
    cases q : optI ls with
    | some v => rfl
    | none =>
      have p1' : Pre Γ.X.K Γ.S (RepN Γ.X.K Γ.S H) Q (Γ.E σ) κ1 s1.nx H1 (match optI ls with
        | some l => (evA Γ.P Γ.T ch ρ s2).bind fun hs s3 => match optI hs with
          | some h => sliceN d l h s3
          | none => .stuck
        | none => .stuck) := p1
      rw [q] at p1'
      exact p1'.elim
  · rw [r2] at p2
    dsimp only at p2
    refine hh σ ρ κ2 s2 H2 _ h2 (sl1.tr t2) (fun hs s3 e => ?_) (Pre.bind p2 fun hs s3 κ3 H3 w e3 t3 h3 r3 p3 => ?_)
    · rw [e] at p2
      cases q : optI hs with
      | some v => rfl
      | none =>
        have p2' : Pre Γ.X.K Γ.S (RepN Γ.X.K Γ.S H) Q (Γ.E σ) κ2 s2.nx H2 (match optI hs with
          | some h => sliceN d v h s3
          | none => .stuck) := p2
        rw [q] at p2'
        exact p2'.elim
    · rw [r3] at p3
      dsimp only at p3
      have rx := r1.tr (t2.trans t3)
      have h0 : ∀ p, H3 p = none → HN H p := fun p hp => ((t1.trans t2).trans t3).none' hr h3 hp
      unfold sliceN at p3
      split at p3
      · rename_i l
        cases rx with
        | @frz aa vs _ f rs => exact .inl ⟨aa, vs, rfl, f.sq, fun q hq => give_new h3 h0 (reps_cut rs v w) p3 hq⟩
      · split at p3
        · rename_i l hl
          obtain ⟨aa, vs, rfl, q1, q2⟩ := lst_of h3 rx hl
          exact .inl ⟨aa, vs, rfl, .inl (.inl q1), fun q hq => give_new h3 h0 (reps_cut q2 v w) p3 hq⟩
        · exact p3.elim

/-! ### turned round -/
theorem placesB (n : Nat) : Builtin.Slice.sliceAdjust none none (-1) (n : Int) = ((n : Int) - 1, -1) ∧ Builtin.Slice.slicePlaces ((n : Int) - 1) (-1) (-1) = n := by
  refine ⟨rfl, ?_⟩
  unfold Builtin.Slice.slicePlaces
  rw [if_neg (by decide)]
  by_cases h : (n : Int) - 1 > -1
  · rw [if_pos h]
    show (((n : Int) - 1 - -1 - 1) / 1 + 1).toNat = n
    rw [Int.ediv_one]
    omega
  · rw [if_neg h]; omega
theorem fm_congr {α β : Type} {f g : α → Option β} : ∀ {l : List α}, (∀ x, x ∈ l → f x = g x) → l.filterMap f = l.filterMap g
  | [], _ => rfl
  | a :: l, h => by
    rw [List.filterMap_cons, List.filterMap_cons, h a List.mem_cons_self, fm_congr fun x hx => h x (List.mem_cons_of_mem _ hx)]
theorem pick_back (xs : Array Value) : ((List.range xs.size).filterMap fun (m : Nat) => xs[(((xs.size : Int) - 1) + (m : Int) * (-1)).toNat]?).toArray = xs.toList.reverse.toArray := by
  have e : ((List.range xs.size).filterMap fun (m : Nat) => xs[(((xs.size : Int) - 1) + (m : Int) * (-1)).toNat]?) = (List.range xs.size).filterMap fun (m : Nat) => (xs.toList.reverse.toArray)[((0 : Nat) + (m : Int) * 1 : Int).toNat]? := by
    refine fm_congr fun m hm => ?_
    have hm := List.mem_range.mp hm
    have z1 : (((xs.size : Int) - 1) + (m : Int) * (-1)).toNat = xs.size - 1 - m := by omega
    have z2 : (((0 : Nat) : Int) + (m : Int) * 1).toNat = m := by omega
    rw [z1, z2, ← Array.getElem?_toList, ← Array.getElem?_toList, List.toList_toArray, List.getElem?_reverse (by rw [Array.length_toList]; exact hm), Array.length_toList]
  rw [e, HT.pick_gen]
  rw [List.drop_zero]
  have : xs.size = xs.toList.reverse.toArray.toList.length := by simp
  rw [this, List.take_length]
theorem getItem_tuple_back {prog : Program} {w : World} {A : Around} {E : Value → Shared → Prop} {s : Shared} {t sl : Addr} {items : Array Value} {vl vu : Value} {tk : Tok} {Q : Value → Shared → Prop} (ht : IsTup s.heap t items) (hs : s.heap.IsSliceOf sl vl vu (.int (-1) tk)) (pl : IsPart vl none) (pu : IsPart vu none)
    (h : Q (.ref s.heap.objs.size) { s with heap := s.heap.push { cls := .type "tuple", data := .seq items.toList.reverse.toArray } })
    (hsz : items.size ≤ sizeLine) : wpAny (model prog w) A (getItem (.ref t) (.ref sl)) Q E s := by
  have htake : sizeOk (.seq items.toList.reverse.toArray) := by
    show items.toList.reverse.toArray.size ≤ sizeLine
    rw [List.size_toArray, List.length_reverse, Array.length_toList]
    exact hsz
  obtain ⟨os, hos, hcs, hds⟩ := id hs
  have hTs : s.TypeIs (.ref sl) "slice" := ⟨os, hos, hcs⟩
  unfold getItem
  try with_reducible refine wpAny_holding ?_
  first | refine wpAny_bind (wpAny_pure ?_) | skip
  refine wpAny_bind (wpAny_sequenceKey ht.typeIs (by decide) ?_)
  refine wpAny_bind (wpAny_callSpecial?_slot (name := Str.ofString "__getitem__") ht.typeIs PyProof.Rows.slot_tuple_getitem
    (wpAny_call_entry PyProof.Rows.slot_tuple_getitem ht.typeIs entry_tuple_getitem ?_ (args_tuple_getitem _ _)))
  show wpAny _ _ (Builtin.Tuple.tupleItemsOf (.ref t) >>= _) _ _ s
  refine wpAny_bind (tupleItemsOf_ ht ?_)
  refine wpAny_bind (wpAny_typeOf hTs ?_)
  rw [if_pos (by decide)]
  refine wpAny_bind ?_
  unfold Builtin.Slice.sliceApplied Builtin.Slice.sliceFields
  refine wpAny_bind (wpAny_bind (wpAny_field hos hds (x := vl) rfl (wpAny_bind (wpAny_field hos hds (x := vu) rfl (wpAny_bind (wpAny_field hos hds (x := .int (-1) tk) rfl (wpAny_pure ?_)))))))
  refine wpAny_bind (slicePart_int ?_)
  show wpAny _ _ (if ((-1 : Int) == 0) = true then _ else _) _ _ s
  rw [if_neg (by decide)]
  refine wpAny_bind (HT.slicePart_ pl (wpAny_bind (HT.slicePart_ pu (wpAny_bind (wpAny_pure ?_)))))
  show wpAny _ _ (match Builtin.Slice.sliceAdjust none none (-1) (items.size : Int) with | (lo, hi) => pure (lo, (-1 : Int), Builtin.Slice.slicePlaces lo hi (-1))) _ _ s
  rw [(placesB items.size).1]
  show wpAny _ _ (pure ((items.size : Int) - 1, (-1 : Int), Builtin.Slice.slicePlaces ((items.size : Int) - 1) (-1) (-1))) _ _ s
  rw [(placesB items.size).2]
  refine wpAny_pure ?_
  show wpAny _ _ (if (((items.size : Int) - 1) == 0 && (-1 : Int) == 1 && items.size == items.size) = true then _ else _) _ _ s
  rw [if_neg (by simp), pick_back]
  first
    | exact wpAny_bind (m := Builtin.Tuple.tupleExact _) (wpAny_newObj_type (wpAny_pure ⟨_, rfl, wpAny_pure h⟩) htake)
    | exact wpAny_bind (m := Builtin.Tuple.tupleExact _) (wpAny_newObj_type (wpAny_bind (wpAny_pure (wpAny_pure ⟨_, rfl, wpAny_pure h⟩))) htake)
    | exact wpAny_bind (wpAny_bind (m := Builtin.Tuple.tupleExact _) (wpAny_newObj_type (wpAny_pure (wpAny_pure ⟨_, rfl, wpAny_pure h⟩)) htake))
    | exact wpAny_bind (wpAny_bind (m := Builtin.Tuple.tupleExact _) (wpAny_newObj_type (wpAny_pure ⟨_, rfl, wpAny_pure h⟩) htake))
/-- x[::-1] of a list or a tuple -/
def tRevA (K : PySem.W.Frag) (te : TE) : TE := fun σ H Q => te σ H fun x H1 => (∃ a xs, x = .ref a ∧ SqL K H1 a xs ∧ ∀ p, H1 p = none → Q (.ref p) (upd H1 p (.lst xs.reverse))) ∨ (∃ a xs, x = .ref a ∧ SqT K H1 a xs ∧ ∀ p, H1 p = none → Q (.ref p) (upd H1 p (.tup xs.reverse)))
theorem pe_revA {X : Cx} {e : Expr} {te : TE} {k : Nat} {p1 p2 p3 pos : Pos} (he : PE X e te) : PE X (.Subscript e (.Slice none none (some (.UnaryOp .USub (.Constant (.int 1) k p1) p2)) p3) pos) (tRevA X.K te) := by
  refine ⟨fun pins s σ H Q I h => ?_⟩
  refine Subscript_ (thn (he.run pins s σ H _ I h) fun v s1 ⟨x, H1, I1, r1, q1⟩ => ?_)
  have hst : PO X (some (.UnaryOp .USub (.Constant (.int 1) k p1) p2)) (tPart (tUn (rU fun i => .int (-i)) (tC (.int 1)))) := po_some (pe_un un_neg pe_int)
  refine wpAny_Slice (thn (po_none.run pins s1 σ H1 (fun o H2 => o = none ∧ H2 = H1) I1 ⟨rfl, rfl⟩) fun vl s2 ⟨l, H2, I2, pl, el, e2⟩ => ?_)
  subst el e2
  refine thn (po_none.run pins s2 σ H2 (fun o H3 => o = none ∧ H3 = H2) I2 ⟨rfl, rfl⟩) fun vu s3 ⟨u, H3, I3, pu, eu, e3⟩ => ?_
  subst eu e3
  refine thn (hst.run pins s3 σ H3 (fun o H4 => o = some (-1) ∧ H4 = H3) I3 ⟨1, rfl, -1, rfl, rfl, rfl⟩) fun vs s4 ⟨o, H4, I4, ps, eo, e4⟩ => ?_
  subst eo e4
  have I5 : Inv X pins σ H4 { s4 with heap := s4.heap.push { cls := .type "slice", data := .fields #[vl, vu, vs] } } := I4.kept (t' := s4.toks) fun b ob q => Heap.get?_push_of_some _ q
  rcases q1 with ⟨a, xs, ex, hx, q⟩ | ⟨a, xs, ex, hx, q⟩
  · subst ex
    cases r1
    obtain ⟨its, r, ht, hz⟩ := I5.list hx
    have hlen := r.length
    show wpAny (model X.prog X.w) X.A (subscriptTail e (.Slice none none (some (.UnaryOp .USub (.Constant (.int 1) k p1) p2)) p3) (.ref a) (.ref s4.heap.objs.size)) (EP X pins σ Q) X.xe { s4 with heap := s4.heap.push { cls := .type "slice", data := .fields #[vl, vu, vs] } }
    refine tail_any (ops := [.ref a, .ref s4.heap.objs.size]) ht.isList.typeIs (PySem.slot_list_getitem.lookup) ?_ (by with_unfolding_all rfl)
    refine wpAny_getItem_list_slice ht.isList (Heap.IsSliceOf.new _ vl vu vs) pl pu ps (by decide) ?_ (by rw [List.size_toArray]; omega)
    rw [PySem.W.krv_pick]
    refine ⟨.ref _, _, I5.laid (t' := s4.toks) (o := .lst xs.reverse) (fun b ob q => Heap.get?_push_of_some _ q) (Nat.le_refl _) ?_, rfl, q _ (I5.hok.fresh (Nat.le_refl _))⟩
    exact ⟨by rw [List.length_reverse]; exact hz, _, 0, r.reverse, Heap.get?_push_size _ rfl⟩
  · subst ex
    cases r1
    obtain ⟨its, r, ht, hz⟩ := I5.tuple hx
    have hlen := r.length
    show wpAny (model X.prog X.w) X.A (subscriptTail e (.Slice none none (some (.UnaryOp .USub (.Constant (.int 1) k p1) p2)) p3) (.ref a) (.ref s4.heap.objs.size)) (EP X pins σ Q) X.xe { s4 with heap := s4.heap.push { cls := .type "slice", data := .fields #[vl, vu, vs] } }
    refine tail_any (ops := [.ref a, .ref s4.heap.objs.size]) (show IsTup _ a its.toArray from ht).typeIs (PyProof.Rows.slot_tuple_getitem.lookup) ?_ (by with_unfolding_all rfl)
    cases ps with
    | int i tk =>
      refine getItem_tuple_back (show IsTup _ a its.toArray from ht) (Heap.IsSliceOf.new _ vl vu _) pl pu ?_ (by rw [List.size_toArray]; omega)
      refine ⟨.ref _, _, I5.laid (t' := s4.toks) (o := .tup xs.reverse) (fun b ob q => Heap.get?_push_of_some _ q) (Nat.le_refl _) ?_, rfl, q _ (I5.hok.fresh (Nat.le_refl _))⟩
      exact ⟨by rw [List.length_reverse]; exact hz, _, r.reverse, ⟨_, Heap.get?_push_size _ rfl, rfl, _, rfl⟩⟩
theorem ok_rev {k : Nat} {p1 p2 p3 : Pos} (ha : OkE Γ a ca) : OkE Γ (.Subscript a (.Slice none none (some (.UnaryOp .USub (.Constant (.int 1) k p1) p2)) p3) pos) (.rev ca) := by
  intro σ ρ κ s H Q hr sl p
  unfold evE at p
  refine twE (pe_revA peW) ?_
  refine ha.use hr sl p fun d s1 κ1 H1 x t1 h1 sl1 r1 p1 => ?_
  unfold revE at p1
  split at p1
  · rename_i l
    cases r1 with
    | @tup aa vs _ f rs =>
      refine .inr ⟨aa, vs, rfl, f.sq, fun q hq => ?_⟩
      have tn := h1.trn (o := .tup vs.reverse) hq
      exact p1 κ1 _ _ tn (h1.new hq) (.tup ⟨upd_same, h1.fresh hq⟩ (rs.reverse.tr tn))
  · split at p1
    · rename_i l hl
      obtain ⟨aa, vs, rfl, q1, q2⟩ := lst_of h1 r1 hl
      exact .inl ⟨aa, vs, rfl, .inl (.inl q1), fun q hq => give_lst h1 q2.reverse p1 hq⟩
    · exact p1.elim
end
end Ev

set_option Elab.async false
set_option linter.all false
set_option maxRecDepth 100000
set_option maxHeartbeats 1000000
namespace Ev
open PySem PySem.Spec PyProof.Rows L2
/-! ### methods of lists -/
theorem placeI_ok {k : Int} : ∀ {ns : List Int} {j : Nat}, placeI k ns = some j → ns[j]? = some k ∧ ∀ m : Nat, m < j → ns[m]? ≠ some k
  | [], _, h => by cases h
  | i :: r, j, h => by
    unfold placeI at h
    split at h
    · rename_i e; cases h; exact ⟨by rw [e]; rfl, fun m hm => absurd hm (Nat.not_lt_zero m)⟩
    · rename_i e
      cases q : placeI k r with
      | none => rw [q] at h; cases h
      | some j' =>
        rw [q] at h; cases h
        obtain ⟨a, b⟩ := placeI_ok q
        refine ⟨by simpa using a, fun m hm => ?_⟩
        cases m with
        | zero => intro z; simp at z; exact e z
        | succ m => simpa using b m (Nat.lt_of_succ_lt_succ hm)
theorem placeD_ok {d : D} : ∀ {l : List D} {j : Nat}, placeD d l = some j → (∃ z, l[j]? = some z ∧ PyData.eqv z d = true) ∧ ∀ (m : Nat) z, m < j → l[m]? = some z → PyData.eqv z d = false
  | [], _, h => by cases h
  | i :: r, j, h => by
    unfold placeD at h
    split at h
    · rename_i e; cases h; exact ⟨⟨i, rfl, e⟩, fun m z hm => absurd hm (Nat.not_lt_zero m)⟩
    · rename_i e
      cases q : placeD d r with
      | none => rw [q] at h; cases h
      | some j' =>
        rw [q] at h; cases h
        obtain ⟨a, b⟩ := placeD_ok q
        refine ⟨by simpa using a, fun m z hm hz => ?_⟩
        cases m with
        | zero => simp at hz; subst hz; simpa using e
        | succ m => exact b m z (Nat.lt_of_succ_lt_succ hm) (by simpa using hz)
theorem ints_reps {K : PySem.W.Frag} {κ : Gh} {nx : Nat} {H : Hp} : ∀ {ns : List Int} {vs : List V}, Reps K κ nx H vs (ns.map PyData.int) → vs = ns.map V.int
  | [], _, .nil => rfl
  | _ :: ns, _, .cons r rs => by
    cases r
    rw [ints_reps rs]
    rfl
theorem intsD_reps {K : PySem.W.Frag} {κ : Gh} {nx : Nat} {H : Hp} {l : List D} {vs : List V} {ns : List Int} (h : intsD l = some ns) (r : Reps K κ nx H vs l) : vs = ns.map V.int ∧ l = ns.map PyData.int := by
  have e := intsD_some h
  subst e
  exact ⟨ints_reps r, rfl⟩
def bmName : Bm → Str × String
  | .append => ("append", "list.append")
  | .pop => ("pop", "list.pop")
  | .popAt => ("pop", "list.pop")
  | .index => ("index", "list.index")
  | .remove => ("remove", "list.remove")
  | .extend => ("extend", "list.extend")
  | .insert => ("insert", "list.insert")
section
variable {Γ : Set0} {o e : Expr} {es : List Expr} {co ca : C} {pos apos : Pos}
/-- a method by values -/
def MtX (Γ : Set0) (id : String) (g : D → List D → Hs → Res D) : Prop := ∃ r, MtR Γ.X id r ∧ ∀ κ s H x dx vs ds Q, HR Γ.X.K Γ.S κ s H → Rep Γ.X.K κ s.nx H x dx → Reps Γ.X.K κ s.nx H vs ds →
  Pre Γ.X.K Γ.S (RepD Γ.X.K) Q (fun _ _ => False) κ s.nx H (g dx ds s) → r x vs H Q
theorem rep0 {K : PySem.W.Frag} {κ : Gh} {nx : Nat} {H : Hp} {vs : List V} (r : Reps K κ nx H vs []) : vs = [] := by cases r; rfl
theorem cell_lst {κ : Gh} {s : Hs} {H : Hp} {n : Nat} {l : List D} (h : HR Γ.X.K Γ.S κ s H) (hn : n < s.nx) (e : s.h n = .lst l) : ∃ vs, H (κ.f n) = some (.lst vs) ∧ Reps Γ.X.K κ s.nx H vs l := by
  have q := h.ok n hn
  rw [e] at q
  exact q
theorem drop_last_reps {K : PySem.W.Frag} {κ : Gh} {nx : Nat} {H : Hp} : ∀ {vs : List V} {ds : List D}, Reps K κ nx H vs ds → Reps K κ nx H vs.dropLast ds.dropLast
  | _, _, .nil => .nil
  | _, _, .cons r .nil => .nil
  | _, _, .cons r (.cons q t) => .cons r (drop_last_reps (.cons q t))
theorem mtx_append : MtX Γ "list.append" (bmE .append) := by
  refine ⟨_, mt_append, fun κ s H x dx vs ds Q h r rs p => ?_⟩
  match ds, rs, p with
  | [], _, p => exact p.elim
  | _ :: _ :: _, _, p => exact p.elim
  | [d], rs, p =>
    unfold bmE at p
    dsimp only at p
    split at p
    · rename_i n
      split at p
      · rename_i l hl
        split at p
        · rename_i hsm
          obtain ⟨rfl, hn⟩ := cel_of r
          obtain ⟨ws, q1, q2⟩ := cell_lst h hn hl
          obtain ⟨v, rfl, rv⟩ := rep1 rs
          have ts := h.trs (o := .lst (ws ++ [v])) hn (fun _ _ z => by rw [q1] at z; cases z)
          refine ⟨_, ws, v, rfl, rfl, q1, ?_, p κ _ _ ts (h.set hn (fun _ _ z => by rw [q1] at z; cases z) ⟨_, upd_same, (q2.append (.cons rv .nil)).tr ts⟩) .non⟩
          rw [q2.len]
          exact small_lt hsm
        · exact p.elim
      · exact p.elim
    · exact p.elim
theorem mtx_pop : MtX Γ "list.pop" (bmE .pop) := by
  refine ⟨_, mt_pop, fun κ s H x dx vs ds Q h r rs p => ?_⟩
  match ds, rs, p with
  | _ :: _, _, p => exact p.elim
  | [], rs, p =>
    unfold bmE at p
    dsimp only at p
    split at p
    · rename_i n
      split at p
      · rename_i l hl
        split at p
        · rename_i d hd
          obtain ⟨rfl, hn⟩ := cel_of r
          obtain ⟨ws, q1, q2⟩ := cell_lst h hn hl
          obtain ⟨v, hv, rv⟩ := q2.get hd
          have ts := h.trs (o := .lst ws.dropLast) hn (fun _ _ z => by rw [q1] at z; cases z)
          refine ⟨_, ws, v, rfl, rep0 rs, q1, by rw [q2.len]; exact hv, p κ _ _ ts (h.set hn (fun _ _ z => by rw [q1] at z; cases z) ⟨_, upd_same, (drop_last_reps q2).tr ts⟩) (rv.tr ts)⟩
        · exact p.elim
      · exact p.elim
    · exact p.elim
theorem mtx_popAt : MtX Γ "list.pop" (bmE .popAt) := by
  refine ⟨_, mt_popAt, fun κ s H x dx vs ds Q h r rs p => ?_⟩
  match ds, rs, p with
  | [], _, p => exact p.elim
  | _ :: _ :: _, _, p => exact (by unfold bmE at p; split at p <;> first | exact p.elim | contradiction | (rename_i z; exact nomatch z) | (rename_i z _; exact nomatch z))
  | [d], rs, p =>
    unfold bmE at p
    cases d with
    | int k =>
      dsimp only at p
      split at p
      · rename_i n
        split at p
        · rename_i l hl
          split at p
          · rename_i j hj
            split at p
            · rename_i d hd
              split at p
              · rename_i hk
                obtain ⟨rfl, hn⟩ := cel_of r
                obtain ⟨ws, q1, q2⟩ := cell_lst h hn hl
                obtain ⟨v, hv, rv⟩ := q2.get hd
                have ts := h.trs (o := .lst (ws.eraseIdx j)) hn (fun _ _ z => by rw [q1] at z; cases z)
                have hk' := okI_le hk
                refine ⟨_, ws, k, j, v, rfl, ?_, q1, by omega, by omega, ?_, hv, p κ _ _ ts (h.set hn (fun _ _ z => by rw [q1] at z; cases z) ⟨_, upd_same, (q2.eraseIdx j).tr ts⟩) (rv.tr ts)⟩
                · exact reps1 rs
                · rw [q2.len]; exact (ixN_seq hj).1
              · exact p.elim
            · exact p.elim
          · exact p.elim
        · exact p.elim
      · exact p.elim
    | _ => exact p.elim
theorem mtx_remove : MtX Γ "list.remove" (bmE .remove) := by
  refine ⟨_, mt_remove, fun κ s H x dx vs ds Q h r rs p => ?_⟩
  match ds, rs, p with
  | [], _, p => exact p.elim
  | _ :: _ :: _, _, p => exact (by unfold bmE at p; split at p <;> first | exact p.elim | contradiction | (rename_i z; exact nomatch z) | (rename_i z _; exact nomatch z))
  | [d], rs, p =>
    unfold bmE at p
    cases d with
    | int k =>
      dsimp only at p
      split at p
      · rename_i n
        split at p
        · rename_i l hl
          split at p
          · rename_i ns hns
            split at p
            · rename_i j hj
              obtain ⟨rfl, hn⟩ := cel_of r
              obtain ⟨ws, q1, q2⟩ := cell_lst h hn hl
              obtain ⟨rfl, e2⟩ := intsD_reps hns q2
              obtain ⟨a1, a2⟩ := placeI_ok hj
              have ts := h.trs (o := .lst ((ns.eraseIdx j).map V.int)) hn (fun _ _ z => by rw [q1] at z; cases z)
              exact ⟨_, ns, k, j, rfl, reps1 rs, q1, a1, a2, p κ _ _ ts (h.set hn (fun _ _ z => by rw [q1] at z; cases z) ⟨_, upd_same, reps_ints _⟩) .non⟩
            · exact p.elim
          · exact p.elim
        · exact p.elim
      · exact p.elim
    | _ => exact p.elim
theorem mtx_index : MtX Γ "list.index" (bmE .index) := by
  refine ⟨_, mt_index, fun κ s H x dx vs ds Q h r rs p => ?_⟩
  match ds, rs, p with
  | [], _, p => exact p.elim
  | _ :: _ :: _, _, p => exact p.elim
  | [d], rs, p =>
    unfold bmE at p
    dsimp only at p
    split at p
    · rename_i l hl
      split at p
      · rename_i hf
        split at p
        · rename_i j hj
          have hf := Bool.and_eq_true_iff.mp hf
          obtain ⟨a, ws, rfl, q1, q2⟩ := lst_of h r hl
          obtain ⟨v, rfl, rv⟩ := rep1 rs
          obtain ⟨⟨z, b1, b2⟩, b3⟩ := placeD_ok hj
          obtain ⟨w, c1, c2⟩ := q2.get b1
          have fl := (inV_flat rv hf.1 q2 hf.2).1
          have zf : ∀ {m : Nat} {z : D}, l[m]? = some z → flat z = true := fun hz => List.all_eq_true.mp hf.2 _ (List.mem_of_getElem? hz)
          have fv : flatV v = true := by
            have := (inV_flat (l := [d]) (vs := [v]) rv hf.1 (.cons rv .nil) (by simp [hf.1])).1
            simpa using this
          refine ⟨a, ws, v, j, w, rfl, rfl, .inl (.inl q1), fv, fl, c1, by rw [eqV_flat c2 rv (zf b1) hf.1]; exact b2, fun m z' hm hz => ?_, p.give h .int⟩
          obtain ⟨d', e1, e2⟩ := q2.get2 hz
          rw [eqV_flat e2 rv (zf e1) hf.1]
          exact b3 m d' hm e1
        · exact p.elim
      · exact p.elim
    · exact p.elim
theorem mtx_extend : MtX Γ "list.extend" (bmE .extend) := by
  refine ⟨_, mt_extend, fun κ s H x dx vs ds Q h r rs p => ?_⟩
  match ds, rs, p with
  | [], _, p => exact p.elim
  | _ :: _ :: _, _, p => exact p.elim
  | [d], rs, p =>
    unfold bmE at p
    dsimp only at p
    split at p
    · rename_i n
      split at p
      · rename_i l hl
        split at p
        · rename_i l2 hl2
          split at p
          · rename_i hsz
            obtain ⟨rfl, hn⟩ := cel_of r
            obtain ⟨ws, q1, q2⟩ := cell_lst h hn hl
            obtain ⟨v, rfl, rv⟩ := rep1 rs
            obtain ⟨b, zs, rfl, q3, q4⟩ := lst_of h rv hl2
            have ts := h.trs (o := .lst (ws ++ zs)) hn (fun _ _ z => by rw [q1] at z; cases z)
            refine ⟨_, b, ws, zs, rfl, rfl, q1, q3, ?_, p κ _ _ ts (h.set hn (fun _ _ z => by rw [q1] at z; cases z) ⟨_, upd_same, (q2.append q4).tr ts⟩) .non⟩
            rw [q2.len, q4.len]
            have := Nat.le_of_ble_eq_true hsz
            have : (1000000 : Nat) ≤ sizeLine := by decide
            omega
          · exact p.elim
        · exact p.elim
      · exact p.elim
    · exact p.elim
theorem mtx_insert : MtX Γ "list.insert" (bmE .insert) := by
  refine ⟨_, mt_insert, fun κ s H x dx vs ds Q h r rs p => ?_⟩
  match ds, rs, p with
  | [], _, p => exact p.elim
  | [d], _, p => cases d <;> exact p.elim
  | d :: _ :: _ :: _, _, p => cases d <;> exact p.elim
  | [dk, d], rs, p =>
    cases dk with
    | int k =>
      unfold bmE at p
      dsimp only at p
      split at p
      · rename_i n
        split at p
        · rename_i l hl
          split at p
          · rename_i hsm
            have z := Bool.and_eq_true_iff.mp hsm
            have z1 := Bool.and_eq_true_iff.mp z.1
            have k0 : 0 ≤ k := of_decide_eq_true z1.2
            have k1 : k < 1000000 := of_decide_eq_true z.2
            obtain ⟨rfl, hn⟩ := cel_of r
            obtain ⟨ws, q1, q2⟩ := cell_lst h hn hl
            cases rs with
            | cons rk rs =>
              obtain ⟨v, rfl, rv⟩ := rep1 rs
              obtain rfl := int_of rk
              have ts := h.trs (o := .lst (ws.take k.toNat ++ [v] ++ ws.drop k.toNat)) hn (fun _ _ z => by rw [q1] at z; cases z)
              refine ⟨_, ws, k, v, rfl, rfl, q1, ?_, k0, by omega, p κ _ _ ts (h.set hn (fun _ _ z => by rw [q1] at z; cases z) ⟨_, upd_same, (((q2.take _).append (.cons rv .nil)).append (q2.drop _)).tr ts⟩) .non⟩
              rw [q2.len]
              exact small_lt z1.1
          · exact p.elim
        · exact p.elim
      · exact p.elim
    | _ => exact p.elim
theorem bm_nx (m : Bm) (o : D) (ds : List D) (s : Hs) : NoExc (bmE m o ds s) := by
  intro e s1 h
  unfold bmE at h
  split at h <;> (repeat' (split at h)) <;> cases h
theorem mtx (m : Bm) : MtX Γ (bmName m).2 (bmE m) := by
  cases m with
  | append => exact mtx_append
  | pop => exact mtx_pop
  | popAt => exact mtx_popAt
  | index => exact mtx_index
  | remove => exact mtx_remove
  | extend => exact mtx_extend
  | insert => exact mtx_insert
theorem bm_slot (m : Bm) : Slot "list" (bmName m).1 (bmName m).2 ∧ typeOf (.builtin (bmName m).2) = pure (.type "method_descriptor") := by
  cases m with
  | append => exact ⟨F.slot_list_append, F.type_list_append⟩
  | pop => exact ⟨F.slot_list_pop, F.type_list_pop⟩
  | popAt => exact ⟨F.slot_list_pop, F.type_list_pop⟩
  | index => exact ⟨F.slot_list_index, F.type_list_index⟩
  | remove => exact ⟨F.slot_list_remove, F.type_list_remove⟩
  | extend => exact ⟨F.slot_list_extend, F.type_list_extend⟩
  | insert => exact ⟨F.slot_list_insert, F.type_list_insert⟩
theorem ty_lst {κ : Gh} {s : Hs} {H : Hp} {x : V} {d : D} (h : HR Γ.X.K Γ.S κ s H) (r : Rep Γ.X.K κ s.nx H x d) (q : (lstD d s).isSome = true) : tyV Γ.X.K "list" x H := by
  cases e : lstD d s with
  | none => rw [e] at q; cases q
  | some l =>
    obtain ⟨a, vs, rfl, q1, q2⟩ := lst_of h r e
    exact .inl ⟨rfl, vs, .inl (.inl q1)⟩
theorem ok_bmeth0 {m : Bm} (ho : OkE Γ o co) (hbase : attributeBase o (bmName m).1 Γ.X.env (eval o Γ.X.env) = eval o Γ.X.env) (hline : (apos.endLine == pos.line) = true) : OkE Γ (.Call (.Attribute o (bmName m).1 apos) [] [] pos) (.bmeth m co .nil) := by
  intro σ ρ κ s H Q hr sl p
  unfold evE at p
  obtain ⟨r, hm, hX⟩ := mtx (Γ := Γ) m
  obtain ⟨h1, h2⟩ := bm_slot m
  refine twE (pe_bm0 F.plainAttrs_list h1 h2 hm peW hbase hline) ?_
  refine ho.use hr sl p fun d s1 κ1 H1 x t1 hr1 sl1 r1 p1 => ?_
  split at p1
  · rename_i hl
    exact ⟨ty_lst hr1 r1 hl, hX κ1 s1 H1 x d [] [] Q hr1 r1 .nil ((show Pre Γ.X.K Γ.S (RepD Γ.X.K) Q (Γ.E σ) κ1 s1.nx H1 (bmE m d [] s1) from p1).noexc (bm_nx _ _ _ _))⟩
  · exact p1.elim
theorem ok_bmeth {m : Bm} (ho : OkE Γ o co) (ha : OkA Γ (e :: es) ca) (hbase : attributeBase o (bmName m).1 Γ.X.env (eval o Γ.X.env) = eval o Γ.X.env) (hline : (apos.endLine == pos.line) = true)
    (hfew : ((backTo pos (starEach (e :: es) Γ.X.env)).all (fun x => !x.1) && (backToKw pos (keywordEach [] Γ.X.env)).all (fun x => x.1.isSome)
      && decide ((e :: es).length + ([] : List Keyword).length + (if ([] : List Keyword).isEmpty then 0 else 1) < 30)) = true)
    (hs : starEach (e :: es) Γ.X.env = (false, eval e Γ.X.env) :: starEach es Γ.X.env) (hplain : (backTo pos (starEach es Γ.X.env)).any (·.1) = false) : OkE Γ (.Call (.Attribute o (bmName m).1 apos) (e :: es) [] pos) (.bmeth m co ca) := by
  intro σ ρ κ s H Q hr sl p
  unfold evE at p
  obtain ⟨r, hm, hX⟩ := mtx (Γ := Γ) m
  obtain ⟨h1, h2⟩ := bm_slot m
  refine twE (pe_bm F.plainAttrs_list h1 h2 hm peW paW hbase hfew hline hs hplain) ?_
  refine ho.use hr sl p fun d s1 κ1 H1 x t1 hr1 sl1 r1 p1 => ?_
  split at p1
  · rename_i hl
    refine ⟨ty_lst hr1 r1 hl, ha.use hr1 sl1 p1 fun ds s2 κ2 H2 vs t2 hr2 sl2 rs p2 => ?_⟩
    exact hX κ2 s2 H2 x d vs ds Q hr2 (r1.tr t2) rs (p2.noexc (bm_nx _ _ _ _))
  · exact p1.elim
end
section
variable {Γ : Set0} {o e a b tg : Expr} {es : List Expr} {co ca cb : C} {pos apos : Pos}
/-! ### enumerate and zip -/
theorem oki_enum {p0 tpos : Pos} {elts : List Expr} {kk : Nat} (hg : Gl Γ.X "enumerate") (hm : Γ.X.mg "enumerate" = none) (ha : OkE Γ a ca) (hs : starEach [a] Γ.X.env = [(false, eval a Γ.X.env)]) : OkI Γ (.Tuple elts kk tpos) (.Call (.Name "enumerate" p0) [a] [] pos) (.ienum ca) := by
  intro σ ρ κ s H Q hr sl p
  unfold evI at p
  refine twI (EnT.pi_enA hg hm paW hs) ?_
  have e1 : (evA Γ.P Γ.T (.cons ca .nil) ρ s).bind (fun xs s1 => match xs with
    | [x] => enumE x s1
    | _ => .stuck) = (evE Γ.P Γ.T ca ρ s).bind fun x s1 => enumE x s1 := by
    rw [evA1, bind_assoc]; rfl
  rw [← e1] at p
  refine (oka_cons ha oka_nil hs).useN hr sl p fun ds s1 κ1 H1 vs hl t1 h1 sl1 rs p1 => ?_
  match ds, rs, p1, hl with
  | [d], rs, p1, _ =>
    dsimp only at p1
    unfold enumE at p1
    split at p1
    · obtain ⟨v, rfl, rv⟩ := rep1 rs
      cases rv with
      | lst f r => exact ⟨_, _, rfl, .inl ⟨f.sq, p1.give h1 (.fix (.enm f r) rfl)⟩⟩
    · obtain ⟨v, rfl, rv⟩ := rep1 rs
      cases rv with
      | tup f r => exact ⟨_, _, rfl, .inr ⟨f.sq, p1.give h1 (.fix (.ent f r) rfl)⟩⟩
    · exact p1.elim
theorem oki_zip {p0 tpos : Pos} {elts : List Expr} {kk : Nat} (hg : Gl Γ.X "zip") (hm : Γ.X.mg "zip" = none) (ha : OkE Γ a ca) (hb : OkE Γ b cb) (hs : starEach [a, b] Γ.X.env = (false, eval a Γ.X.env) :: starEach [b] Γ.X.env) (hs2 : starEach [b] Γ.X.env = [(false, eval b Γ.X.env)])
    (hpl : (backTo pos (starEach [b] Γ.X.env)).any (·.1) = false) : OkI Γ (.Tuple elts kk tpos) (.Call (.Name "zip" p0) [a, b] [] pos) (.izip ca cb) := by
  intro σ ρ κ s H Q hr sl p
  unfold evI at p
  refine twI (RZ.pi_zipA hg hm paW hs hpl) ?_
  have e1 : (evA Γ.P Γ.T (.cons ca (.cons cb .nil)) ρ s).bind (fun xs s2 => match xs with
    | [x, y] => zipE x y s2
    | _ => .stuck) = (evE Γ.P Γ.T ca ρ s).bind fun x s1 => (evE Γ.P Γ.T cb ρ s1).bind fun y s2 => zipE x y s2 := by
    rw [evA2, bind_assoc]
    congr 1
    funext x s1
    rw [bind_assoc]
    rfl
  rw [← e1] at p
  refine (oka_cons ha (oka_cons hb oka_nil hs2) hs).useN hr sl p fun ds s1 κ1 H1 vs hl t1 h1 sl1 rs p1 => ?_
  match ds, rs, p1, hl with
  | [d, d2], rs, p1, _ =>
    obtain ⟨v, w, rfl, rv, rw'⟩ := rep2 rs
    dsimp only at p1
    unfold zipE at p1
    split at p1
    · cases rv with
      | lst f r => cases rw' with
        | lst g q => exact ⟨_, _, _, _, rfl, .inl ⟨f.sq, g.sq, p1.give h1 (.fix (.zpl f g r q) rfl)⟩⟩
    · cases rv with
      | tup f r => cases rw' with
        | tup g q => exact ⟨_, _, _, _, rfl, .inr ⟨f.sq, g.sq, p1.give h1 (.fix (.zpt f g r q) rfl)⟩⟩
    · exact p1.elim
end
end Ev

set_option Elab.async false
set_option linter.all false
set_option maxRecDepth 100000
set_option maxHeartbeats 1000000
namespace Ev
open PySem PySem.Spec PyProof.Rows L2
theorem and2' {a b : Bool} (h : (a && b) = true) : a = true ∧ b = true := Bool.and_eq_true_iff.mp h
section
variable {Γ : Set0} {a b c e tg : Expr} {es : List Expr} {ca cb cc co : C} {pos apos : Pos} {x : Str}
/-! ### numbers of a module -/
theorem ok_glob {i : Int} {t : Tok} (hg : Gl Γ.X x) (hm : Γ.X.mg x = some (.int i t)) (hd : (x == ("__debug__" : Str)) = false) : OkE Γ (.Name x pos) (.glob x (.int i)) := by
  intro σ ρ κ s H Q hr sl p
  unfold evE at p
  exact twE (pe_glob hg hm (v := .int i) ⟨_, rfl⟩ hd) (p.give hr .int)
/-! ### {} -/
theorem ok_dict0 : OkE Γ (.Dict [] [] pos) .dict0 := by
  intro σ ρ κ s H Q hr sl p
  unfold evE at p
  refine twE pe_dnewK fun q hq => ?_
  have ts := hr.trp (o := .dK []) hq
  exact p _ _ (.ref q) ts (hr.push hq (.inl ⟨rfl, [], upd_same, .nil⟩)) (.cel (Nat.lt_succ_self _) (by rw [Gh.add_at]))
theorem ok_dict1 : OkE Γ (.Dict [] [] pos) .dict1 := by
  intro σ ρ κ s H Q hr sl p
  unfold evE at p
  refine twE pe_dnewT fun q hq => ?_
  have ts := hr.trp (o := .dT []) hq
  exact p _ _ (.ref q) ts (hr.push hq (.inr ⟨rfl, [], upd_same, .nil⟩)) (.cel (Nat.lt_succ_self _) (by rw [Gh.add_at]))
/-! ### list(range(..)), tuple(range(..)) -/
theorem reps_rg {K : PySem.W.Frag} {κ : Gh} {nx : Nat} {H : Hp} (i j : Int) : Reps K κ nx H (rgV i j) (rangeL i j) := by
  unfold rgV rangeL
  have : ∀ l : List Nat, Reps K κ nx H (l.map fun (k : Nat) => V.int (i + (k : Nat))) (l.map fun (k : Nat) => PyData.int (i + (k : Nat))) := fun l => by
    induction l with
    | nil => exact .nil
    | cons k l ih => exact .cons .int ih
  exact this _
theorem one1 {P : Prog} {T : Nat → List D → Hs → Res D} {ρ : Env} {s : Hs} {γ : Type} (f : List D → Hs → Res γ) : (evA P T (.cons ca .nil) ρ s).bind f = (evE P T ca ρ s).bind fun x s1 => f [x] s1 := by
  rw [evA1, bind_assoc]; rfl
theorem two1 {P : Prog} {T : Nat → List D → Hs → Res D} {ρ : Env} {s : Hs} {γ : Type} (f : List D → Hs → Res γ) : (evA P T (.cons ca (.cons cb .nil)) ρ s).bind f = (evE P T ca ρ s).bind fun x s1 => (evE P T cb ρ s1).bind fun y s2 => f [x, y] s2 := by
  rw [evA2, bind_assoc]
  congr 1
  funext x s1
  rw [bind_assoc]
  rfl
theorem okn_upto {p p2 q : Pos} (hc : Γ.X.calm = true) (hg : Gl Γ.X "list") (hm : Γ.X.mg "list" = none) (hg2 : Gl Γ.X "range") (hm2 : Γ.X.mg "range" = none) (ha : OkE Γ a ca)
    (na : starEach [a] Γ.X.env = [(false, eval a Γ.X.env)]) : OkN Γ (.Call (.Name "list" p) [.Call (.Name "range" p2) [a] [] q] [] pos) (.lrg (.cons ca .nil)) := by
  intro σ ρ κ s H Q hr sl p
  unfold evN at p
  rw [one1] at p
  refine twE (pe_listRg hc hg hm (prg_1 hg2 hm2 peW na)) ?_
  refine ha.use hr sl p fun d s1 κ1 H1 v t1 h1 sl1 r1 p1 => ?_
  cases d with
  | int j =>
    change Pre _ _ _ _ _ _ _ _ (if (okI j && decide (j ≤ 1000000)) = true then _ else _) at p1
    split at p1
    · rename_i hz
      have hz' := and2' hz
      have z := okI_le hz'.1
      have z2 := of_decide_eq_true hz'.2
      refine ⟨j, int_of r1, ⟨by omega, by omega, z.1, z.2, by omega⟩, fun q hq => give_new h1 (fun p hp => t1.none' hr h1 hp) (reps_rg 0 j) p1 hq⟩
    · exact p1.elim
  | _ => exact p1.elim
theorem okn_from1 {p p2 q : Pos} (hc : Γ.X.calm = true) (hg : Gl Γ.X "list") (hm : Γ.X.mg "list" = none) (hg2 : Gl Γ.X "range") (hm2 : Γ.X.mg "range" = none) (ha : OkE Γ a ca) (hb : OkE Γ b cb)
    (na : starEach [a, b] Γ.X.env = (false, eval a Γ.X.env) :: starEach [b] Γ.X.env) (nb : starEach [b] Γ.X.env = [(false, eval b Γ.X.env)]) : OkN Γ (.Call (.Name "list" p) [.Call (.Name "range" p2) [a, b] [] q] [] pos) (.lrg (.cons ca (.cons cb .nil))) := by
  intro σ ρ κ s H Q hr sl p
  unfold evN at p
  rw [two1] at p
  refine twE (pe_listRg hc hg hm (prg_2 hg2 hm2 peW peW na nb (by rw [nb]; rfl))) ?_
  refine ha.use hr sl p fun d s1 κ1 H1 v t1 h1 sl1 r1 p1 => ?_
  refine hb.use h1 sl1 p1 fun d2 s2 κ2 H2 w t2 h2 sl2 r2 p2 => ?_
  cases d with
  | int i =>
    cases d2 with
    | int j =>
      change Pre _ _ _ _ _ _ _ _ (if (okI i && okI j && decide (j - i ≤ 1000000)) = true then _ else _) at p2
      split at p2
      · rename_i hz
        have hz' := and2' hz
        have hz2 := and2' hz'.1
        have z := okI_le hz2.1
        have z1 := okI_le hz2.2
        have z2 := of_decide_eq_true hz'.2
        refine ⟨i, j, int_of r1, int_of r2, ⟨z.1, z.2, z1.1, z1.2, by omega⟩, fun q hq => give_new h2 (fun p hp => (t1.trans t2).none' hr h2 hp) (reps_rg i j) p2 hq⟩
      · exact p2.elim
    | _ => exact p2.elim
  | _ => exact p2.elim
theorem ok_tupr {p p2 q : Pos} (hc : Γ.X.calm = true) (hg : Gl Γ.X "tuple") (hm : Γ.X.mg "tuple" = none) (hg2 : Gl Γ.X "range") (hm2 : Γ.X.mg "range" = none) (ha : OkE Γ a ca)
    (na : starEach [a] Γ.X.env = [(false, eval a Γ.X.env)]) : OkE Γ (.Call (.Name "tuple" p) [.Call (.Name "range" p2) [a] [] q] [] pos) (.two .tupr (.cons ca .nil)) := by
  intro σ ρ κ s H Q hr sl p
  unfold evE at p
  rw [one1] at p
  refine twE (pe_tupRg hc hg hm (prg_1 hg2 hm2 peW na)) ?_
  refine ha.use hr sl p fun d s1 κ1 H1 v t1 h1 sl1 r1 p1 => ?_
  cases d with
  | int j =>
    change Pre _ _ _ _ _ _ _ _ (if (okI j && decide (j ≤ 1000000)) = true then _ else _) at p1
    split at p1
    · rename_i hz
      have hz' := and2' hz
      have z := okI_le hz'.1
      have z2 := of_decide_eq_true hz'.2
      refine ⟨j, int_of r1, ⟨by omega, by omega, z.1, z.2, by omega⟩, fun q hq => ?_⟩
      have tn := h1.trn (o := .tup (rgV 0 j)) hq
      exact p1 κ1 _ _ tn (h1.new hq) (.tup ⟨upd_same, h1.fresh hq⟩ (reps_rg 0 j))
    · exact p1.elim
  | _ => exact p1.elim
/-! ### len(set(xs)) -/
theorem ok_lenset {p p2 q : Pos} (hc : Γ.X.calm = true) (hg : Gl Γ.X "len") (hm : Γ.X.mg "len" = none) (hg2 : Gl Γ.X "set") (hm2 : Γ.X.mg "set" = none) (ha : OkE Γ a ca)
    (na : starEach [a] Γ.X.env = [(false, eval a Γ.X.env)]) : OkE Γ (.Call (.Name "len" p) [.Call (.Name "set" p2) [a] [] q] [] pos) (.two .lenset (.cons ca .nil)) := by
  intro σ ρ κ s H Q hr sl p
  unfold evE at p
  rw [one1] at p
  refine twE (RZ.pe_lenSetI hg hm hg2 hm2 peW hc na) ?_
  refine ha.use hr sl p fun d s1 κ1 H1 v t1 h1 sl1 r1 p1 => ?_
  change Pre _ _ _ _ _ _ _ _ (match (lstD d s1).bind intsD with
    | some ns => if ns.length ≤ 4000 ∧ ns.Nodup then .ok (PyData.int (ns.length : Nat)) s1 else .stuck
    | none => .stuck) at p1
  cases hq : lstD d s1 with
  | none => rw [hq] at p1; exact p1.elim
  | some l =>
    rw [hq] at p1
    obtain ⟨l0, ws, rfl, q1, q2⟩ := lst_of h1 r1 hq
    cases hi : intsD l with
    | none =>
      rw [show (some l).bind intsD = intsD l from rfl, hi] at p1
      exact p1.elim
    | some ns =>
      rw [show (some l).bind intsD = intsD l from rfl, hi] at p1
      dsimp only at p1
      split at p1
      · rename_i hz
        obtain ⟨rfl, _⟩ := intsD_reps hi q2
        exact ⟨l0, ns, rfl, .inl (.inl q1), hz.2, hz.1, p1.give h1 .int⟩
      · exact p1.elim
/-! ### range with a step -/
theorem range3_ok {i j k : Int} {l : List D} (h : range3 i j k = some l) : ∃ n : Nat, RgC i j k n ∧ l = (List.range n).map fun (m : Nat) => PyData.int (i + (m : Nat) * k) := by
  unfold range3 at h
  split at h
  · rename_i hz
    cases h
    have h1 := Bool.and_eq_true_iff.mp hz
    have h2 := Bool.and_eq_true_iff.mp h1.1
    exact ⟨_, ⟨of_decide_eq_true h2.1, of_decide_eq_true h2.2, h1.2, rangeSize_toNat i j k⟩, rfl⟩
  · cases h
theorem oki_range3 {p0 : Pos} (hg : Gl Γ.X "range") (hm : Γ.X.mg "range" = none) (ha : OkA Γ [a, b, c] ca) (hcl : clen ca = 3) (hs : starEach [a, b, c] Γ.X.env = (false, eval a Γ.X.env) :: starEach [b, c] Γ.X.env)
    (hpl : (backTo pos (starEach [b, c] Γ.X.env)).any (·.1) = false) :
    OkI Γ tg (.Call (.Name "range" p0) [a, b, c] [] pos) (.irange ca) := by
  intro σ ρ κ s H Q hr sl p
  unfold evI at p
  refine twI (pi_range3 hg hm paW hs hpl) ?_
  refine ha.useN hr sl p fun ds s1 κ1 H1 vs hl t1 h1 sl1 rs p1 => ?_
  rw [hcl] at hl
  match ds, rs, p1, hl with
  | [.int i, .int j, .int k], rs, p1, _ =>
    simp only at p1
    split at p1
    · rename_i hz
      split at p1
      · rename_i l hl
        obtain ⟨n, hn, rfl⟩ := range3_ok hl
        exact ⟨i, j, k, n, reps3 rs, hn, p1.give h1 (.fix .rngc rfl)⟩
      · exact p1.elim
    · exact p1.elim
  | [.none, _, _], rs, p1, _ | [.bool _, _, _], rs, p1, _ | [.str _, _, _], rs, p1, _ | [.list _, _, _], rs, p1, _ | [.tuple _, _, _], rs, p1, _ | [.dict _, _, _], rs, p1, _ => exact p1.elim
  | [.int _, .none, _], rs, p1, _ | [.int _, .bool _, _], rs, p1, _ | [.int _, .str _, _], rs, p1, _ | [.int _, .list _, _], rs, p1, _ | [.int _, .tuple _, _], rs, p1, _ | [.int _, .dict _, _], rs, p1, _ => exact p1.elim
  | [.int _, .int _, .none], rs, p1, _ | [.int _, .int _, .bool _], rs, p1, _ | [.int _, .int _, .str _], rs, p1, _ | [.int _, .int _, .list _], rs, p1, _ | [.int _, .int _, .tuple _], rs, p1, _ | [.int _, .int _, .dict _], rs, p1, _ => exact p1.elim
end
end Ev

set_option Elab.async false
set_option linter.all false
set_option maxRecDepth 100000
set_option maxHeartbeats 4000000
/-! max and min with default=, get -/
namespace Ev
open PySem PySem.Spec PyProof.Rows L2
section
variable {X : Cx} {pins : List (Addr × Obj)} {σ : St} {H : Hp} {s : Shared}
theorem maxOf_eq : ∀ (ns : List Int) (n : Int), PySem.W.maxOf n ns = maxI n ns
  | [], n => rfl
  | m :: ns, n => by
    show List.foldl _ (if PySem.W.DatumOrd.lt n m = true then m else n) ns = _
    have e : (if PySem.W.DatumOrd.lt n m = true then m else n) = if n < m then m else n := by
      show (if decide (n < m) = true then m else n) = _
      by_cases h : n < m
      · rw [if_pos h, if_pos (decide_eq_true h)]
      · rw [if_neg h, if_neg (by rw [decide_eq_false h]; exact Bool.false_ne_true)]
    rw [e]
    exact maxOf_eq ns _
theorem minOf_eq : ∀ (ns : List Int) (n : Int), PySem.W.minOf n ns = minI n ns
  | [], n => rfl
  | m :: ns, n => by
    show List.foldl _ (if PySem.W.DatumOrd.lt m n = true then m else n) ns = _
    have e : (if PySem.W.DatumOrd.lt m n = true then m else n) = if m < n then m else n := by
      show (if decide (m < n) = true then m else n) = _
      by_cases h : m < n
      · rw [if_pos h, if_pos (decide_eq_true h)]
      · rw [if_neg h, if_neg (by rw [decide_eq_false h]; exact Bool.false_ne_true)]
    rw [e]
    exact minOf_eq ns _
/-- the greatest or least of a list's or tuple's ints, or what is told for none -/
def rDef (mx : Bool) (K : PySem.W.Frag) (x y : V) (H : Hp) (Q : VK) : Prop := ∃ (a : Addr) (ns : List Int), x = V.ref a ∧ (SqL K H a (ns.map V.int) ∨ SqT K H a (ns.map V.int)) ∧ match ns with
  | [] => Q y H
  | n :: r => Q (.int (if mx then maxI n r else minI n r)) H
theorem run_def1 (mx : Bool) (hc : X.calm = true) (hu : X.A.units + 64 < cLine) {x y : V} {u w : Value} {Q : VK} (I : Inv X pins σ H s) (rx : RelV x u) (ry : RelV y w) (h : rDef mx X.K x y H Q) :
    wpAny (model X.prog X.w) X.A (call (.builtin (if mx then "max" else "min")) [u] [(Str.ofString "default", w)]) (EP X pins σ Q) X.xe s := by
  obtain ⟨a, ns, rfl, hs, q⟩ := h
  cases (show u = Value.ref a from rx)
  have hu1 : X.A.units + 1 + PySem.W.Datum.depth Int < cLine := by
    have : PySem.W.Datum.depth Int ≤ 1 := by decide
    omega
  have fin : ∀ {h' : Heap} {tk : Nat} (m : Int) (v : Value), PySem.W.Holds h' v m → (∀ b o, s.heap.get? b = some o → h'.get? b = some o) → Q (.int m) H → EP X pins σ Q v { s with heap := h', toks := tk } := fun m v hv hk hq => by
    obtain ⟨t, rfl⟩ := PySem.W.int_of_holds hv
    exact ⟨.int m, H, I.kept hk, ⟨t, rfl⟩, hq⟩
  have nil : ∀ {h' : Heap} {tk : Nat}, ns = [] → (∀ b o, s.heap.get? b = some o → h'.get? b = some o) → EP X pins σ Q w { s with heap := h', toks := tk } := fun e hk => by
    subst e
    exact ⟨y, H, I.kept hk, ry, q⟩
  cases mx with
  | true =>
    show wpAny _ _ (call (.builtin "max") _ _) _ _ _
    have go : ∀ (m : Int) (r : List Int), ns = m :: r → Q (.int (PySem.W.maxOf m r)) H := fun m r e => by
      subst e
      rw [maxOf_eq]; exact q
    rcases hs with hs | hs
    · obtain ⟨its, rv, hl, _⟩ := I.list hs
      exact PySem.W.max_list_datum_default (I.ok.hd hc) hl.isList (by have := PySem.W.HoldAll.of_ints (h := s.heap) rv.ints; simpa using this) hu1 (fun e h' tk hk => nil e hk) fun m r i v h' tk e _ hv hk => fin _ v hv hk (go m r e)
    · obtain ⟨its, rv, hl, _⟩ := I.tuple hs
      exact PySem.W.max_tuple_datum_default (I.ok.hd hc) hl (by have := PySem.W.HoldAll.of_ints (h := s.heap) rv.ints; simpa using this) hu1 (fun e h' tk hk => nil e hk) fun m r i v h' tk e _ hv hk => fin _ v hv hk (go m r e)
  | false =>
    show wpAny _ _ (call (.builtin "min") _ _) _ _ _
    have go : ∀ (m : Int) (r : List Int), ns = m :: r → Q (.int (PySem.W.minOf m r)) H := fun m r e => by
      subst e
      rw [minOf_eq]; exact q
    rcases hs with hs | hs
    · obtain ⟨its, rv, hl, _⟩ := I.list hs
      exact PySem.W.min_list_datum_default (I.ok.hd hc) hl.isList (by have := PySem.W.HoldAll.of_ints (h := s.heap) rv.ints; simpa using this) hu1 (fun e h' tk hk => nil e hk) fun m r i v h' tk e _ hv hk => fin _ v hv hk (go m r e)
    · obtain ⟨its, rv, hl, _⟩ := I.tuple hs
      exact PySem.W.min_tuple_datum_default (I.ok.hd hc) hl (by have := PySem.W.HoldAll.of_ints (h := s.heap) rv.ints; simpa using this) hu1 (fun e h' tk hk => nil e hk) fun m r i v h' tk e _ hv hk => fin _ v hv hk (go m r e)
def tDef (mx : Bool) (K : PySem.W.Frag) (te td : TE) : TE := fun σ H Q => te σ H fun x H1 => td σ H1 fun y H2 => rDef mx K x y H2 Q
theorem pe_def (mx : Bool) {x : Str} {p pos kpos : Pos} {e d : Expr} {te td : TE} (hc : X.calm = true) (hu : X.A.units + 64 < cLine) (hg : Gl X x) (hm : X.mg x = none) (hv : bootBuiltins x = some (.builtin (if mx then "max" else "min"))) (he : PE X e te) (hd : PE X d td)
    (hs : starEach [e] X.env = [(false, eval e X.env)]) (hn : x ≠ "__name__") (hdb : (x == ("__debug__" : Str)) = false) : PE X (.Call (.Name x p) [e] [⟨some "default", d, kpos⟩] pos) (tDef mx X.K te td) := by
  refine ⟨fun pins s σ H Q I h => ?_⟩
  refine wpAny_Call_Name_kw (ld_blt I hg hm hv ?_ hn hdb)
  refine PyProof.Rows.callWith_kw (thn ((pa_cons he pa_nil hs).run pos pins s σ H (fun vs H1 => match vs with
    | [x] => td σ H1 fun y H2 => rDef mx X.K x y H2 Q
    | _ => False) I h) fun us s1 ⟨vs, H1, I1, r1, q1⟩ => ?_) ?_ ?_ rfl rfl
  · cases r1 with
    | nil => exact False.elim q1
    | cons r rs =>
      cases rs with
      | cons _ _ => exact False.elim q1
      | nil =>
        refine thn ((pk_cons (nm := some "default") (kpos := kpos) hd pk_nil).run pos pins s1 σ H1 (fun ws H2 => match ws with
          | [y] => rDef mx X.K _ y H2 Q
          | _ => False) I1 q1) fun ws s2 ⟨zs, H2, I2, r2, q2⟩ => ?_
        cases r2 with
        | nil => exact False.elim q2
        | cons r' rs' =>
          cases rs' with
          | cons _ _ => exact False.elim q2
          | nil => exact run_def1 mx hc hu I2 r r' q2
  · rw [hs]; rfl
  · rw [hs]; rfl
end
section
variable {Γ : Set0} {a b : Expr} {ca cb : C} {pos : Pos}
theorem ok_def {mx : Bool} {w : Two} {x : Str} {p kpos : Pos} (hw : ∀ d y s, twoE w [d, y] s = match (seqD d s).bind intsD with
      | some ns => .ok (defI mx y ns) s
      | none => .stuck) (hc : Γ.X.calm = true) (hu : Γ.X.A.units + 64 < cLine) (hg : Gl Γ.X x) (hm : Γ.X.mg x = none) (hv : bootBuiltins x = some (.builtin (if mx then "max" else "min"))) (ha : OkE Γ a ca) (hb : OkE Γ b cb)
    (na : starEach [a] Γ.X.env = [(false, eval a Γ.X.env)]) (hn : x ≠ "__name__") (hdb : (x == ("__debug__" : Str)) = false) : OkE Γ (.Call (.Name x p) [a] [⟨some "default", b, kpos⟩] pos) (.two w (.cons ca (.cons cb .nil))) := by
  intro σ ρ κ s H Q hr sl p
  unfold evE at p
  rw [two1] at p
  refine twE (pe_def mx hc hu hg hm hv peW peW na hn hdb) ?_
  refine ha.use hr sl p fun d s1 κ1 H1 v t1 h1 sl1 r1 p1 => ?_
  refine hb.use h1 sl1 p1 fun y s2 κ2 H2 u t2 h2 sl2 r2 p2 => ?_
  rw [hw] at p2
  cases hq : seqD d s2 with
  | none => rw [hq] at p2; exact p2.elim
  | some l =>
    rw [hq] at p2
    obtain ⟨l0, ws, rfl, q1, q2⟩ := seq_of h2 (r1.tr t2) hq
    cases hi : intsD l with
    | none =>
      rw [show (some l).bind intsD = intsD l from rfl, hi] at p2
      exact p2.elim
    | some ns =>
      rw [show (some l).bind intsD = intsD l from rfl, hi] at p2
      obtain ⟨rfl, _⟩ := intsD_reps hi q2
      refine ⟨l0, ns, rfl, q1, ?_⟩
      cases ns with
      | nil => exact p2.give h2 r2
      | cons n r => exact p2.give h2 .int
/-! ### range objects -/
theorem cr_range1 {X : Cx} : CallR X (.type "range") (fun vs H Q => ∃ i, vs = [V.int i] ∧ ∀ p, H p = none → Q (.ref p) (upd H p (.rng 0 i))) := by
  intro pins s σ H vs us Q I r h
  obtain ⟨i, rfl, q⟩ := h
  cases r with
  | cons r rr =>
    cases rr
    obtain ⟨t, rfl⟩ := r
    refine call_range_1 ⟨.ref s.heap.objs.size, upd H s.heap.objs.size (.rng 0 i), I.laid (t' := s.toks + 1 + 1) (fun b o e => Heap.get?_push_of_some _ e) (Nat.le_refl _) ?_, rfl, q _ (I.hok.fresh (Nat.le_refl _))⟩
    exact ⟨s.toks, t, s.toks + 1, Heap.get?_push_size _ rfl⟩
theorem ok_rngv {p : Pos} (hg : Gl Γ.X "range") (hm : Γ.X.mg "range" = none) (ha : OkE Γ a ca) (na : starEach [a] Γ.X.env = [(false, eval a Γ.X.env)]) : OkE Γ (.Call (.Name "range" p) [a] [] pos) (.two .rngv (.cons ca .nil)) := by
  intro σ ρ κ s H Q hr sl p
  unfold evE at p
  rw [one1] at p
  refine twE (pe_callTy cr_range1 hg hm boot_range (pa_cons peW pa_nil na) (by decide) (by decide) (by rw [na]; rfl) rfl) ?_
  refine ha.use hr sl p fun d s1 κ1 H1 v t1 h1 sl1 r1 p1 => ?_
  cases d with
  | int j =>
    refine ⟨j, by rw [int_of r1], fun q hq => ?_⟩
    have tn := h1.trn (o := .rng 0 j) hq
    exact p1 κ1 _ _ tn (h1.new hq) (.rng ⟨upd_same, h1.fresh hq⟩)
  | _ => exact p1.elim
end
/-- a dict locked while what walks over it is worked out -/
theorem ok_lck {Γ : Set0} {e : Expr} {c : C} {i : Nat} (h : OkE Γ e c) : OkE Γ e (.lck i c) := by
  intro σ ρ κ s H Q hr sl p
  unfold evE at p
  split at p
  · rename_i n hl
    split at p
    · rename_i kvs hc
      obtain ⟨v0, _, r0⟩ := sl.at' i _ hl
      obtain ⟨rfl, hn⟩ := cel_of r0
      have q := hr.ok n hn
      rw [hc] at q
      rcases q with ⟨_, xs, q1, q2⟩ | ⟨z, _⟩
      · have na := hr.notR hn q1
        refine twE (pe_lock (t := TW Γ.X e) peW) ⟨κ.f n, .dK xs, q1, trivial, fun od => ?_⟩
        have lk := hr.lock hn q1 q2 od
        refine h σ ρ (κ.hold (κ.f n)) (s.set n (.dik kvs)) _ _ lk (sl.tr1 (hr.tr_lock hn)) ?_
        cases ev : evE Γ.P Γ.T c ρ (s.set n (.dik kvs)) with
        | stuck => rw [ev] at p; exact p.elim
        | exc x s1 => rw [ev] at p; exact p.elim
        | ok d s1 =>
          rw [ev] at p
          dsimp only at p
          split at p
          · rename_i k2 hc2
            intro κ1 H1 v t1 h1 r1
            obtain ⟨κ5, rfl, hR⟩ := Gh.eta t1.rs
            have hf : κ5.f n = κ.f n := t1.ag n hn
            have hd : H1 (κ.f n) = some (.frz od (.dK xs)) := (t1.rk _ List.mem_cons_self).trans upd_same
            have hn1 : n < s1.nx := Nat.lt_of_lt_of_le hn t1.le
            exact ⟨hd, p κ5 _ v (Tr.locked hr hn na t1 hR) (HR.unlock h1 hn1 hf (by rw [hR]; exact na) hd hc2) (r1.tr1 (HR.tr_unlock hn1 hf))⟩
          · exact p.elim
      · cases z
    · exact p.elim
  · exact p.elim
def tLockT (t : TT) : TT := fun σ H Q => ∃ d u, H d = some u ∧ Mut (some u) ∧ ∀ od, t σ (upd H d (.frz od u)) fun v H' => H' d = some (.frz od u) ∧ Q v (upd H' d u)
theorem pt_lock {X : Cx} {e : Expr} {t : TT} (h : PT X e t) : PT X e (tLockT t) := by
  refine ⟨fun pins s σ H Q I hw => ?_⟩
  obtain ⟨d, u, hd, mu, hw⟩ := hw
  obtain ⟨od, I1⟩ := I.lock hd mu
  refine thn (h.run pins s σ _ _ I1 (hw od)) fun v s1 ⟨H1, I2, e2, q⟩ => ?_
  exact ⟨_, I2.unlock e2 (I.nofrz hd mu), q⟩
theorem ok_lckT {Γ : Set0} {e : Expr} {c : C} {i : Nat} (h : OkT Γ e c) : OkT Γ e (.lck i c) := by
  intro σ ρ κ s H Q hr sl p
  unfold evE at p
  split at p
  · rename_i n hl
    split at p
    · rename_i kvs hc
      obtain ⟨v0, _, r0⟩ := sl.at' i _ hl
      obtain ⟨rfl, hn⟩ := cel_of r0
      have q := hr.ok n hn
      rw [hc] at q
      rcases q with ⟨_, xs, q1, q2⟩ | ⟨z, _⟩
      · have na := hr.notR hn q1
        refine twT (pt_lock (t := TWt Γ.X e) ptW) ⟨κ.f n, .dK xs, q1, trivial, fun od => ?_⟩
        have lk := hr.lock hn q1 q2 od
        refine h σ ρ (κ.hold (κ.f n)) (s.set n (.dik kvs)) _ _ lk (sl.tr1 (hr.tr_lock hn)) ?_
        cases ev : evE Γ.P Γ.T c ρ (s.set n (.dik kvs)) with
        | stuck => rw [ev] at p; exact p.elim
        | exc x s1 => rw [ev] at p; exact p.elim
        | ok d s1 =>
          rw [ev] at p
          dsimp only at p
          split at p
          · rename_i k2 hc2
            intro κ1 H1 v t1 h1 r1
            obtain ⟨κ5, rfl, hR⟩ := Gh.eta t1.rs
            have hf : κ5.f n = κ.f n := t1.ag n hn
            have hd : H1 (κ.f n) = some (.frz od (.dK xs)) := (t1.rk _ List.mem_cons_self).trans upd_same
            have hn1 : n < s1.nx := Nat.lt_of_lt_of_le hn t1.le
            obtain ⟨b, eb, qb⟩ := p κ5 _ v (Tr.locked hr hn na t1 hR) (HR.unlock h1 hn1 hf (by rw [hR]; exact na) hd hc2) (r1.tr1 (HR.tr_unlock hn1 hf))
            exact ⟨b, eb, hd, qb⟩
          · exact p.elim
      · cases z
    · exact p.elim
  · exact p.elim
end Ev

set_option Elab.async false
set_option linter.all false
set_option maxRecDepth 100000
set_option maxHeartbeats 4000000
/-! other forms: isinstance, get, a written dict at an index, min and max of pairs -/
namespace Ev
open PySem PySem.Spec PyProof.Rows L2
/-- what isinstance wants of a class -/
structure IsiOk (K : PySem.W.Frag) (C : Addr) : Prop where
  ha : PySem.W.findIn K (.ref C) "__class__" = some (some (.builtin "object.__class__"))
  hn : PySem.W.specialIn K (.builtin "object.__class__") "__get__" = some (some (.builtin "getset_descriptor.__get__"))
  htk : PySem.W.takesIn K (.builtin "object.__class__") = some true
  hm : PySem.W.mroIn K C (.type "object") = some true
  one : PySem.W.kitOne K (.ref C) (.ref C) = some true
  tu : PySem.W.kitOne K (.type "tuple") (.ref C) = some false
def isiB (K : PySem.W.Frag) (C : Addr) : Bool :=
  decide (PySem.W.findIn K (.ref C) "__class__" = some (some (.builtin "object.__class__"))) && (decide (PySem.W.specialIn K (.builtin "object.__class__") "__get__" = some (some (.builtin "getset_descriptor.__get__"))) && (decide (PySem.W.takesIn K (.builtin "object.__class__") = some true) &&
    (decide (PySem.W.mroIn K C (.type "object") = some true) && (decide (PySem.W.kitOne K (.ref C) (.ref C) = some true) && decide (PySem.W.kitOne K (.type "tuple") (.ref C) = some false)))))
theorem isiB_ok {K : PySem.W.Frag} {C : Addr} (h : isiB K C = true) : IsiOk K C := by
  unfold isiB at h
  have h1 := and2' h
  have h2 := and2' h1.2
  have h3 := and2' h2.2
  have h4 := and2' h3.2
  have h5 := and2' h4.2
  exact ⟨of_decide_eq_true h1.1, of_decide_eq_true h2.1, of_decide_eq_true h3.1, of_decide_eq_true h4.1, of_decide_eq_true h5.1, of_decide_eq_true h5.2⟩
section
variable {Γ : Set0} {a b e : Expr} {ca cb c : C} {pos : Pos}
theorem xf0 {P : Prog} {T : Nat → List D → Hs → Res D} {ρ : Env} {s : Hs} {w : Xt} (hw : ∀ x s, xPre w x s = true) : evE P T (.xf w ca .nil) ρ s = (evE P T ca ρ s).bind fun x s1 => xE w x [] s1 := by
  rw [evE]
  congr 1
  funext x s1
  rw [if_pos (hw x s1)]
  rw [evA]
  rfl
/-! ### isinstance -/
theorem ok_isC {k : Nat} {x : Str} {p p2 : Pos} (hg : Gl Γ.X "isinstance") (hm : Γ.X.mg "isinstance" = none) (hgc : Gl Γ.X x) (hmc : Γ.X.mg x = some (.ref (Γ.S.cls k))) (hd : (x == ("__debug__" : Str)) = false) (I : IsiOk Γ.X.K (Γ.S.cls k)) (ha : OkE Γ a ca)
    (na : starEach [a, .Name x p2] Γ.X.env = (false, eval a Γ.X.env) :: starEach [.Name x p2] Γ.X.env) : OkE Γ (.Call (.Name "isinstance" p) [a, .Name x p2] [] pos) (.xf (.isC k) ca .nil) := by
  intro σ ρ κ s H Q hr sl p
  rw [xf0 (fun _ _ => rfl)] at p
  refine twE (pe_callB call_isi hg hm boot_isinstance (pa_cons peW (pa_cons (pe_glob hgc hmc (v := .ref (Γ.S.cls k)) rfl hd) pa_nil rfl) na) (by decide) (by decide) na rfl) ?_
  refine ha.use hr sl p fun d s1 κ1 H1 v t1 h1 sl1 r1 p1 => ?_
  cases r1 with
  | @tup a vs ds f rs => exact ⟨_, _, _, _, _, rfl, .own _, .base (.tup f.1), I.tu, p1.give h1 .bl⟩
  | @cel n a hn he =>
    subst he
    have q := h1.ok n hn
    simp only [xE] at p1
    cases e : s1.h n with
    | ins c fs =>
      rw [e] at q
      simp only [e] at p1
      obtain ⟨dx, xs, q1, q2, _⟩ := q
      by_cases z : c = k
      · subst z
        rw [if_pos rfl] at p1
        exact ⟨_, _, _, _, _, rfl, .own _, .base (.ins q1 q2 I.ha I.hn I.htk I.hm), I.one, p1.give h1 .bl⟩
      · rw [if_neg z] at p1; exact p1.elim
    | _ => simp only [e] at p1; exact p1.elim
  | _ => exact p1.elim
theorem lt2_ok {K : PySem.W.Frag} {t : Value} {b1 b2 r : Bool} (h1 : PySem.W.kitOne K t (.type "list") = some b1) (h2 : PySem.W.kitOne K t (.type "tuple") = some b2) (hr : r = (b1 || b2)) : PySem.W.kitAny K t [.type "list", .type "tuple"] = some r := by
  subst hr
  unfold PySem.W.kitAny
  rw [h1]
  cases b1 with
  | true => rfl
  | false =>
    unfold PySem.W.kitAny
    show (match PySem.W.kitOne K t (.type "tuple") with | some true => some true | some false => PySem.W.kitAny K t [] | none => none) = _
    rw [h2]
    cases b2 <;> rfl
theorem ok_isLT {p p2 p3 : Pos} {kk : Nat} {pt : Pos} (hg : Gl Γ.X "isinstance") (hm : Γ.X.mg "isinstance" = none) (hg1 : Gl Γ.X "list") (hm1 : Γ.X.mg "list" = none) (hg2 : Gl Γ.X "tuple") (hm2 : Γ.X.mg "tuple" = none) (ha : OkE Γ a ca)
    (na : starEach [a, .Tuple [.Name "list" p2, .Name "tuple" p3] kk pt] Γ.X.env = (false, eval a Γ.X.env) :: starEach [.Tuple [.Name "list" p2, .Name "tuple" p3] kk pt] Γ.X.env) :
    OkE Γ (.Call (.Name "isinstance" p) [a, .Tuple [.Name "list" p2, .Name "tuple" p3] kk pt] [] pos) (.xf .isLT ca .nil) := by
  intro σ ρ κ s H Q hr sl p
  rw [xf0 (fun _ _ => rfl)] at p
  refine twE (pe_callB call_isiT hg hm boot_isinstance (pa_cons peW (pa_cons (pe_tup (pa_cons (pe_bltn hg1 hm1 (by decide +kernel) (v := .ty "list") (u := .type "list") rfl) (pa_cons (pe_bltn hg2 hm2 (by decide +kernel) (v := .ty "tuple") (u := .type "tuple") rfl) pa_nil rfl) rfl)) pa_nil rfl) na) (by decide) (by decide) na rfl) ?_
  refine ha.use hr sl p fun d s1 κ1 H1 v t1 h1 sl1 r1 p1 => ?_
  show _ ≤ _ ∧ _
  refine ⟨by show 2 ≤ sizeLine; rw [sizeLine_eq]; omega, fun q hq => ?_⟩
  have tn := h1.trn (o := .tup [V.ty "list", V.ty "tuple"]) hq
  have hnew := h1.new (o := .tup [V.ty "list", V.ty "tuple"]) hq
  have ne : ∀ {aa o}, H1 aa = some o → (upd H1 q (.tup [V.ty "list", V.ty "tuple"])) aa = some o := fun {aa o} e => by rw [upd_ne (ne_of_none e hq)]; exact e
  have go : ∀ {bb t}, TyX Γ.X.K (upd H1 q (.tup [V.ty "list", V.ty "tuple"])) v t → PySem.W.kitAny Γ.X.K t [.type "list", .type "tuple"] = some bb → Q (.bl bb) (upd H1 q (.tup [V.ty "list", V.ty "tuple"])) →
      rIsiT Γ.X.K [v, .ref q] (upd H1 q (.tup [V.ty "list", V.ty "tuple"])) Q := fun {bb t} h2 h3 h4 => ⟨_, _, _, _, _, _, rfl, upd_same, .cons (.ty _) (.cons (.ty _) .nil), h2, h3, h4⟩
  cases r1 with
  | @tup a vs ds f rs => exact go (.base (.tup (ne f.1))) (lt2_ok (kit_ty (by decide +kernel : kitB "tuple" "list" = some false)) (kit_ty (by decide +kernel : kitB "tuple" "tuple" = some true)) rfl) (p1 κ1 _ _ tn hnew .bl)
  | @lst a vs ds f rs => exact go (.base (.lst (ne f.1))) (lt2_ok (kit_ty (by decide +kernel : kitB "list" "list" = some true)) (kit_ty (by decide +kernel : kitB "list" "tuple" = some false)) rfl) (p1 κ1 _ _ tn hnew .bl)
  | @int i => exact go (.base (.int _)) (lt2_ok (kit_ty (by decide +kernel : kitB "int" "list" = some false)) (kit_ty (by decide +kernel : kitB "int" "tuple" = some false)) rfl) (p1 κ1 _ _ tn hnew .bl)
  | non => exact go (.base .non) (lt2_ok (kit_ty (by decide +kernel : kitB "NoneType" "list" = some false)) (kit_ty (by decide +kernel : kitB "NoneType" "tuple" = some false)) rfl) (p1 κ1 _ _ tn hnew .bl)
  | @str x => exact go (.base (.str _)) (lt2_ok (kit_ty (by decide +kernel : kitB "str" "list" = some false)) (kit_ty (by decide +kernel : kitB "str" "tuple" = some false)) rfl) (p1 κ1 _ _ tn hnew .bl)
  | @cel n a hn he =>
    subst he
    have q := h1.ok n hn
    simp only [xE] at p1
    cases e : s1.h n with
    | lst l =>
      rw [e] at q
      simp only [e, isLst, if_true] at p1
      obtain ⟨xs, q1, _⟩ := q
      exact go (.base (.lst (ne q1))) (lt2_ok (kit_ty (by decide +kernel : kitB "list" "list" = some true)) (kit_ty (by decide +kernel : kitB "list" "tuple" = some false)) rfl) (p1 κ1 _ _ tn hnew .bl)
    | _ => simp only [e, isLst, Bool.false_eq_true, if_false] at p1; exact p1.elim
  | _ => exact p1.elim
/-! ### d.get -/
/-- what get finds -/
theorem get_of {κ : Gh} {s : Hs} {H : Hp} {v y : V} {d dk : D} {o : Option D} {aa : Addr} (h1 : HR Γ.X.K Γ.S κ s H) (r : Rep Γ.X.K κ s.nx H v d) (ry : Rep Γ.X.K κ s.nx H y dk) (hv : v = .ref aa) (h : getD? d dk s = some o) :
    ∃ w, DGet H aa y w ∧ (∀ z dz, Rep Γ.X.K κ s.nx H z dz → Rep Γ.X.K κ s.nx H (w.getD z) (o.getD dz)) := by
  unfold getD? at h
  split at h
  · rename_i kvs hk
    obtain ⟨n, xs, e, hn, q1, q2⟩ := dicK_of h1 r hk
    rw [hv] at e
    cases e
    split at h
    · rename_i key hkk
      cases h
      obtain rfl := keyV_of ry hkk
      cases hl : lookD kvs key with
      | none => exact ⟨none, .inl ⟨_, _, q1, rfl, (KVs.miss q2 hl).symm⟩, fun z dz rz => rz⟩
      | some dd =>
        obtain ⟨w, w1, w2⟩ := q2.look hl
        exact ⟨some w, .inl ⟨_, _, q1, rfl, w1.symm⟩, fun z dz rz => w2⟩
    · cases h
  · split at h
    · rename_i kvs hk
      obtain ⟨n, xs, e, hn, q1, q2⟩ := dicT_of h1 r hk
      rw [hv] at e
      cases e
      split at h
      · rename_i key hkk
        cases h
        obtain ⟨b, rfl, hb⟩ := keyT_of ry hkk
        cases hl : lookT kvs key with
        | none => exact ⟨none, .inr ⟨_, _, b, .inl q1, rfl, hb, (TVs.miss q2 hl).symm⟩, fun z dz rz => rz⟩
        | some dd =>
          obtain ⟨w, w1, w2⟩ := q2.look hl
          exact ⟨some w, .inr ⟨_, _, b, .inl q1, rfl, hb, w1.symm⟩, fun z dz rz => w2⟩
      · cases h
    · cases h
theorem isD_of {κ : Gh} {s : Hs} {H : Hp} {v : V} {d : D} (h1 : HR Γ.X.K Γ.S κ s H) (r : Rep Γ.X.K κ s.nx H v d) (h : xPre .get d s = true) : ∃ aa, v = .ref aa ∧ IsD H aa := by
  have h' : ((dicK d s).isSome || (dicT d s).isSome) = true := h
  cases hk : dicK d s with
  | some kvs =>
    obtain ⟨n, xs, e, hn, q1, q2⟩ := dicK_of h1 r hk
    exact ⟨_, e, .inl ⟨_, q1⟩⟩
  | none =>
    cases ht : dicT d s with
    | some kvs =>
      obtain ⟨n, xs, e, hn, q1, q2⟩ := dicT_of h1 r ht
      exact ⟨_, e, .inr ⟨_, .inl q1⟩⟩
    | none => rw [hk, ht] at h'; cases h'
theorem ok_get1 {o k : Expr} {co ck : C} {apos : Pos} (hu : Γ.X.A.units + 1 < cLine) (ho : OkE Γ o co) (hk : OkE Γ k ck) (m : M1 Γ.X o "get" apos k pos) : OkE Γ (.Call (.Attribute o "get" apos) [k] [] pos) (.xf .get co (.cons ck .nil)) := by
  intro σ ρ κ s H Q hr sl p
  unfold evE at p
  refine twE (pe_dget1 hu peW peW m) ?_
  refine ho.use hr sl p fun d s1 κ1 H1 v t1 h1 sl1 r1 p1 => ?_
  cases hx : xPre .get d s1 with
  | false => rw [hx] at p1; exact p1.elim
  | true =>
    rw [hx, if_pos rfl, one1] at p1
    obtain ⟨aa, e, hd⟩ := isD_of h1 r1 hx
    refine ⟨aa, e, hd, ?_⟩
    refine hk.use h1 sl1 p1 fun dk s2 κ2 H2 y t2 h2 sl2 r2 p2 => ?_
    simp only [xE] at p2
    cases hg : getD? d dk s2 with
    | none => rw [hg] at p2; exact p2.elim
    | some oo =>
      rw [hg] at p2
      obtain ⟨w, w1, w2⟩ := get_of h2 (r1.tr t2) r2 e hg
      exact ⟨w, w1, p2.give h2 (w2 _ _ .non)⟩
theorem ok_get2 {o k f : Expr} {co ck cf : C} {apos : Pos} (hu : Γ.X.A.units + 1 < cLine) (ho : OkE Γ o co) (hk : OkE Γ k ck) (hf : OkE Γ f cf) (m : M2 Γ.X o "get" apos k f pos) : OkE Γ (.Call (.Attribute o "get" apos) [k, f] [] pos) (.xf .get co (.cons ck (.cons cf .nil))) := by
  intro σ ρ κ s H Q hr sl p
  unfold evE at p
  refine twE (pe_dget2 hu peW peW peW m) ?_
  refine ho.use hr sl p fun d s1 κ1 H1 v t1 h1 sl1 r1 p1 => ?_
  cases hx : xPre .get d s1 with
  | false => rw [hx] at p1; exact p1.elim
  | true =>
    rw [hx, if_pos rfl, two1] at p1
    obtain ⟨aa, e, hd⟩ := isD_of h1 r1 hx
    refine ⟨aa, e, hd, ?_⟩
    refine hk.use h1 sl1 p1 fun dk s2 κ2 H2 y t2 h2 sl2 r2 p2 => ?_
    refine hf.use h2 sl2 p2 fun df s3 κ3 H3 z t3 h3 sl3 r3 p3 => ?_
    simp only [xE] at p3
    cases hg : getD? d dk s3 with
    | none => rw [hg] at p3; exact p3.elim
    | some oo =>
      rw [hg] at p3
      obtain ⟨w, w1, w2⟩ := get_of h3 ((r1.tr t2).tr t3) (r2.tr t3) e hg
      exact ⟨w, w1, p3.give h3 (w2 _ _ r3)⟩
/-! ### a module's text -/
theorem ok_gls {x : Str} {z : Str} {t : Tok} (hg : Gl Γ.X x) (hm : Γ.X.mg x = some (.str z t)) (hd : (x == ("__debug__" : Str)) = false) : OkE Γ (.Name x pos) (.glob x (.str z)) := by
  intro σ ρ κ s H Q hr sl p
  unfold evE at p
  exact twE (pe_glob hg hm (v := .str z) ⟨_, rfl⟩ hd) (p.give hr .str)
/-! ### {1: 2, ..}[i] -/
def dixB : List (Int × Int) → List (Option Expr) → List Expr → Bool
  | [], [], [] => true
  | (i, j) :: r, some (.Constant (.int i') _ _) :: ks, .Constant (.int j') _ _ :: vs => decide (i = i') && (decide (j = j') && dixB r ks vs)
  | _, _, _ => false
theorem dix_pps {X : Cx} : ∀ {kvs : List (Int × Int)} {ks : List (Option Expr)} {vs : List Expr}, dixB kvs ks vs = true → PPs X pos ks vs (kvs.map fun p => (tC (.int p.1), tC (.int p.2))) ∧ ks.all (·.isSome) = true ∧ ks.length = vs.length ∧ ks.length = kvs.length
  | [], ks, vs, h => by
    unfold dixB at h
    split at h
    · exact ⟨pps_nil, rfl, rfl, rfl⟩
    · rename_i e; cases e
    · cases h
  | (i, j) :: r, ks, vs, h => by
    unfold dixB at h
    split at h
    · rename_i e; cases e
    · rename_i i0 j0 r0 i' _ _ ks' j' _ _ vs' e
      cases e
      have h1 := and2' h
      have h2 := and2' h1.2
      have e1 := of_decide_eq_true h1.1
      have e2 := of_decide_eq_true h2.1
      subst e1 e2
      obtain ⟨q1, q2, q3, q4⟩ := dix_pps (X := X) h2.2
      exact ⟨pps_cons pe_int pe_int q1, by rw [List.all_cons, q2]; rfl, by rw [List.length_cons, List.length_cons, q3], by rw [List.length_cons, List.length_cons, q4]⟩
    · cases h
theorem tp_int {σ : St} {H : Hp} {Q : List (V × V) → Hp → Prop} : ∀ {kvs : List (Int × Int)}, Q (kvs.map fun p => (V.int p.1, V.int p.2)) H → tPairs (kvs.map fun p => (tC (.int p.1), tC (.int p.2))) σ H Q
  | [], h => h
  | (i, j) :: r, h => by
    show tPairs (r.map fun p => (tC (.int p.1), tC (.int p.2))) σ H fun ps H3 => Q ((V.int i, V.int j) :: ps) H3
    exact tp_int (Q := fun ps H3 => Q ((V.int i, V.int j) :: ps) H3) h
theorem ok_dix {kvs : List (Int × Int)} {ks : List (Option Expr)} {vs : List Expr} {p2 : Pos} (hu : Γ.X.A.units + 1 < cLine) (hk : dixB kvs ks vs = true) (h0 : kvs ≠ []) (h15 : kvs.length ≤ 15) (ha : OkE Γ a ca) (hs : PlainIx a) :
    OkE Γ (.Subscript (.Dict ks vs p2) a pos) (.xf (.dix kvs) ca .nil) := by
  intro σ ρ κ s H Q hr sl p
  rw [xf0 (fun _ _ => rfl)] at p
  obtain ⟨q1, q2, q3, q4⟩ := dix_pps (X := Γ.X) (pos := p2) hk
  refine twE (pe_ix (ix_dict hu) (pe_disp q1 q2 q3 (fun e => h0 (List.length_eq_zero_iff.mp (by rw [← q4, e]; rfl))) (by rw [q4]; exact h15)) peW hs) ?_
  intro q hq
  refine tp_int ⟨upd_same, kvs.map fun p => ((Sum.inl p.1 : Key), V.int p.2), by rw [List.map_map]; rfl, by rw [List.length_map]; exact h15, ?_⟩
  rw [upd_upd]
  have tn := hr.trn (o := .dK (mergeK [] (kvs.map fun p => ((Sum.inl p.1 : Key), V.int p.2)))) hq
  have hn := hr.new (o := .dK (mergeK [] (kvs.map fun p => ((Sum.inl p.1 : Key), V.int p.2)))) hq
  refine ha.use hn (sl.tr tn) (Pre.tr tn p) fun d s1 κ1 H1 v t1 h1 sl1 r1 p1 => ?_
  simp only [xE] at p1
  cases r1 with
  | @int i =>
    simp only at p1
    have hk1 : H1 q = some (.dK (mergeK [] (kvs.map fun p => ((Sum.inl p.1 : Key), V.int p.2)))) := (t1.kp q _ upd_same (fun _ z => by cases z) (hr.fresh hq)).1
    unfold dixE at p1
    cases hv : valV (mergeK [] (kvs.map fun p => ((Sum.inl p.1 : Key), V.int p.2))) (.inl i) with
    | none => rw [hv] at p1; exact p1.elim
    | some w =>
      rw [hv] at p1
      cases w with
      | int j =>
        refine ⟨q, .int j, rfl, ?_, p1.give h1 .int⟩
        rw [← hv]
        exact DGet.k (k := .inl i) hk1
      | _ => exact p1.elim
  | _ => exact p1.elim
/-! ### min and max of pairs -/
def PrsV (K : PySem.W.Frag) (H : Hp) : List V → List (Int × Int) → Prop := Paired fun x p => ∃ t, x = V.ref t ∧ SqT K H t [.int p.1, .int p.2]
theorem prs_of {K : PySem.W.Frag} {κ : Gh} {nx : Nat} {H : Hp} : ∀ {vs : List V} {l : List D} {ps : List (Int × Int)}, Reps K κ nx H vs l → pairsD l = some ps → PrsV K H vs ps ∧ l = ps.map fun p => .tuple [.int p.1, .int p.2]
  | _, _, _, .nil, h => by cases h; exact ⟨.nil, rfl⟩
  | _, _, _, .cons (d := d) (ds := ds) r rs, h => by
    unfold pairsD at h
    split at h
    · rename_i e; cases e
    · rename_i i j r0 e
      cases e
      cases hp : pairsD ds with
      | none => rw [hp] at h; cases h
      | some qs =>
        rw [hp] at h
        cases h
        obtain ⟨q1, q2⟩ := prs_of rs hp
        cases r with
        | tup f r2 =>
          cases r2 with
          | cons ri r3 =>
            cases r3 with
            | cons rj r4 =>
              cases r4
              cases ri
              cases rj
              exact ⟨.cons ⟨_, rfl, f.sq⟩ q1, by rw [q2]; rfl⟩
    · cases h
theorem vals2i {i j : Int} {us : List Value} (r : Vals [V.int i, V.int j] us) : ∃ t t', us = [.int i t, .int j t'] := by
  cases r with
  | cons r1 r =>
    cases r with
    | cons r2 r =>
      cases r
      obtain ⟨t, rfl⟩ := (show ∃ t, _ = Value.int i t from r1)
      obtain ⟨t', rfl⟩ := (show ∃ t, _ = Value.int j t from r2)
      exact ⟨_, _, rfl⟩
theorem hold_of {X : Cx} {pins : List (Addr × Obj)} {σ : St} {H : Hp} {s : Shared} (I : Inv X pins σ H s) : ∀ {vs : List V} {ps : List (Int × Int)} {us : List Value}, PrsV X.K H vs ps → Vals vs us → PySem.W.HoldAll s.heap us ps
  | _, _, _, .nil, r => by cases r; exact .nil
  | _, _, _, .cons h t, r => by
    obtain ⟨b, rfl, hs⟩ := h
    cases r with
    | cons r rs =>
      rename_i u us
      cases (show u = Value.ref b from r)
      obtain ⟨its, rv, hl, _⟩ := I.tuple hs
      obtain ⟨t1, t2, e⟩ := vals2i rv
      subst e
      exact .cons (PySem.W.holds_pair hl (PySem.W.holds_int _ _) (PySem.W.holds_int _ _)) (hold_of I t rs)
theorem tuple_one {h : Heap} {l : Addr} {a b c d : Value} (h1 : h.IsTuple l #[a, b]) (h2 : h.IsTuple l #[c, d]) : a = c ∧ b = d := by
  obtain ⟨o, e1, _, n1, d1⟩ := h1
  obtain ⟨o', e2, _, n2, d2⟩ := h2
  rw [e1] at e2
  cases e2
  rw [d1] at d2
  injection d2 with z _
  have z' := congrArg Array.toList z
  simp at z'
  exact z'
theorem holds_one {h : Heap} {v : Value} {p q : Int × Int} (h1 : PySem.W.Holds h v p) (h2 : PySem.W.Holds h v q) : p = q := by
  obtain ⟨l, a, b, rfl, t1, a1, b1⟩ := PySem.W.pair_of_holds h1
  obtain ⟨l', a', b', e, t2, a2, b2⟩ := PySem.W.pair_of_holds h2
  cases e
  obtain ⟨rfl, rfl⟩ := tuple_one t1 t2
  obtain ⟨t, e1⟩ := PySem.W.int_of_holds a1
  obtain ⟨t', e2⟩ := PySem.W.int_of_holds a2
  obtain ⟨u, e3⟩ := PySem.W.int_of_holds b1
  obtain ⟨u', e4⟩ := PySem.W.int_of_holds b2
  rw [e1] at e2
  rw [e3] at e4
  injection e2 with z1 _
  injection e4 with z2 _
  exact Prod.ext z1 z2
theorem minP_eq (p : Int × Int) (ps : List (Int × Int)) : PySem.W.minOf p ps = minP p ps := rfl
theorem maxP_eq (p : Int × Int) (ps : List (Int × Int)) : PySem.W.maxOf p ps = maxP p ps := rfl
def rExt (mx : Bool) (K : PySem.W.Frag) : List V → Hp → VK → Prop := fun xs H Q => ∃ (a : Addr) (vs : List V) (p : Int × Int) (ps : List (Int × Int)), xs = [V.ref a] ∧ SqL K H a vs ∧ PrsV K H vs (p :: ps) ∧ ∀ (i : Nat) v, vs[i]? = some v → (p :: ps)[i]? = some (if mx then maxP p ps else minP p ps) → Q v H
theorem vals_at : ∀ {vs : List V} {us : List Value} {i : Nat} {u : Value}, Vals vs us → us[i]? = some u → ∃ v, vs[i]? = some v ∧ RelV v u
  | _, _, _, _, .nil, e => by simp at e
  | _, _, 0, _, .cons r _, e => by simp at e; subst e; exact ⟨_, rfl, r⟩
  | _, _, i + 1, u, .cons _ t, e => by
    obtain ⟨v, h1, h2⟩ := vals_at (i := i) (u := u) t (by simpa using e)
    exact ⟨v, by simpa using h1, h2⟩
theorem cr_min2 {X : Cx} (hc : X.calm = true) (hu : X.A.units + 64 < cLine) : CallR X (.builtin "min") (rExt false X.K) := by
  intro pins s σ H xs us Q I r h
  obtain ⟨a, vs, p, ps, rfl, hs, hp, q⟩ := h
  obtain ⟨u, rfl, ru⟩ := vals1 r
  cases (show u = Value.ref a from ru)
  obtain ⟨its, rv, hl, _⟩ := I.list hs
  have hd : X.A.units + 1 + PySem.W.Datum.depth (Int × Int) < cLine := by
    have : PySem.W.Datum.depth (Int × Int) ≤ 4 := by decide
    omega
  have hh := hold_of I hp rv
  refine PySem.W.min_list_datum (I.ok.hd hc) hl.isList hh hd fun i v h' tk hi hv hk => ?_
  have hi' : its[i]? = some v := by rw [← List.getElem?_toArray]; exact hi
  obtain ⟨x, e1, e2⟩ := hh.at hi'
  have ex := holds_one (e2.keeps hk) hv
  obtain ⟨w, w1, w2⟩ := vals_at rv hi'
  exact ⟨w, H, I.kept hk, w2, q i w w1 (by rw [e1, ex]; rfl)⟩
theorem cr_max2 {X : Cx} (hc : X.calm = true) (hu : X.A.units + 64 < cLine) : CallR X (.builtin "max") (rExt true X.K) := by
  intro pins s σ H xs us Q I r h
  obtain ⟨a, vs, p, ps, rfl, hs, hp, q⟩ := h
  obtain ⟨u, rfl, ru⟩ := vals1 r
  cases (show u = Value.ref a from ru)
  obtain ⟨its, rv, hl, _⟩ := I.list hs
  have hd : X.A.units + 1 + PySem.W.Datum.depth (Int × Int) < cLine := by
    have : PySem.W.Datum.depth (Int × Int) ≤ 4 := by decide
    omega
  have hh := hold_of I hp rv
  refine PySem.W.max_list_datum (I.ok.hd hc) hl.isList hh hd fun i v h' tk hi hv hk => ?_
  have hi' : its[i]? = some v := by rw [← List.getElem?_toArray]; exact hi
  obtain ⟨x, e1, e2⟩ := hh.at hi'
  have ex := holds_one (e2.keeps hk) hv
  obtain ⟨w, w1, w2⟩ := vals_at rv hi'
  exact ⟨w, H, I.kept hk, w2, q i w w1 (by rw [e1, ex]; rfl)⟩
/-- .. of ints, in a list or a tuple -/
def rExi (mx : Bool) (K : PySem.W.Frag) : List V → Hp → VK → Prop := fun xs H Q => ∃ (a : Addr) (n : Int) (ns : List Int), xs = [V.ref a] ∧ (SqL K H a ((n :: ns).map V.int) ∨ SqT K H a ((n :: ns).map V.int)) ∧ Q (.int (if mx then maxI n ns else minI n ns)) H
def rEx2 (mx : Bool) (K : PySem.W.Frag) : List V → Hp → VK → Prop := fun xs H Q => rExt mx K xs H Q ∨ rExi mx K xs H Q
theorem dep_i {X : Cx} (hu : X.A.units + 64 < cLine) : X.A.units + 1 + PySem.W.Datum.depth Int < cLine := by
  have : PySem.W.Datum.depth Int ≤ 1 := by decide
  omega
theorem cr_mini {X : Cx} (hc : X.calm = true) (hu : X.A.units + 64 < cLine) : CallR X (.builtin "min") (rExi false X.K) := by
  intro pins s σ H xs us Q I r h
  obtain ⟨a, n, ns, rfl, hs, q⟩ := h
  obtain ⟨u, rfl, ru⟩ := vals1 r
  cases (show u = Value.ref a from ru)
  have q : Q (.int (PySem.W.minOf n ns)) H := by rw [minOf_eq]; exact q
  have fin : ∀ {h' : Heap} {tk : Nat} (v : Value), PySem.W.Holds h' v (PySem.W.minOf n ns) → (∀ b o, s.heap.get? b = some o → h'.get? b = some o) → EP X pins σ Q v { s with heap := h', toks := tk } := fun v hv hk => by
    obtain ⟨t, rfl⟩ := PySem.W.int_of_holds hv
    exact ⟨.int _, H, I.kept hk, ⟨t, rfl⟩, q⟩
  rcases hs with hs | hs
  · obtain ⟨its, rv, hl, _⟩ := I.list hs
    exact PySem.W.min_list_datum (I.ok.hd hc) hl.isList (by have := PySem.W.HoldAll.of_ints (h := s.heap) rv.ints; simpa using this) (dep_i hu) fun i v h' tk _ hv hk => fin v hv hk
  · obtain ⟨its, rv, hl, _⟩ := I.tuple hs
    exact PySem.W.min_tuple_datum (I.ok.hd hc) hl (by have := PySem.W.HoldAll.of_ints (h := s.heap) rv.ints; simpa using this) (dep_i hu) fun i v h' tk _ hv hk => fin v hv hk
theorem cr_maxi {X : Cx} (hc : X.calm = true) (hu : X.A.units + 64 < cLine) : CallR X (.builtin "max") (rExi true X.K) := by
  intro pins s σ H xs us Q I r h
  obtain ⟨a, n, ns, rfl, hs, q⟩ := h
  obtain ⟨u, rfl, ru⟩ := vals1 r
  cases (show u = Value.ref a from ru)
  have q : Q (.int (PySem.W.maxOf n ns)) H := by rw [maxOf_eq]; exact q
  have fin : ∀ {h' : Heap} {tk : Nat} (v : Value), PySem.W.Holds h' v (PySem.W.maxOf n ns) → (∀ b o, s.heap.get? b = some o → h'.get? b = some o) → EP X pins σ Q v { s with heap := h', toks := tk } := fun v hv hk => by
    obtain ⟨t, rfl⟩ := PySem.W.int_of_holds hv
    exact ⟨.int _, H, I.kept hk, ⟨t, rfl⟩, q⟩
  rcases hs with hs | hs
  · obtain ⟨its, rv, hl, _⟩ := I.list hs
    exact PySem.W.max_list_datum (I.ok.hd hc) hl.isList (by have := PySem.W.HoldAll.of_ints (h := s.heap) rv.ints; simpa using this) (dep_i hu) fun i v h' tk _ hv hk => fin v hv hk
  · obtain ⟨its, rv, hl, _⟩ := I.tuple hs
    exact PySem.W.max_tuple_datum (I.ok.hd hc) hl (by have := PySem.W.HoldAll.of_ints (h := s.heap) rv.ints; simpa using this) (dep_i hu) fun i v h' tk _ hv hk => fin v hv hk
theorem cr_min3 {X : Cx} (hc : X.calm = true) (hu : X.A.units + 64 < cLine) : CallR X (.builtin "min") (rEx2 false X.K) := fun pins s σ H xs us Q I r h => h.elim (cr_min2 hc hu pins s σ H xs us Q I r) (cr_mini hc hu pins s σ H xs us Q I r)
theorem cr_max3 {X : Cx} (hc : X.calm = true) (hu : X.A.units + 64 < cLine) : CallR X (.builtin "max") (rEx2 true X.K) := fun pins s σ H xs us Q I r h => h.elim (cr_max2 hc hu pins s σ H xs us Q I r) (cr_maxi hc hu pins s σ H xs us Q I r)
theorem ext_i {mx : Bool} {κ : Gh} {s : Hs} {H : Hp} {v : V} {d : D} {Q : VK} {E : Nat → Hp → Prop} {n : Int} {ns : List Int} (h1 : HR Γ.X.K Γ.S κ s H) (r : Rep Γ.X.K κ s.nx H v d) (h : (seqD d s).bind intsD = some (n :: ns))
    (g : Pre Γ.X.K Γ.S (RepD Γ.X.K) Q E κ s.nx H (.ok (.int (if mx then maxI n ns else minI n ns)) s)) : rEx2 mx Γ.X.K [v] H Q := by
  cases hq : seqD d s with
  | none => rw [hq] at h; cases h
  | some l =>
    rw [hq] at h
    obtain ⟨aa, vs, rfl, q1, q2⟩ := seq_of h1 r hq
    obtain ⟨rfl, _⟩ := intsD_reps h q2
    exact .inr ⟨aa, n, ns, rfl, q1, g.give h1 .int⟩
theorem ext_give {mx : Bool} {κ : Gh} {s : Hs} {H : Hp} {v : V} {d : D} {Q : VK} {E : Nat → Hp → Prop} {p : Int × Int} {ps : List (Int × Int)} (h1 : HR Γ.X.K Γ.S κ s H) (r : Rep Γ.X.K κ s.nx H v d) (h : (lstD d s).bind pairsD = some (p :: ps))
    (g : Pre Γ.X.K Γ.S (RepD Γ.X.K) Q E κ s.nx H (.ok (.tuple [.int (if mx then maxP p ps else minP p ps).1, .int (if mx then maxP p ps else minP p ps).2]) s)) : rExt mx Γ.X.K [v] H Q := by
  cases hq : lstD d s with
  | none => rw [hq] at h; cases h
  | some l =>
    rw [hq] at h
    obtain ⟨aa, vs, rfl, q1, q2⟩ := lst_of h1 r hq
    obtain ⟨q3, q4⟩ := prs_of q2 h
    refine ⟨aa, vs, p, ps, rfl, .inl (.inl q1), q3, fun i w hi he => ?_⟩
    obtain ⟨dd, e1, e2⟩ := q2.get2 hi
    rw [q4, List.getElem?_map, he] at e1
    cases e1
    exact g.give h1 e2
theorem ok_mn {p : Pos} (hc : Γ.X.calm = true) (hu : Γ.X.A.units + 64 < cLine) (hg : Gl Γ.X "min") (hm : Γ.X.mg "min" = none) (ha : OkE Γ a ca) (na : starEach [a] Γ.X.env = [(false, eval a Γ.X.env)]) : OkE Γ (.Call (.Name "min" p) [a] [] pos) (.xf .mn ca .nil) := by
  intro σ ρ κ s H Q hr sl p
  rw [xf0 (fun _ _ => rfl)] at p
  refine twE (pe_callB (cr_min3 hc hu) hg hm (by decide +kernel) (pa_cons peW pa_nil na) (by decide) (by decide) na rfl) ?_
  refine ha.use hr sl p fun d s1 κ1 H1 v t1 h1 sl1 r1 p1 => ?_
  simp only [xE] at p1
  split at p1
  · rename_i q qs hq
    exact ext_i (mx := false) h1 r1 hq p1
  · split at p1
    · rename_i q qs hq
      exact .inl (ext_give (mx := false) h1 r1 hq p1)
    · exact p1.elim
theorem ok_mx {p : Pos} (hc : Γ.X.calm = true) (hu : Γ.X.A.units + 64 < cLine) (hg : Gl Γ.X "max") (hm : Γ.X.mg "max" = none) (ha : OkE Γ a ca) (na : starEach [a] Γ.X.env = [(false, eval a Γ.X.env)]) : OkE Γ (.Call (.Name "max" p) [a] [] pos) (.xf .mx ca .nil) := by
  intro σ ρ κ s H Q hr sl p
  rw [xf0 (fun _ _ => rfl)] at p
  refine twE (pe_callB (cr_max3 hc hu) hg hm (by decide +kernel) (pa_cons peW pa_nil na) (by decide) (by decide) na rfl) ?_
  refine ha.use hr sl p fun d s1 κ1 H1 v t1 h1 sl1 r1 p1 => ?_
  simp only [xE] at p1
  split at p1
  · rename_i q qs hq
    exact ext_i (mx := true) h1 r1 hq p1
  · split at p1
    · rename_i q qs hq
      exact .inl (ext_give (mx := true) h1 r1 hq p1)
    · exact p1.elim
end
end Ev

set_option Elab.async false
set_option linter.all false
set_option maxRecDepth 100000
set_option maxHeartbeats 2000000
namespace Ev
open PySem PySem.Spec PyProof.Rows L2

/-! ### the pieces are of the text: what is looked at -/
structure Ck where
  N : List Str
  fn : List (Str × Nat)
  cls : List (Str × Nat)
  mth : List (Str × Nat)
  fld : List (Str × Nat)
  exc : List (Str × Nat)
  glb : List (Str × Int)
  gls : List (Str × Str)
  isi : List (Str × Nat)
  blt : List Str
  /-- _law_told's name, where a lambda may stand -/
  told : Option Str

def visB (sc : Scope) (x : Str) : Bool := match sc.names.lookup x with
  | some .local => true
  | some .cell => true
  | some .free => true
  | _ => false
def locB (sc : Scope) (x : Str) : Bool := match sc.names.lookup x with
  | some .local => true
  | some .cell => true
  | _ => false
def glbB (sc : Scope) (x : Str) : Bool := match sc.names.lookup x with
  | some .globalImplicit => true
  | _ => false
def fineX (x : Str) : Bool := !(x == ("__debug__" : Str)) && !(x == ("__classdict__" : Str)) && !(x == ("__name__" : Str))
def bopB : Bop → Operator → Bool
  | .add, .Add => true
  | .sub, .Sub => true
  | .mul, .Mult => true
  | .fdiv, .FloorDiv => true
  | .mod, .Mod => true
  | .xor, .BitXor => true
  | .pow, .Pow => true
  | _, _ => false
def copB : Cop → CmpOp → Bool
  | .lt, .Lt => true
  | .le, .LtE => true
  | .gt, .Gt => true
  | .ge, .GtE => true
  | .eq, .Eq => true
  | .ne, .NotEq => true
  | .isN, .Is => true
  | .notN, .IsNot => true
  | .mem, .In => true
  | .nmem, .NotIn => true
  | _, _ => false
/-- a built-in's name and value -/
def biName : Bi → Option (Str × Value)
  | .len => some ("len", .builtin "len")
  | .abs => some ("abs", .builtin "abs")
  | .int => some ("int", .type "int")
  | .sum => some ("sum", .builtin "sum")
  | .max => some ("max", .builtin "max")
  | .min => some ("min", .builtin "min")
  | .tuple => some ("tuple", .type "tuple")
  | .all => some ("all", .builtin "all")
  | .any => some ("any", .builtin "any")
  | .lenset => none
def nbName : Nb → Option (Str × Value)
  | .list => some ("list", .type "list")
  | .sorted => some ("sorted", .builtin "sorted")
  | _ => none
def twoName : Two → Str × Str
  | .tupr => ("tuple", "range")
  | .lenset => ("len", "set")
  | _ => ("", "")
/-- what is called with one value -/
def twoOne : Two → Option Str
  | .rngv => some "range"
  | _ => none
/-- what is called with default= -/
def twoKw : Two → Option Str
  | .maxd => some "max"
  | .mind => some "min"
  | _ => none
def nst : Expr → Bool
  | .Starred _ _ => false
  | _ => true
def plainIxB : Expr → Bool
  | .Slice _ _ _ _ => false
  | _ => true
/-- what a method is called on -/
def objB : Expr → Bool
  | .Name _ _ => true
  | .Attribute _ _ _ => true
  | .Subscript _ _ _ => true
  | .Call _ es _ _ => !es.isEmpty
  | _ => false
theorem star_ok {e : Expr} {es : List Expr} {env : PySem.Env} (h : nst e = true) : starEach (e :: es) env = (false, eval e env) :: starEach es env := by
  cases e <;> first | rfl | cases h
theorem star_any {pos : Pos} {env : PySem.Env} : ∀ {es : List Expr}, es.all nst = true → (backTo pos (starEach es env)).any (·.1) = false
  | [], _ => rfl
  | e :: es, h => by
    rw [List.all_cons] at h
    obtain ⟨h1, h2⟩ := Bool.and_eq_true_iff.mp h
    rw [star_ok h1]
    show (false || (backTo pos (starEach es env)).any (·.1)) = false
    rw [star_any h2]
    rfl
theorem ix_ok {e : Expr} (h : plainIxB e = true) : PlainIx e := by
  cases e <;> first | (intro o i; rfl) | cases h
theorem base_ok {X : Cx} {e : Expr} {x : Str} (h : objB e = true) : attributeBase e x X.env (eval e X.env) = eval e X.env := by
  cases e with
  | Call f es kw p =>
    cases es with
    | nil => cases h
    | cons a r => cases f <;> rfl
  | _ => first | rfl | cases h
theorem mc {o : Expr} {m : Str} {apos pos : Pos} {env : PySem.Env} {ov : Value} {n : Nat} {args : List (Bool × Sem Value)} {kws : List (Option Str × Sem Value)} (h1 : methodCallForm n args kws = true) (h2 : (apos.endLine == pos.line) = true) :
    methodCall o m apos pos env ov n args kws = (do
      let (f, first) ← holding [ov] (getMethod ov m (do return (← importBound o env).getD true))
      callWith pos f first args kws) := by
  unfold methodCall calleeOf methodCallPos
  rw [h1]
  simp only [Bool.not_true, Bool.false_or, h2, if_true]
  rfl
theorem form_ok {pos : Pos} {env : PySem.Env} {es : List Expr} (h : es.all nst = true) (hl : es.length < 30) : methodCallForm (es.length + ([] : List Keyword).length) (backTo pos (starEach es env)) (backToKw pos (keywordEach [] env)) = true := by
  unfold methodCallForm
  have e : (backTo pos (starEach es env)).all (!·.1) = true := by
    have := star_any (pos := pos) (env := env) h
    rw [List.any_eq_false] at this
    rw [List.all_eq_true]
    intro x hx
    have z := this x hx
    cases q : x.1
    · rfl
    · rw [q] at z; exact absurd rfl z
  rw [e]
  show (true && true && decide (es.length + 0 + 0 < 30)) = true
  simp [hl]
theorem meth_ok {X : Cx} {o : Expr} {m : Str} {es : List Expr} {pos apos : Pos} (h : objB o = true) (hs : es.all nst = true) (hl : es.length < 30) (h2 : (apos.endLine == pos.line) = true) : eval (.Call (.Attribute o m apos) es [] pos) X.env = (do
      let ov ← eval o X.env
      standAt apos.atName
      let (f, first) ← holding [ov] (getMethod ov m (do return (← importBound o X.env).getD true))
      callWith pos f first (backTo pos (starEach es X.env)) (backToKw pos (keywordEach [] X.env))) := by
  show (do
    let ov ← attributeBase o m X.env (eval o X.env)
    standAt apos.atName
    methodCall o m apos pos X.env ov (es.length + ([] : List Keyword).length) (backTo pos (starEach es X.env)) (backToKw pos (keywordEach [] X.env))) = _
  rw [base_ok h]
  simp only [mc (form_ok hs hl) h2]
theorem behind_ok {X : Cx} {op : CmpOp} {e : Expr} (h : behindInMarks op e = false) : behindInMarks op e = false := h
end Ev

set_option Elab.async false
set_option linter.all false
set_option maxRecDepth 100000
set_option maxHeartbeats 2000000
namespace Ev
open PySem PySem.Spec PyProof.Rows L2
/-! ### what an exception is told as: _law_told(lambda: e) -/
/-- the clauses, read off the text -/
def hdsL : List ExceptHandler → Option (List (Str × Str))
  | [] => some []
  | .ExceptHandler (some (.Name e _)) none [.Return (some (.Constant (.str r) _ _)) _] _ :: t => match hdsL t with
    | some l => some ((e, r) :: l)
    | none => none
  | _ => none
def toldL (a : Str) : List Stmt → Option (List (Str × Str))
  | [.Try [.Return (some (.Call (.Name x _) [] [] _)) _] (h :: hs) [] [] _] => if x = a then hdsL (h :: hs) else none
  | _ => none
/-- the first clause that catches it -/
def FirstM (K : PySem.W.Frag) (mg : Str → Option Value) (cls : Value) : List (Str × Str) → Str → Prop
  | [], _ => False
  | (e, r) :: t, nm => ∃ C b, mg e = some (.ref C) ∧ PySem.W.exmOne K cls (.ref C) = some b ∧ (b = true → r = nm) ∧ (b = false → FirstM K mg cls t nm)
theorem hds_ok {X : Cx} : ∀ (hds : List ExceptHandler) (l : List (Str × Str)), hdsL hds = some l → (∀ e r, (e, r) ∈ l → Gl X e ∧ (e == ("__debug__" : Str)) = false) → (∀ e r, (e, r) ∈ l → ∃ C, X.mg e = some (.ref C)) →
    ∃ ts, HdsOk X hds ts ∧ ∀ (W : WX) (D : Ends) (cls : Value) (d : Option Addr) (σ : L2.St) (H : Hp) (nm : Str), FirstM X.K X.mg cls l nm → D.rt (.str nm) H → wMany X.K W D ts cls d σ H := by
  intro hds
  induction hds with
  | nil =>
    intro l h _ _
    cases h
    exact ⟨[], .nil, fun W D cls d σ H nm f _ => f.elim⟩
  | cons h0 t ih =>
    intro l h hg hm
    unfold hdsL at h
    split at h
    · rename_i z; cases z
    · rename_i e1 p1 r1 j1 p2 p3 p4 t1 z
      cases z
      cases q : hdsL t with
      | none => rw [q] at h; cases h
      | some l1 =>
        rw [q] at h
        cases h
        obtain ⟨ts, h1, h2⟩ := ih l1 q (fun e r z => hg e r (List.mem_cons_of_mem _ z)) (fun e r z => hm e r (List.mem_cons_of_mem _ z))
        obtain ⟨g1, g2⟩ := hg _ _ List.mem_cons_self
        obtain ⟨C, hC⟩ := hm _ _ List.mem_cons_self
        refine ⟨_, .cons (c := .ref C) ⟨g1, g2, .inl hC⟩ (fun a oe cls d pn _ _ => pss_one (ps_ret pe_str)) h1, fun W D cls d σ H nm f hD => ?_⟩
        obtain ⟨C', b, e1, e2, e3, e4⟩ := f
        have : C' = C := by rw [hC] at e1; cases e1; rfl
        subst this
        refine ⟨b, e2, fun hb a _ => ?_, fun hb => h2 W D cls d σ H nm (e4 hb) hD⟩
        rw [← e3 hb] at hD
        exact hD
    · cases h
/-- told: try: return a() / except ..: return .. -/
def TTm (K : PySem.W.Frag) (mg : Str → Option Value) (l : List (Str × Str)) : (XK → Hp → VK → Prop) → Hp → VK → Prop := fun tl H Q =>
  tl (fun cls _ H' => ∃ nm, FirstM K mg cls l nm ∧ Q (.str nm) H') H Q
theorem told_givesM {X : Cx} {Ng : List Str} {x a q : Str} {sg : Scope} {g : Addr} {cdg : Value} {body : List Stmt} {l : List (Str × Str)} (hb : toldL a body = some l)
    (hg : ∀ e r, (e, r) ∈ l → sg.names.lookup e = some .globalImplicit ∧ (e == ("__debug__" : Str)) = false) (hm : ∀ e r, (e, r) ∈ l → ∃ C, X.mg e = some (.ref C)) (h0 : ∀ f : Addr, (L2.start Ng [V.ref f])[0]? = some (some (V.ref f))) :
    LamX.GivesTo X Ng x sg g cdg body a q (TTm X.K X.mg l) := by
  unfold toldL at hb
  split at hb
  · rename_i x1 p1 p2 p3 h1 hs1 p4
    split at hb
    · rename_i hx
      subst hx
      intro f c' s H Q tl act hc h
      obtain ⟨ts, hh, hw⟩ := hds_ok (X := (cxOf C8.CX0 X.prog X.w X.K X.mg X.base Ng x sg g cdg X.A X.stack s H C8.E0).nox) (h1 :: hs1) l hb hg hm
      refine ⟨_, pss_one (ps_try_many (X := (cxOf C8.CX0 X.prog X.w X.K X.mg X.base Ng x sg g cdg X.A X.stack s H C8.E0).nox)
          (tb := fun W D σ H => ∃ Ech : XK, (∀ cls d σ' H', Ech cls d H' → W cls d σ' H') ∧ σ[0]? = some (some (.ref f)) ∧ H c' = some (LamX.CodeO c' q) ∧ tl Ech H D.rt)
          rfl rfl LamX.takes0 (fun W pn xe tk _ => ?_) hh), ?_⟩
      · refine ⟨fun pins s' σ H' D I h' => ?_⟩
        obtain ⟨Ech, hW, h1, h2, h3⟩ := h'
        have hp := act W pn xe Ech p1 p2 tk hW
        have hq := pss_one (ps_ret (pos := p3) hp)
        exact hq.run pins s' σ H' D I ⟨h1, h2, h3⟩
      · exact ⟨fun cls _ H' => ∃ nm, FirstM X.K X.mg cls l nm ∧ Q (.str nm) H', fun cls d σ' H' ⟨nm, e1, e2⟩ => hw _ _ _ _ _ _ _ e1 e2, h0 f, hc, h⟩
    · cases hb
  · cases hb
/-! .. over the evaluator -/
theorem HR.ext {K : PySem.W.Frag} {G : Sig} {κ : Gh} {s : Hs} {H H1 : Hp} (R : HR K G κ s H) (e : LamX.ExtN H H1) (tb : LamX.Tabs G.tabs H1) : HR K G κ s H1 ∧ Tr κ s.nx H κ s.nx H1 := by
  have nt : ∀ u : HO, ((∃ xs, u = .lst xs) ∨ (∃ xs, u = .dK xs) ∨ (∃ xs, u = .dT xs) ∨ ∃ c d xs, u = .ins c d xs) → NoTbl u := fun u h ps z => by
    subst z
    rcases h with ⟨_, w⟩ | ⟨_, w⟩ | ⟨_, w⟩ | ⟨_, _, _, w⟩ <;> cases w
  have cl : ∀ n, n < s.nx → H1 (κ.f n) = H (κ.f n) := fun n hn => by
    obtain ⟨u, hu⟩ := R.some hn
    rw [hu]
    by_cases z : ∃ o w, u = .frz o w
    · obtain ⟨o, w, rfl⟩ := z
      exact e _ _ hu nt_frz
    · exact e _ _ hu (nt u (R.kind hn (fun o w q => z ⟨o, w, by rw [hu] at q; exact Option.some.inj q⟩) u hu))
  have t : Tr κ s.nx H κ s.nx H1 := ⟨Nat.le_refl _, fun _ _ => rfl, rfl, fun r hr => by
    rcases R.res r hr with ⟨⟨xs, hx⟩, _⟩ | ⟨o, u, hx⟩
    · rw [hx]
      exact e _ _ hx nt_lst
    · rw [hx]
      exact e _ _ hx nt_frz, fun a o h z n => ⟨e a o h z, n⟩⟩
  refine ⟨⟨fun n hn => (R.ok n hn).tr t (cl n hn), R.inj, fun r hr => ?_, tb⟩, t⟩
  rw [t.rk r hr]
  exact R.res r hr
abbrev Set0.lam (Γ : Set0) (A : Around) (outer : List PySem.Env) (s : Shared) (H : Hp) (E : XK) (scope : Scope) (f c' : Addr) : Set0 :=
  { Γ with X := LamX.lamCx Γ.X A outer s H E scope f c', W := fun cls d _ H => E cls d H }
/-- the evaluator, as a reading -/
def tEv (K : PySem.W.Frag) (S : Sig) (P : Prog) (T : Nat → List D → Hs → Res D) (exV : Nat → Value) (c : C) : XK → TE := fun E σ H Q =>
  ∃ ρ κ s, HR K S κ s H ∧ Slots K κ s.nx H σ ρ ∧ Pre K S (RepD K) Q (fun e H' => E (exV e) none H') κ s.nx H (evE P T c ρ s)
/-- _law_told's def, and what stands ready for a lambda -/
structure ToldF (Γ : Set0) (k : Nat) (x : Str) : Prop where
  ex : ∃ (g : Addr) (st : Stmt) (fd : FuncData) (Ng : List Str) (a : Str) (l : List (Str × Str)) (c P : Addr), Γ.X.mg x = some (.ref g) ∧ Fun Γ.X.K x x st g fd ∧ Binds Γ.X.K fd [a] [] ∧ FnScope Ng [a] (defScope st) ∧ Ng[0]? = some a ∧ (∀ f : Addr, (L2.start Ng [V.ref f])[0]? = some (some (V.ref f))) ∧ Vis (defScope st) a ∧
    toldL a (defBody st) = some l ∧ (∀ e r, (e, r) ∈ l → (defScope st).names.lookup e = some .globalImplicit ∧ (e == ("__debug__" : Str)) = false) ∧ (∀ e r, (e, r) ∈ l → ∃ C, Γ.X.mg e = some (.ref C)) ∧
    (∀ i nm, Γ.P.told i = some nm → FirstM Γ.X.K Γ.X.mg (Γ.exV i) l nm) ∧ (a == ("__debug__" : Str)) = false ∧ (a == ("__classdict__" : Str)) = false ∧
    LamX.TabB Γ.X.base Γ.X.mg c P ∧ Γ.X.env.code = .ref c ∧ (P, Γ.X.env.qual ++ "<lambda>") ∈ Γ.S.tabs ∧ (∀ p ∈ Γ.S.tabs, p.1 = P → p.2 = Γ.X.env.qual ++ "<lambda>")
  room : Room (k + 2) Γ.X.A
theorem ok_told {Γ : Set0} {k : Nat} {x : Str} {body : Expr} {scope : Scope} {ca : C} {p lpos pos : Pos} (TF : ToldF Γ k x) (hg : Gl Γ.X x) (hd : (x == ("__debug__" : Str)) = false) (L : LamX.LamS Γ.X.env.scope scope)
    (hb : ∀ A outer s H E f c', Room k (A.deeper (LamX.lamEnv Γ.X scope s.heap.objs.size f c')) → OkE (Γ.lam A outer s H E scope f c') body ca) :
    OkE Γ (.Call (.Name x p) [.Lambda ⟨[], [], none, [], [], none, []⟩ body scope lpos] [] pos) (.told ca) := by
  obtain ⟨⟨g, st, fd, Ng, a, l, c, P, hm, F, bn, Sg, hN, h0, hva, hl, hgl, hcl, hpt, hda, hca, TB, hcode, hmT, hu⟩, hroom⟩ := TF
  obtain ⟨oc, od, kV, doc, pm, an, cdv, ct, osl, rfl, lk, hcd⟩ := F.ex
  intro σ ρ κ s H Q hr sl p
  unfold evE at p
  refine twE (LamX.pe_lamcall (T := Γ.S.tabs) (TT := TTm Γ.X.K Γ.X.mg l) (t := tEv Γ.X.K Γ.S Γ.P Γ.T Γ.exV ca) (k := k) hg hm F.kp lk hcd bn Sg hN hva (told_givesM hl hgl hcl h0) TB hcode hmT hu hroom L rfl (fun _ _ _ _ _ => rfl) (fun A outer s1 H1 E f c' hr1 => ?_) hd hda hca) ⟨hr.tb, fun H1 ex tb1 => ?_⟩
  · refine ⟨fun pins s2 σ2 H2 Q2 I h => ?_⟩
    obtain ⟨ρ2, κ2, hs2, h1, h2, h3⟩ := h
    exact hb A outer s1 H1 E f c' hr1 σ2 ρ2 κ2 hs2 H2 Q2 h1 h2 h3 pins s2 I
  · obtain ⟨hr1, t1⟩ := hr.ext ex tb1
    refine ⟨ρ, κ, s, hr1, sl.tr t1, ?_⟩
    have p1 := Pre.tr t1 p
    unfold toldR at p1
    cases q : evE Γ.P Γ.T ca ρ s with
    | ok d s1 => rw [q] at p1; exact p1
    | stuck => rw [q] at p1; exact p1.elim
    | exc i s1 =>
      rw [q] at p1
      dsimp only at p1
      intro κ' H' t' h'
      cases q2 : Γ.P.told i with
      | none => rw [q2] at p1; exact p1.elim
      | some nm =>
        rw [q2] at p1
        exact ⟨nm, hpt i nm q2, p1 κ' H' _ t' h' .str⟩
end Ev

set_option Elab.async false
set_option linter.all false
set_option maxRecDepth 100000
set_option maxHeartbeats 2000000
namespace Ev
open PySem PySem.Spec PyProof.Rows L2

section
variable {Γ : Set0}
variable {a b c e : Expr} {ca cb cc : C} {pos : Pos}
def TWo (X : Cx) (f : Value → Value → Sem Value) : R2 := fun x y H Q => ∀ pins s σ v u, Inv X pins σ H s → RelV x v → RelV y u → wpAny (model X.prog X.w) X.A (f v u) (EP X pins σ Q) X.xe s
theorem opW {X : Cx} {f : Value → Value → Sem Value} : OpR X f (TWo X f) := fun pins s σ H x y v u Q I rx ry h => h pins s σ v u I rx ry
theorem chain_rd {op op' : CmpOp} {o o' : Cop} (ho : OpX (Γ := Γ) (compareOp op) (cmpE o)) (ho' : OpX (Γ := Γ) (compareOp op') (cmpE o')) (ha : OkE Γ a ca) (hb : OkE Γ b cb) (hc : OkE Γ c cc) {σ : St} {ρ : Env} {κ : Gh} {s : Hs} {H : Hp} {Q : VK}
    (hr : HR Γ.X.K Γ.S κ s H) (sl : Slots Γ.X.K κ s.nx H σ ρ) (p : Pre Γ.X.K Γ.S (RepD Γ.X.K) Q (Γ.E σ) κ s.nx H (evE Γ.P Γ.T (.cmp2 o o' ca cb cc) ρ s)) :
    tChain (TWo Γ.X (compareOp op)) (TWo Γ.X (compareOp op')) (TW Γ.X a) (TW Γ.X b) (TW Γ.X c) σ H Q := by
  unfold evE at p
  refine ha.use hr sl p fun d s1 κ1 H1 x t1 h1 sl1 r1 p1 => ?_
  refine hb.use h1 sl1 p1 fun d2 s2 κ2 H2 y t2 h2 sl2 r2 p2 => ?_
  intro pins s0 σ' v u I rx ry
  refine ho pins s0 σ' κ2 s2 H2 x y d d2 v u _ I rx ry h2 (r1.tr t2) r2 ?_
  refine Pre.noexc (E := Γ.E σ) ?_ (cmp_nx _ _ _ _)
  refine Pre.bind p2 fun r s3 κ3 H3 z e3 t3 h3 r3 p3 => ?_
  cases r with
  | bool k =>
    obtain rfl := bl_of r3
    refine ⟨k, rfl, ?_⟩
    cases k with
    | true =>
      rw [if_pos rfl]
      refine hc.use h3 (sl2.tr t3) p3 fun d4 s4 κ4 H4 w t4 h4 sl4 r4 p4 => ?_
      intro pins s0 σ' v u I rx ry
      exact ho' pins s0 σ' κ4 s4 H4 y w d2 d4 v u Q I rx ry h4 ((r2.tr t3).tr t4) r4 (p4.noexc (cmp_nx _ _ _ _))
    | false =>
      rw [if_neg (by decide)]
      exact p3.give h3 .bl
  | _ => exact p3.elim
theorem ok_cmp2 {op op' : CmpOp} {o o' : Cop} (ho : OpX (Γ := Γ) (compareOp op) (cmpE o)) (ho' : OpX (Γ := Γ) (compareOp op') (cmpE o')) (ha : OkE Γ a ca) (hb : OkE Γ b cb) (hc : OkE Γ c cc) (hm : lastMarks [op, op'] [b, c] = false) : OkE Γ (.Compare a [op, op'] [b, c] pos) (.cmp2 o o' ca cb cc) := by
  intro σ ρ κ s H Q hr sl p
  exact twE (pe_chain opW opW peW peW peW hm) (chain_rd ho ho' ha hb hc hr sl p)
theorem ok_cmp2T {op op' : CmpOp} {o o' : Cop} (ho : OpX (Γ := Γ) (compareOp op) (cmpE o)) (ho' : OpX (Γ := Γ) (compareOp op') (cmpE o')) (ha : OkE Γ a ca) (hb : OkE Γ b cb) (hc : OkE Γ c cc) (hm : lastMarks [op, op'] [b, c] = false) : OkT Γ (.Compare a [op, op'] [b, c] pos) (.cmp2 o o' ca cb cc) := by
  intro σ ρ κ s H Q hr sl p
  exact twT (pt_chain opW opW peW peW peW hm) (chain_rd ho ho' ha hb hc hr sl p)
end

/-! ### the look, and that it is enough -/
/-- what a test may be, but the shapes of their own -/
def genB : Expr → Bool
  | .Name _ _ => true
  | .Call _ _ _ _ => true
  | .Constant _ _ _ => true
  | .Subscript _ _ _ => true
  | .Attribute _ _ _ => true
  | _ => false
theorem gen_ok {X : Cx} {e : Expr} (h : genB e = true) : ∀ whole, isTrue e X.env whole = (do let v ← whole; standAt e.pos; holding [v] (truthy v)) := by
  intro whole
  cases e <;> first | rfl | cases h
def foldB : Expr → Bool
  | .Set _ _ _ => false
  | _ => true
theorem fold_ok {X : Cx} {e : Expr} (h : foldB e = true) : ∀ x, foldedSetIterable e X.env x = pure x := by
  intro x
  cases e <;> first | rfl | cases h

theorem fold_okA {e : Expr} (h : foldB e = true) : ∀ env x, foldedSetIterable e env x = pure x := by
  intro env x
  cases e <;> first | rfl | cases h
/-- no conditional expression as a test -/
def tT : C → Bool
  | .not a => tT a
  | .and a b => tT a && tT b
  | .or a b => tT a && tT b
  | .ife _ _ _ => false
  | .newT _ => false
  | .newC _ => false
  | .bin _ _ _ => false
  | .neg _ => false
  | .tup _ => false
  | .cst _ => false
  | .glob _ _ => false
  | .dict0 => false
  | .dict1 => false
  | .lck _ a => tT a
  | _ => true
def isT : C → Bool
  | .cst (.bool true) => true
  | _ => false
theorem isT_ok {c : C} (h : isT c = true) : c = .cst (.bool true) := by
  unfold isT at h
  split at h
  · rfl
  · cases h
def nbOp : Nb → Operator → Bool
  | .cat, .Add => true
  | .rep, .Mult => true
  | _, _ => false

def isNil : C → Bool
  | .nil => true
  | _ => false
theorem isNil_ok {c : C} (h : isNil c = true) : c = .nil := by cases c <;> first | rfl | cases h
def revS : Expr → Bool
  | .Slice none none (some (.UnaryOp .USub (.Constant (.int j) _ _) _)) _ => decide (j = 1)
  | _ => false
theorem revS_ok {e : Expr} (h : revS e = true) : ∃ k p1 p2 p3, e = .Slice none none (some (.UnaryOp .USub (.Constant (.int 1) k p1) p2)) p3 := by
  unfold revS at h
  split at h
  · have e := of_decide_eq_true h
    subst e
    exact ⟨_, _, _, _, rfl⟩
  · cases h
section
variable (Y : Ck)
mutual
/-- a target of names -/
def chkG : C → Scope → Expr → Bool
  | .tslot i, sc, .Name x _ => decide (Y.N[i]? = some x) && locB sc x
  | .ttup ts, sc, .Tuple es _ _ => decide (tlen ts = es.length) && es.all nst && chkGs ts sc es
  | _, _, _ => false
def chkGs : C → Scope → List Expr → Bool
  | .nil, _, [] => true
  | .cons t r, sc, e :: es => chkG t sc e && chkGs r sc es
  | _, _, _ => false
end
end
/-- the parts of other forms: what they are of, what they are asked with -/
def xForm (Y : Ck) (w : Xt) (sc : Scope) (e : Expr) : Option (Expr × List Expr) :=
  match w, e with
  | .isC k, .Call (.Name f _) [a, .Name x _] [] _ => if decide (f = "isinstance") && (decide (f ∈ Y.blt) && (glbB sc f && (decide (Y.isi.lookup x = some k) && (glbB sc x && (fineX x && nst a))))) then some (a, []) else none
  | .isLT, .Call (.Name f _) [a, .Tuple [.Name l _, .Name t _] _ _] [] _ => if decide (f = "isinstance") && (decide (f ∈ Y.blt) && (glbB sc f && (decide (l = "list") && (decide (l ∈ Y.blt) && (glbB sc l && (decide (t = "tuple") && (decide (t ∈ Y.blt) && (glbB sc t && nst a)))))))) then some (a, []) else none
  | .get, .Call (.Attribute o m ap) [k] [] p => if decide (m = "get") && (objB o && ((ap.endLine == p.line) && nst k)) then some (o, [k]) else none
  | .get, .Call (.Attribute o m ap) [k, f] [] p => if decide (m = "get") && (objB o && ((ap.endLine == p.line) && (nst k && nst f))) then some (o, [k, f]) else none
  | .dix kvs, .Subscript (.Dict ks vs _) a _ => if dixB kvs ks vs && (!kvs.isEmpty && (decide (kvs.length ≤ 15) && plainIxB a)) then some (a, []) else none
  | .mn, .Call (.Name f _) [a] [] _ => if decide (f = "min") && (decide (f ∈ Y.blt) && (glbB sc f && nst a)) then some (a, []) else none
  | .mx, .Call (.Name f _) [a] [] _ => if decide (f = "max") && (decide (f ∈ Y.blt) && (glbB sc f && nst a)) then some (a, []) else none
  | _, _ => none
mutual
def chkE (Y : Ck) : C → Scope → Expr → Bool
  | .slot i, sc, .Name x _ => decide (Y.N[i]? = some x) && visB sc x && fineX x
  | .cst (.int i), _, .Constant (.int j) _ _ => decide (i = j)
  | .cst (.bool i), _, .Constant (.bool j) _ _ => i == j
  | .cst (.str i), _, .Constant (.str j) _ _ => decide (i = j)
  | .cst .none, _, .Constant .none _ _ => true
  | .bin o a b, sc, .BinOp l op r _ => bopB o op && chkE Y a sc l && chkE Y b sc r
  | .neg a, sc, .UnaryOp .USub x _ => chkE Y a sc x
  | .cmp o a b, sc, .Compare l [op] [r] _ => copB o op && !behindInMarks op r && chkE Y a sc l && chkE Y b sc r
  | .cmp2 o o' a b c, sc, .Compare l [op, op'] [m, r] _ => copB o op && copB o' op' && !lastMarks [op, op'] [m, r] && chkE Y a sc l && chkE Y b sc m && chkE Y c sc r
  | .not a, sc, .UnaryOp .Not x _ => chkE Y a sc x
  | .and a b, sc, .BoolOp .And (x :: y :: rest) pos => chkE Y a sc x && (if rest.isEmpty then chkE Y b sc y else chkE Y b sc (.BoolOp .And (y :: rest) pos))
  | .or a b, sc, .BoolOp .Or (x :: y :: rest) pos => chkE Y a sc x && (if rest.isEmpty then chkE Y b sc y else chkE Y b sc (.BoolOp .Or (y :: rest) pos))
  | .ife t a b, sc, .IfExp te ae be _ => tT t && chkE Y t sc te && chkE Y a sc ae && chkE Y b sc be
  | .tup as, sc, .Tuple es _ _ => chkA Y as sc es
  | .call f as, sc, .Call (.Name x _) es [] _ => decide (Y.fn.lookup x = some f) && glbB sc x && fineX x && es.all nst && chkA Y as sc es
  | .told a, sc, .Call (.Name x _) [.Lambda ⟨[], [], none, [], [], none, []⟩ body scope _] [] _ => decide (Y.told = some x) && glbB sc x && fineX x && LamX.lamSB sc scope && chkE { Y with told := none } a scope body
  | .make k as, sc, .Call (.Name x _) (e :: es) [] _ => decide (Y.cls.lookup x = some k) && glbB sc x && fineX x && (e :: es).all nst && chkA Y as sc (e :: es)
  | .meth m o as, sc, .Call (.Attribute oe x apos) es [] pos => decide (Y.mth.lookup x = some m) && objB oe && (apos.endLine == pos.line) && decide (es.length < 30) && es.all nst && chkE Y o sc oe && chkA Y as sc es
  | .bcall b as, sc, .Call (.Name x _) (e :: es) [] _ => (match biName b with | some (y, _) => decide (x = y) | none => false) && decide (x ∈ Y.blt) && glbB sc x && fineX x && (e :: es).all nst && chkA Y as sc (e :: es)
  | .ix a i, sc, .Subscript o j _ => plainIxB j && chkE Y a sc o && chkE Y i sc j
  | .fld o f, sc, .Attribute oe x _ => decide (Y.fld.lookup x = some f) && objB oe && chkE Y o sc oe
  | .slice a lo hi, sc, .Subscript o (.Slice l u st _) _ => st.isNone && chkE Y a sc o && chkO Y lo sc l && chkO Y hi sc u
  | .rev a, sc, .Subscript o sl _ => revS sl && chkE Y a sc o
  | .bmeth m o as, sc, .Call (.Attribute oe x apos) es [] pos => decide (x = (bmName m).1) && objB oe && (apos.endLine == pos.line) && decide (es.length < 30) && es.all nst && chkE Y o sc oe && chkA Y as sc es
  | .glob x (.int i), sc, .Name y _ => decide (x = y) && decide (Y.glb.lookup y = some i) && glbB sc y && fineX y
  | .two w as, sc, .Call (.Name x _) [e] [⟨nm, d, _⟩] _ => decide (twoKw w = some x) && decide (nm = some "default") && decide (x ∈ Y.blt) && glbB sc x && fineX x && nst e && chkA Y as sc [e, d]
  | .two w as, sc, .Call (.Name x _) [e] [] _ => (decide (twoOne w = some x) && decide (x ∈ Y.blt) && glbB sc x && nst e && chkA Y as sc [e]) || (match e with
    | .Call (.Name y _) [e2] [] _ => decide (twoKw w = none) && decide (twoOne w = none) && decide (x = (twoName w).1) && decide (y = (twoName w).2) && decide (x ∈ Y.blt) && decide (y ∈ Y.blt) && glbB sc x && glbB sc y && nst e2 && chkA Y as sc [e2]
    | _ => false)
  | .dict0, _, .Dict [] [] _ => true
  | .dict1, _, .Dict [] [] _ => true
  | .glob x (.str z), sc, .Name y _ => decide (x = y) && decide (Y.gls.lookup y = some z) && glbB sc y && fineX y
  | .xf w o as, sc, e => (match xForm Y w sc e with
    | some (oe, es) => chkE Y o sc oe && chkA Y as sc es
    | none => false)
  | .lck _ a, sc, .Compare l os rs p => chkE Y a sc (.Compare l os rs p)
  | .lck _ a, sc, .Call l os rs p => chkE Y a sc (.Call l os rs p)
  | .newT n, sc, e => chkN Y n sc e
  | .newC n, sc, e => chkN Y n sc e
  | _, _, _ => false
def chkN (Y : Ck) : C → Scope → Expr → Bool
  | .lst as, sc, .List es _ => chkA Y as sc es
  | .nb b as, sc, .Call (.Name x _) (e :: es) [] _ => (match nbName b with | some (y, _) => decide (x = y) | none => false) && decide (x ∈ Y.blt) && glbB sc x && fineX x && (e :: es).all nst && chkA Y as sc (e :: es)
  | .nb o as, sc, .BinOp l op r _ => nbOp o op && chkA Y as sc [l, r]
  | .nsl a lo hi, sc, .Subscript o (.Slice l u st _) _ => st.isNone && chkE Y a sc o && chkO Y lo sc l && chkO Y hi sc u
  | .lrg as, sc, .Call (.Name x _) [.Call (.Name y _) es [] _] [] _ => decide (x = "list") && decide (y = "range") && decide (x ∈ Y.blt) && decide (y ∈ Y.blt) && glbB sc x && glbB sc y && decide (es.length = 1 ∨ es.length = 2) && es.all nst && chkA Y as sc es
  | .comp own tg it cond e, sc, .ListComp elt [⟨tge, ite, ifs, n⟩] scope _ =>
      foldB ite && chkG Y tg scope tge && (tgs tg).all (fun j => decide (j ∈ own)) && chkI Y it sc ite tge && blkC Y.N sc scope (own.map fun i => (Y.N.getD i "", i)) &&
        decide (n = 0) && ((ifs.isEmpty && isT cond) || (decide (ifs.length = 1) && tT cond && chkE Y cond (relS scope sc) (ifs.headD elt))) && chkE Y e (relS scope sc) elt
  | .comp2 own tg it cond tg2 it2 cond2 e, sc, .ListComp elt [⟨tge, ite, ifs, n⟩, ⟨tge2, ite2, ifs2, n2⟩] scope _ =>
      (foldB ite && foldB ite2 && decide (n = 0) && decide (n2 = 0) && (tgs tg).all (fun j => decide (j ∈ own)) && (tgs tg2).all (fun j => decide (j ∈ own)) && blkC Y.N sc scope (own.map fun i => (Y.N.getD i "", i))) &&
        (chkG Y tg scope tge && chkG Y tg2 scope tge2 && chkI Y it sc ite tge && chkI Y it2 (relS scope sc) ite2 tge2) &&
        ((ifs.isEmpty && isT cond) || (decide (ifs.length = 1) && tT cond && chkE Y cond (relS scope sc) (ifs.headD elt))) &&
        ((ifs2.isEmpty && isT cond2) || (decide (ifs2.length = 1) && tT cond2 && chkE Y cond2 (relS scope sc) (ifs2.headD elt))) && chkE Y e (relS scope sc) elt
  | _, _, _ => false
def chkA (Y : Ck) : C → Scope → List Expr → Bool
  | .nil, _, [] => true
  | .cons a r, sc, e :: es => nst e && chkE Y a sc e && chkA Y r sc es
  | _, _, _ => false
def chkO (Y : Ck) : C → Scope → Option Expr → Bool
  | .nil, _, none => true
  | .cons a r, sc, some e => isNil r && chkE Y a sc e
  | _, _, _ => false
def chkI (Y : Ck) : C → Scope → Expr → Expr → Bool
  | .ival a, sc, e, _ => chkE Y a sc e
  | .irange as, sc, .Call (.Name x _) es [] _, _ => decide (x = "range") && decide (x ∈ Y.blt) && glbB sc x && decide (es.length = 1 ∨ es.length = 2 ∨ es.length = 3) && es.all nst && chkA Y as sc es
  | .ienum a, sc, .Call (.Name x _) [e] [] _, .Tuple _ _ _ => decide (x = "enumerate") && decide (x ∈ Y.blt) && glbB sc x && nst e && chkE Y a sc e
  | .izip a b, sc, .Call (.Name x _) [e, e2] [] _, .Tuple _ _ _ => decide (x = "zip") && decide (x ∈ Y.blt) && glbB sc x && nst e && nst e2 && chkE Y a sc e && chkE Y b sc e2
  | _, _, _, _ => false
end

/-! ### what is known of the setting -/
structure Gd (Γ : Set0) (k : Nat) (Y : Ck) (so : Scope) : Prop where
  calm : Γ.X.calm = true
  room : Room (k + 1) Γ.X.A
  tk : Takes Γ.X Γ.W
  nd : Γ.X.N.Nodup
  N : Γ.X.N = Y.N
  fnok : ∀ x, Loc so x → Loc Γ.X.env.scope x ∧ (Γ.X.fn x = true ∨ Γ.X.env.scope.names.lookup x = some .local)
  fns : ∀ x f, Y.fn.lookup x = some f → ∃ fa, Γ.X.mg x = some (.ref fa) ∧ DefOk Γ k f fa
  cls : ∀ x kC, Y.cls.lookup x = some kC → ∃ f fa, Γ.P.init kC = some f ∧ Γ.X.mg x = some (.ref (Γ.S.cls kC)) ∧ MakeOk Γ k kC f fa
  mth : ∀ m mi, Y.mth.lookup m = some mi → MethOk Γ k mi m
  fldn : ∀ x f, Y.fld.lookup x = some f → Γ.S.fld f = x
  fok : ∀ kC f, Γ.P.fok kC f = true → f < Γ.S.nf ∧ NoAttr Γ.X.K (Γ.S.cls kC) (Γ.S.fld f)
  blt : ∀ x, x ∈ Y.blt → Γ.X.mg x = none
  glb : ∀ x i, Y.glb.lookup x = some i → ∃ t, Γ.X.mg x = some (.int i t)
  gls : ∀ x z, Y.gls.lookup x = some z → ∃ t, Γ.X.mg x = some (.str z t)
  isi : ∀ x kC, Y.isi.lookup x = some kC → Γ.X.mg x = some (.ref (Γ.S.cls kC)) ∧ IsiOk Γ.X.K (Γ.S.cls kC)
  told : ∀ x, Y.told = some x → ToldF Γ (k + 1) x
section
variable {Γ : Set0} {k : Nat} {Y : Ck}
theorem vis_ok {sc : Scope} {x : Str} (h : visB sc x = true) : Vis sc x := by
  unfold visB at h
  split at h <;> first | (rename_i q; first | exact .inl q | exact .inr (.inl q) | exact .inr (.inr q)) | cases h
theorem loc_ok {sc : Scope} {x : Str} (h : locB sc x = true) : Loc sc x := by
  unfold locB at h
  split at h <;> first | (rename_i q; first | exact .inl q | exact .inr q) | cases h
theorem glb_ok {X : Cx} {x : Str} (h : glbB X.env.scope x = true) : Gl X x := by
  unfold glbB at h
  split at h
  · rename_i q; exact q
  · cases h
theorem fine_ok {x : Str} (h : fineX x = true) : (x == ("__debug__" : Str)) = false ∧ (x == ("__classdict__" : Str)) = false ∧ x ≠ "__name__" := by
  unfold fineX at h
  have h1 := Bool.and_eq_true_iff.mp h
  have h2 := Bool.and_eq_true_iff.mp h1.1
  refine ⟨by simpa using h2.1, by simpa using h2.2, ?_⟩
  have h3 : (x == ("__name__" : Str)) = false := by simpa using h1.2
  intro e
  rw [e] at h3
  simp at h3
theorem Room.u1 {k : Nat} {A : Around} (r : Room k A) : A.units + 1 < cLine := by have := r.un; omega
theorem Room.u64 {k : Nat} {A : Around} (r : Room k A) : A.units + 65 < cLine := by have := r.un; omega
theorem bop_ok (r : Room k Γ.X.A) {o : Bop} {op : Operator} (h : bopB o op = true) : OpX (Γ := Γ) (binaryOp op) (bopE o) := by
  cases o <;> cases op <;> first | cases h | skip
  · exact opx_add
  · exact opx_sub
  · exact opx_mul
  · exact opx_fdiv
  · exact opx_mod
  · exact opx_xor
  · exact opx_pow
theorem cop_ok (r : Room k Γ.X.A) {o : Cop} {op : CmpOp} (h : copB o op = true) : OpX (Γ := Γ) (compareOp op) (cmpE o) := by
  cases o <;> cases op <;> first | cases h | skip
  · exact opx_lt r.units0
  · exact opx_le
  · exact opx_gt
  · exact opx_ge
  · exact opx_eq r.units
  · exact opx_ne r.units
  · exact opx_isN
  · exact opx_notN
  · exact opx_mem (Room.u64 r)
  · exact opx_nmem (Room.u64 r)
/-- the block of a comprehension -/
theorem Gd.blk {so : Scope} (G : Gd Γ k Y so) (s : Shared) (H : Hp) (scope : Scope) (Cc : Addr) (cl : List (Str × Addr)) (fp : List Addr) : Gd (Γ.blk s H scope Cc cl fp) k Y scope where
  calm := G.calm
  room := G.room
  tk := fun u s' ⟨_, _, _, _, _, _, _, _, _, _, _, _, _, _, _, _, w⟩ => w.elim
  nd := G.nd
  N := G.N
  fnok := fun x h => by
    rcases h with h | h
    · have z : (relS scope Γ.X.env.scope).names.lookup x = some .local := lookup_relS_keep (sc := Γ.X.env.scope) (by decide) h
      exact ⟨.inl z, .inr z⟩
    · have z : (relS scope Γ.X.env.scope).names.lookup x = some .cell := lookup_relS_keep (sc := Γ.X.env.scope) (by decide) h
      refine ⟨.inr z, .inl ?_⟩
      show (scope.names.lookup x == some .cell) = true
      rw [h]
      rfl
  fns := fun x f h => let ⟨fa, a, b⟩ := G.fns x f h; ⟨fa, a, ⟨b.kp, b.fn⟩⟩
  cls := fun x kC h => let ⟨f, fa, a, b, c⟩ := G.cls x kC h; ⟨f, fa, a, b, ⟨c.mkk, c.cl, ⟨c.dk.kp, c.dk.fn⟩⟩⟩
  mth := fun m mi h => ⟨fun kC f q => let ⟨fa, a, b⟩ := (G.mth m mi h).at_ kC f q; ⟨fa, a, ⟨b.kp, b.fn⟩⟩⟩
  fldn := G.fldn
  fok := G.fok
  blt := G.blt
  glb := G.glb
  gls := G.gls
  isi := G.isi
  told := fun x h => ⟨(G.told x h).ex, (G.told x h).room⟩
/-- a lambda's body -/
theorem Gd.lam {so : Scope} (G : Gd Γ k Y so) {scope : Scope} (L : LamX.LamS Γ.X.env.scope scope) {A : Around} {outer : List PySem.Env} {s : Shared} {H : Hp} {E : XK} {f c' : Addr} (hr : Room (k + 1) (A.deeper (LamX.lamEnv Γ.X scope s.heap.objs.size f c'))) :
    Gd (Γ.lam A outer s H E scope f c') k { Y with told := none } scope where
  calm := rfl
  room := hr
  tk := takes_of rfl rfl rfl rfl
  nd := G.nd
  N := G.N
  fnok := fun x h => by
    rcases h with h | h
    · exact absurd rfl (L.own _ (PySem.mem_of_lookup h)).1
    · exact absurd rfl (L.own _ (PySem.mem_of_lookup h)).2
  fns := fun x f h => let ⟨fa, a, b⟩ := G.fns x f h; ⟨fa, a, ⟨b.kp, b.fn⟩⟩
  cls := fun x kC h => let ⟨f, fa, a, b, c⟩ := G.cls x kC h; ⟨f, fa, a, b, ⟨c.mkk, c.cl, ⟨c.dk.kp, c.dk.fn⟩⟩⟩
  mth := fun m mi h => ⟨fun kC f q => let ⟨fa, a, b⟩ := (G.mth m mi h).at_ kC f q; ⟨fa, a, ⟨b.kp, b.fn⟩⟩⟩
  fldn := G.fldn
  fok := G.fok
  blt := G.blt
  glb := G.glb
  gls := G.gls
  isi := G.isi
  told := fun x h => nomatch h
/-! ### other forms -/
theorem xForm_gen {w : Xt} {sc : Scope} {e oe : Expr} {es : List Expr} (h : xForm Y w sc e = some (oe, es)) : genB e = true := by
  unfold xForm at h
  split at h <;> first | rfl | cases h
theorem if_some {α : Type} {b : Bool} {x y : α} (h : (if b = true then some x else none) = some y) : b = true ∧ x = y := by
  cases b with
  | true => exact ⟨rfl, Option.some.inj (by simpa using h)⟩
  | false => simp at h
theorem m1_ok {X : Cx} {o k : Expr} {ap p : Pos} (h1 : objB o = true) (h2 : (ap.endLine == p.line) = true) (h3 : nst k = true) : M1 X o "get" ap k p := by
  have e : starEach [k] X.env = [(false, eval k X.env)] := star_ok h3
  refine ⟨base_ok h1, ?_, h2, ?_⟩
  · rw [e]; rfl
  · rw [e]; rfl
theorem m2_ok {X : Cx} {o k f : Expr} {ap p : Pos} (h1 : objB o = true) (h2 : (ap.endLine == p.line) = true) (h3 : nst k = true) (h4 : nst f = true) : M2 X o "get" ap k f p := by
  have e : starEach [k, f] X.env = [(false, eval k X.env), (false, eval f X.env)] := by rw [star_ok h3, star_ok h4]; rfl
  refine ⟨base_ok h1, ?_, h2, ?_⟩
  · rw [e]; rfl
  · rw [e]; rfl
theorem chkA_0 {sc : Scope} {as : C} (h : chkA Y as sc [] = true) : as = .nil := by
  cases as <;> first | rfl | (exact absurd h (by unfold chkA; exact Bool.false_ne_true))
theorem chkA_s {sc : Scope} {as : C} {e : Expr} {es : List Expr} (h : chkA Y as sc (e :: es) = true) : ∃ a r, as = .cons a r ∧ chkE Y a sc e = true ∧ chkA Y r sc es = true := by
  cases as with
  | cons a r =>
    have h' : (nst e && chkE Y a sc e && chkA Y r sc es) = true := h
    have h1 := and2' h'
    exact ⟨a, r, rfl, (and2' h1.1).2, h1.2⟩
  | _ => exact absurd h (by unfold chkA; exact Bool.false_ne_true)
theorem ok_xf {w : Xt} {o as : C} {so : Scope} {e oe : Expr} {es : List Expr} (G : Gd Γ k Y so) (hx : xForm Y w Γ.X.env.scope e = some (oe, es)) (h2 : chkA Y as Γ.X.env.scope es = true) (ho : OkE Γ oe o)
    (ha1 : ∀ a r e, as = .cons a r → chkE Y a Γ.X.env.scope e = true → OkE Γ e a) (ha2 : ∀ a b r e, as = .cons a (.cons b r) → chkE Y b Γ.X.env.scope e = true → OkE Γ e b) : OkE Γ e (.xf w o as) := by
  have hu : Γ.X.A.units + 64 < cLine := by have := G.room.un; omega
  unfold xForm at hx
  split at hx
  · obtain ⟨h, e1⟩ := if_some hx
    cases e1
    have a1 := and2' h
    have a2 := and2' a1.2
    have a3 := and2' a2.2
    have a4 := and2' a3.2
    have a5 := and2' a4.2
    have a6 := and2' a5.2
    have ef := of_decide_eq_true a1.1
    subst ef
    obtain ⟨z1, z2⟩ := G.isi _ _ (of_decide_eq_true a4.1)
    obtain rfl := chkA_0 h2
    exact ok_isC (glb_ok a3.1) (G.blt _ (of_decide_eq_true a2.1)) (glb_ok a5.1) z1 (fine_ok a6.1).1 z2 ho (star_ok a6.2)
  · obtain ⟨h, e1⟩ := if_some hx
    cases e1
    have a1 := and2' h
    have a2 := and2' a1.2
    have a3 := and2' a2.2
    have a4 := and2' a3.2
    have a5 := and2' a4.2
    have a6 := and2' a5.2
    have a7 := and2' a6.2
    have a8 := and2' a7.2
    have a9 := and2' a8.2
    have ef := of_decide_eq_true a1.1
    have el := of_decide_eq_true a4.1
    have et := of_decide_eq_true a7.1
    subst ef el et
    obtain rfl := chkA_0 h2
    exact ok_isLT (glb_ok a3.1) (G.blt _ (of_decide_eq_true a2.1)) (glb_ok a6.1) (G.blt _ (of_decide_eq_true a5.1)) (glb_ok a9.1) (G.blt _ (of_decide_eq_true a8.1)) ho (star_ok a9.2)
  · obtain ⟨h, e1⟩ := if_some hx
    cases e1
    have a1 := and2' h
    have a2 := and2' a1.2
    have a3 := and2' a2.2
    have em := of_decide_eq_true a1.1
    subst em
    obtain ⟨a, r, rfl, c1, c2⟩ := chkA_s h2
    obtain rfl := chkA_0 c2
    exact ok_get1 (by omega) ho (ha1 _ _ _ rfl c1) (m1_ok a2.1 a3.1 a3.2)
  · obtain ⟨h, e1⟩ := if_some hx
    cases e1
    have a1 := and2' h
    have a2 := and2' a1.2
    have a3 := and2' a2.2
    have a4 := and2' a3.2
    have em := of_decide_eq_true a1.1
    subst em
    obtain ⟨a, r, rfl, c1, c2⟩ := chkA_s h2
    obtain ⟨b, r2, rfl, c3, c4⟩ := chkA_s c2
    obtain rfl := chkA_0 c4
    exact ok_get2 (by omega) ho (ha1 _ _ _ rfl c1) (ha2 _ _ _ _ rfl c3) (m2_ok a2.1 a3.1 a4.1 a4.2)
  · obtain ⟨h, e1⟩ := if_some hx
    cases e1
    have a1 := and2' h
    have a2 := and2' a1.2
    have a3 := and2' a2.2
    obtain rfl := chkA_0 h2
    exact ok_dix (by omega) a1.1 (fun z => by subst z; exact absurd a2.1 (by decide)) (of_decide_eq_true a3.1) ho (ix_ok a3.2)
  · obtain ⟨h, e1⟩ := if_some hx
    cases e1
    have a1 := and2' h
    have a2 := and2' a1.2
    have a3 := and2' a2.2
    have ef := of_decide_eq_true a1.1
    subst ef
    obtain rfl := chkA_0 h2
    exact ok_mn G.calm hu (glb_ok a3.1) (G.blt _ (of_decide_eq_true a2.1)) ho (star_ok a3.2)
  · obtain ⟨h, e1⟩ := if_some hx
    cases e1
    have a1 := and2' h
    have a2 := and2' a1.2
    have a3 := and2' a2.2
    have ef := of_decide_eq_true a1.1
    subst ef
    obtain rfl := chkA_0 h2
    exact ok_mx G.calm hu (glb_ok a3.1) (G.blt _ (of_decide_eq_true a2.1)) ho (star_ok a3.2)
  · cases hx
theorem xf_inv {w : Xt} {o as : C} {sc : Scope} {e : Expr} (h : chkE Y (.xf w o as) sc e = true) : ∃ oe es, xForm Y w sc e = some (oe, es) ∧ chkE Y o sc oe = true ∧ chkA Y as sc es = true := by
  unfold chkE at h
  cases hx : xForm Y w sc e with
  | none => rw [hx] at h; cases h
  | some p =>
    rw [hx] at h
    have h1 := and2' h
    exact ⟨_, _, rfl, h1.1, h1.2⟩
theorem xf_gen {w : Xt} {o as : C} {sc : Scope} {e : Expr} (h : chkE Y (.xf w o as) sc e = true) : genB e = true := by
  obtain ⟨_, _, hx, _, _⟩ := xf_inv h
  exact xForm_gen hx
end
end Ev

set_option Elab.async false
set_option linter.all false
set_option maxRecDepth 100000
set_option maxHeartbeats 2000000
namespace Ev
open PySem PySem.Spec PyProof.Rows L2
/-! ### tuples of targets -/
def TWgs (X : Cx) (ts : List Expr) : TGs := fun vs σ H Q => ∀ pins s us, Inv X pins σ H s → Vals vs us →
    wpAny (model X.prog X.w) X.A (assignInOrder ((assignEach ts X.env).map (·.2)) us) (fun _ s' => ∃ σ' H', Inv X pins σ' H' s' ∧ Q σ' H') X.xe s
theorem pgsU {X : Cx} {ts : List Expr} : PGs X ts (TWgs X ts) := ⟨fun pins s σ H vs us Q I r h => h pins s us I r⟩
def OkGs (Γ : Set0) (ts : List Expr) (c : C) : Prop := ∀ σ ρ ρ1 κ s H vs ds Q, HR Γ.X.K Γ.S κ s H → Slots Γ.X.K κ s.nx H σ ρ → Reps Γ.X.K κ s.nx H vs ds → evGs c ds ρ s = some ρ1 →
  (∀ σ1, Slots Γ.X.K κ s.nx H σ1 ρ1 → σ1.length = σ.length → (∀ j, j ∉ tgs c → σ1[j]? = σ[j]?) → Q σ1 H) → TWgs Γ.X ts vs σ H Q
section
variable {Γ : Set0} {e : Expr} {es : List Expr} {c ca cb : C} {pos : Pos}
theorem assign_any {env : PySem.Env} : ∀ {es : List Expr}, es.all nst = true → (assignEach es env).findIdx? (·.1) = none ∧ (assignEach es env).length = es.length
  | [], _ => ⟨rfl, rfl⟩
  | e :: es, h => by
    rw [List.all_cons] at h
    obtain ⟨h1, h2⟩ := Bool.and_eq_true_iff.mp h
    obtain ⟨i1, i2⟩ := assign_any (env := env) h2
    have z : assignEach (e :: es) env = (false, assign e env) :: assignEach es env := by cases e <;> first | rfl | cases h1
    rw [z]
    refine ⟨?_, by rw [List.length_cons, List.length_cons, i2]⟩
    rw [List.findIdx?_cons, if_neg (by intro q; cases q), i1]
    rfl
theorem assign_cons {env : PySem.Env} (h1 : nst e = true) : assignEach (e :: es) env = (false, assign e env) :: assignEach es env := by cases e <;> first | rfl | cases h1
theorem okgs_nil : OkGs Γ [] .nil := by
  intro σ ρ ρ1 κ s H vs ds Q hr sl r eq q pins s0 us I rv
  unfold evGs at eq
  cases r with
  | nil =>
    cases eq
    exact pgs_nil.run pins s0 σ H [] us Q I rv ⟨rfl, q σ sl rfl fun _ _ => rfl⟩
  | cons _ _ => cases eq
theorem okgs_cons (hn : nst e = true) (h1 : OkG Γ e ca) (h2 : OkGs Γ es cb) : OkGs Γ (e :: es) (.cons ca cb) := by
  intro σ ρ ρ1 κ s H vs ds Q hr sl r eq q
  unfold evGs at eq
  cases r with
  | nil => cases eq
  | @cons v vs' d ds' r1 rs =>
    simp only at eq
    cases q1 : evG ca d ρ s with
    | none => rw [q1] at eq; cases eq
    | some ρ2 =>
      rw [q1] at eq
      intro pins s0 us I rv
      refine (pgs_cons pgW pgsU (by rw [assign_cons hn]; rfl)).run pins s0 σ H _ us Q I rv ⟨v, vs', rfl, ?_⟩
      refine h1 σ ρ ρ2 κ s H v d _ hr sl r1 q1 fun σ1 sl1 hl1 ho1 => ?_
      refine h2 σ1 ρ2 ρ1 κ s H vs' ds' Q hr sl1 rs eq fun σ2 sl2 hl2 ho2 => ?_
      refine q σ2 sl2 (hl2.trans hl1) fun j hj => ?_
      have hj' : j ∉ tgs ca ++ tgs cb := hj
      rw [List.mem_append, not_or] at hj'
      exact (ho2 j hj'.2).trans (ho1 j hj'.1)
theorem okg_tup {n : Nat} (hc : Γ.X.calm = true) (hs : es.all nst = true) (h : OkGs Γ es c) (hl : ∀ ds ρ s ρ1, evGs c ds ρ s = some ρ1 → ds.length = tlen c) (hlen : tlen c = es.length) : OkG Γ (.Tuple es n pos) (.ttup c) := by
  intro σ ρ ρ1 κ s H v d Q hr sl r eq q
  unfold evG at eq
  cases r with
  | tup f rs =>
    simp only at eq
    obtain ⟨a1, a2⟩ := assign_any (env := Γ.X.env) hs
    refine twG (pg_tup hc pgsU a2 a1) ⟨_, _, rfl, f.sq, by rw [rs.len, hl _ _ _ _ eq, hlen], ?_⟩
    exact h σ ρ ρ1 κ s H _ _ Q hr sl rs eq q
  | _ => cases eq
theorem evGs_len : ∀ (c : C) {ds : List D} {ρ : Env} {s : Hs} {ρ1 : Env}, evGs c ds ρ s = some ρ1 → ds.length = tlen c := by
  intro c
  induction c with
  | cons a r _ ih =>
    intro ds ρ s ρ1 h
    unfold evGs at h
    cases ds with
    | nil => cases h
    | cons d ds =>
      simp only at h
      cases q : evG a d ρ s with
      | none => rw [q] at h; cases h
      | some ρ2 => rw [q] at h; rw [List.length_cons, ih h]; rfl
  | nil => intro ds ρ s ρ1 h; unfold evGs at h; cases ds with | nil => rfl | cons => cases h
  | _ => intro ds ρ s ρ1 h; unfold evGs at h; cases h
end
end Ev

set_option Elab.async false
set_option linter.all false
set_option maxRecDepth 100000
set_option maxHeartbeats 4000000
namespace Ev
open PySem PySem.Spec PyProof.Rows L2

theorem ff {P : Prop} (h : false = true) : P := absurd h Bool.false_ne_true
theorem and2 {a b : Bool} (h : (a && b) = true) : a = true ∧ b = true := Bool.and_eq_true_iff.mp h
section
variable {Y : Ck}

mutual
theorem okG_of : ∀ (c : C) (so : Scope) (e : Expr), chkG Y c so e = true → ∀ (Γ : Set0) (k : Nat), Gd Γ k Y so → OkG Γ e c
  | .tslot i, so, e, h, Γ, k, G => by
    cases e with
    | Name x p =>
      have h := and2 (show (decide (Y.N[i]? = some x) && locB so x) = true from h)
      obtain ⟨l1, l2⟩ := G.fnok x (loc_ok h.2)
      exact okg_slot G.nd (by rw [G.N]; exact of_decide_eq_true h.1) l1 l2
    | _ => exact ff h
  | .ttup ts, so, e, h, Γ, k, G => by
    cases e with
    | Tuple es n p =>
      have h := and2 (show (decide (tlen ts = es.length) && es.all nst && chkGs Y ts so es) = true from h)
      have h1 := and2 h.1
      exact okg_tup G.calm h1.2 (okGs_of ts so es h1.2 h.2 Γ k G) (fun ds ρ s ρ1 q => evGs_len ts q) (of_decide_eq_true h1.1)
    | _ => exact ff h
  | .slot _, _, _, h, _, _, _
  | .cst _, _, _, h, _, _, _
  | .glob _ _, _, _, h, _, _, _
  | .bin _ _ _, _, _, h, _, _, _
  | .neg _, _, _, h, _, _, _
  | .cmp _ _ _, _, _, h, _, _, _
  | .cmp2 _ _ _ _ _, _, _, h, _, _, _
  | .not _, _, _, h, _, _, _
  | .and _ _, _, _, h, _, _, _
  | .or _ _, _, _, h, _, _, _
  | .ife _ _ _, _, _, h, _, _, _
  | .tup _, _, _, h, _, _, _
  | .call _ _, _, _, h, _, _, _
  | .told _, _, _, h, _, _, _
  | .meth _ _ _, _, _, h, _, _, _
  | .make _ _, _, _, h, _, _, _
  | .bcall _ _, _, _, h, _, _, _
  | .bmeth _ _ _, _, _, h, _, _, _
  | .ix _ _, _, _, h, _, _, _
  | .fld _ _, _, _, h, _, _, _
  | .slice _ _ _, _, _, h, _, _, _
  | .rev _, _, _, h, _, _, _
  | .two _ _, _, _, h, _, _, _
  | .xf _ _ _, _, _, h, _, _, _
  | .lrg _, _, _, h, _, _, _
  | .newT _, _, _, h, _, _, _
  | .newC _, _, _, h, _, _, _
  | .dict0, _, _, h, _, _, _
  | .dict1, _, _, h, _, _, _
  | .lck _ _, _, _, h, _, _, _
  | .lst _, _, _, h, _, _, _
  | .comp _ _ _ _ _, _, _, h, _, _, _
  | .comp2 _ _ _ _ _ _ _ _, _, _, h, _, _, _
  | .nb _ _, _, _, h, _, _, _
  | .nsl _ _ _, _, _, h, _, _, _
  | .nil, _, _, h, _, _, _
  | .cons _ _, _, _, h, _, _, _
  | .irange _, _, _, h, _, _, _
  | .ienum _, _, _, h, _, _, _
  | .izip _ _, _, _, h, _, _, _
  | .ival _, _, _, h, _, _, _
  | .tsub _ _, _, _, h, _, _, _
  | .tfld _ _, _, _, h, _, _, _
  | .expr _, _, _, h, _, _, _
  | .asg _ _, _, _, h, _, _, _
  | .aug _ _ _, _, _, h, _, _, _
  | .augF _ _ _ _, _, _, h, _, _, _
  | .augS _ _ _ _, _, _, h, _, _, _
  | .ret _, _, _, h, _, _, _
  | .retN, _, _, h, _, _, _
  | .ifs _ _ _, _, _, h, _, _, _
  | .whl _ _, _, _, h, _, _, _
  | .fors _ _ _, _, _, h, _, _, _
  | .raise _, _, _, h, _, _, _
  | .pass, _, _, h, _, _, _
  | .brk, _, _, h, _, _, _
  | .cont, _, _, h, _, _, _
  | .del _ _, _, _, h, _, _, _
  | .seq _ _, _, _, h, _, _, _
  | .done, _, _, h, _, _, _ => ff h
theorem okGs_of : ∀ (c : C) (so : Scope) (es : List Expr), es.all nst = true → chkGs Y c so es = true → ∀ (Γ : Set0) (k : Nat), Gd Γ k Y so → OkGs Γ es c
  | .nil, so, es, hn, h, Γ, k, G => by
    cases es with
    | nil => exact okgs_nil
    | cons _ _ => exact ff h
  | .cons t r, so, es, hn, h, Γ, k, G => by
    cases es with
    | nil => exact ff h
    | cons e es =>
      have h := and2 (show (chkG Y t so e && chkGs Y r so es) = true from h)
      rw [List.all_cons] at hn
      have hn := and2 hn
      exact okgs_cons hn.1 (okG_of t so e h.1 Γ k G) (okGs_of r so es hn.2 h.2 Γ k G)
  | .slot _, _, _, _, h, _, _, _
  | .cst _, _, _, _, h, _, _, _
  | .glob _ _, _, _, _, h, _, _, _
  | .bin _ _ _, _, _, _, h, _, _, _
  | .neg _, _, _, _, h, _, _, _
  | .cmp _ _ _, _, _, _, h, _, _, _
  | .cmp2 _ _ _ _ _, _, _, _, h, _, _, _
  | .not _, _, _, _, h, _, _, _
  | .and _ _, _, _, _, h, _, _, _
  | .or _ _, _, _, _, h, _, _, _
  | .ife _ _ _, _, _, _, h, _, _, _
  | .tup _, _, _, _, h, _, _, _
  | .call _ _, _, _, _, h, _, _, _
  | .told _, _, _, _, h, _, _, _
  | .meth _ _ _, _, _, _, h, _, _, _
  | .make _ _, _, _, _, h, _, _, _
  | .bcall _ _, _, _, _, h, _, _, _
  | .bmeth _ _ _, _, _, _, h, _, _, _
  | .ix _ _, _, _, _, h, _, _, _
  | .fld _ _, _, _, _, h, _, _, _
  | .slice _ _ _, _, _, _, h, _, _, _
  | .rev _, _, _, _, h, _, _, _
  | .two _ _, _, _, _, h, _, _, _
  | .xf _ _ _, _, _, _, h, _, _, _
  | .lrg _, _, _, _, h, _, _, _
  | .newT _, _, _, _, h, _, _, _
  | .newC _, _, _, _, h, _, _, _
  | .dict0, _, _, _, h, _, _, _
  | .dict1, _, _, _, h, _, _, _
  | .lck _ _, _, _, _, h, _, _, _
  | .lst _, _, _, _, h, _, _, _
  | .comp _ _ _ _ _, _, _, _, h, _, _, _
  | .comp2 _ _ _ _ _ _ _ _, _, _, _, h, _, _, _
  | .nb _ _, _, _, _, h, _, _, _
  | .nsl _ _ _, _, _, _, h, _, _, _
  | .irange _, _, _, _, h, _, _, _
  | .ienum _, _, _, _, h, _, _, _
  | .izip _ _, _, _, _, h, _, _, _
  | .ival _, _, _, _, h, _, _, _
  | .tslot _, _, _, _, h, _, _, _
  | .ttup _, _, _, _, h, _, _, _
  | .tsub _ _, _, _, _, h, _, _, _
  | .tfld _ _, _, _, _, h, _, _, _
  | .expr _, _, _, _, h, _, _, _
  | .asg _ _, _, _, _, h, _, _, _
  | .aug _ _ _, _, _, _, h, _, _, _
  | .augF _ _ _ _, _, _, _, h, _, _, _
  | .augS _ _ _ _, _, _, _, h, _, _, _
  | .ret _, _, _, _, h, _, _, _
  | .retN, _, _, _, h, _, _, _
  | .ifs _ _ _, _, _, _, h, _, _, _
  | .whl _ _, _, _, _, h, _, _, _
  | .fors _ _ _, _, _, _, h, _, _, _
  | .raise _, _, _, _, h, _, _, _
  | .pass, _, _, _, h, _, _, _
  | .brk, _, _, _, h, _, _, _
  | .cont, _, _, _, h, _, _, _
  | .del _ _, _, _, _, h, _, _, _
  | .seq _ _, _, _, _, h, _, _, _
  | .done, _, _, _, h, _, _, _ => ff h
end

theorem blt_of {k : Nat} {so : Scope} {Γ : Set0} (G : Gd Γ k Y so) {b : Bi} {y : Str} {v : Value} (hb : biName b = some (y, v)) :
    (∃ id, v = .builtin id ∧ BiX Γ (.builtin id) (biE b) ∧ bootBuiltins y = some (.builtin id)) ∨ (∃ T, v = .type T ∧ BiX Γ (.type T) (biE b) ∧ bootBuiltins y = some (.type T)) := by
  cases b <;> first | cases hb | skip
  · exact .inl ⟨_, rfl, bi_len, by decide +kernel⟩
  · exact .inl ⟨_, rfl, bi_abs, by decide +kernel⟩
  · exact .inr ⟨_, rfl, bi_int, by decide +kernel⟩
  · exact .inl ⟨_, rfl, bi_sum G.calm, by decide +kernel⟩
  · exact .inl ⟨_, rfl, bi_max G.calm, by decide +kernel⟩
  · exact .inl ⟨_, rfl, bi_min G.calm, by decide +kernel⟩
  · exact .inr ⟨_, rfl, bi_tuple, by decide +kernel⟩
  · exact .inl ⟨_, rfl, bi_all G.calm, by decide +kernel⟩
  · exact .inl ⟨_, rfl, bi_any G.calm, by decide +kernel⟩
theorem nbl_of {k : Nat} {so : Scope} {Γ : Set0} (G : Gd Γ k Y so) {b : Nb} {y : Str} {v : Value} (hb : nbName b = some (y, v)) :
    (∃ id, v = .builtin id ∧ BiN Γ (.builtin id) (nbE b) ∧ bootBuiltins y = some (.builtin id)) ∨ (∃ T, v = .type T ∧ BiN Γ (.type T) (nbE b) ∧ bootBuiltins y = some (.type T)) := by
  cases b <;> first | cases hb | skip
  · exact .inr ⟨_, rfl, bn_list, by decide +kernel⟩
  · exact .inl ⟨_, rfl, bn_sorted, by decide +kernel⟩

theorem told_inv {a : C} {sc : Scope} {e : Expr} (h : chkE Y (.told a) sc e = true) : ∃ x p0 body scope lp p, e = .Call (.Name x p0) [.Lambda ⟨[], [], none, [], [], none, []⟩ body scope lp] [] p ∧
    (decide (Y.told = some x) && glbB sc x && fineX x && LamX.lamSB sc scope && chkE { Y with told := none } a scope body) = true := by
  unfold chkE at h
  split at h <;> first | exact ff h | (simp_all; done) | skip
  all_goals (rename_i hq; cases hq; exact ⟨_, _, _, _, _, _, rfl, h⟩)
theorem two_inv {w : Two} {as : C} {sc : Scope} {e : Expr} (h : chkE Y (.two w as) sc e = true) : (∃ x p0 y p1 e1 p2 p, e = .Call (.Name x p0) [.Call (.Name y p1) [e1] [] p2] [] p ∧
    (decide (twoKw w = none) && decide (twoOne w = none) && decide (x = (twoName w).1) && decide (y = (twoName w).2) && decide (x ∈ Y.blt) && decide (y ∈ Y.blt) && glbB sc x && glbB sc y && nst e1 && chkA Y as sc [e1]) = true) ∨
    (∃ x p0 e1 nm d kp p, e = .Call (.Name x p0) [e1] [⟨nm, d, kp⟩] p ∧ (decide (twoKw w = some x) && decide (nm = some "default") && decide (x ∈ Y.blt) && glbB sc x && fineX x && nst e1 && chkA Y as sc [e1, d]) = true) ∨
    ∃ x p0 e1 p, e = .Call (.Name x p0) [e1] [] p ∧ (decide (twoOne w = some x) && decide (x ∈ Y.blt) && glbB sc x && nst e1 && chkA Y as sc [e1]) = true := by
  unfold chkE at h
  split at h <;> first | exact ff h | (simp_all; done) | skip
  · rename_i hq; cases hq; exact .inr (.inl ⟨_, _, _, _, _, _, _, rfl, h⟩)
  · rename_i hq; cases hq
    rcases Bool.or_eq_true_iff.mp h with h | h
    · exact .inr (.inr ⟨_, _, _, _, rfl, h⟩)
    · split at h
      · exact .inl ⟨_, _, _, _, _, _, _, rfl, h⟩
      · cases h
theorem xf_noB {P : Prop} {w : Xt} {o as : C} {sc : Scope} {op : BoolOp} {es : List Expr} {p : Pos} (h : chkE Y (.xf w o as) sc (.BoolOp op es p) = true) : P := by
  obtain ⟨_, _, hx, _, _⟩ := xf_inv h
  have z : genB (.BoolOp op es p) = true := xForm_gen hx
  cases z
theorem lrg_inv {as : C} {sc : Scope} {e : Expr} (h : chkN Y (.lrg as) sc e = true) : ∃ x p0 y p1 es p2 p, e = .Call (.Name x p0) [.Call (.Name y p1) es [] p2] [] p ∧
    (decide (x = "list") && decide (y = "range") && decide (x ∈ Y.blt) && decide (y ∈ Y.blt) && glbB sc x && glbB sc y && decide (es.length = 1 ∨ es.length = 2) && es.all nst && chkA Y as sc es) = true := by
  unfold chkN at h
  split at h <;> first | exact ff h | (simp_all; done) | skip
  all_goals (rename_i hq; cases hq; exact ⟨_, _, _, _, _, _, _, rfl, h⟩)
theorem chkI_no1 {P : Prop} {sc : Scope} {a : C} {x : Str} {p0 p : Pos} {es : List Expr} {kw : Keyword} {kws : List Keyword} {tg : Expr} (h : chkI Y (.ienum a) sc (.Call (.Name x p0) es (kw :: kws) p) tg = true) : P := by
  unfold chkI at h
  split at h <;> first | exact ff h | (simp_all; done) | skip
theorem chkI_no2 {P : Prop} {sc : Scope} {a : C} {x : Str} {p0 p : Pos} {es : List Expr} {tg : Expr} (ht : ∀ es n p, tg ≠ .Tuple es n p) (h : chkI Y (.ienum a) sc (.Call (.Name x p0) es [] p) tg = true) : P := by
  unfold chkI at h
  split at h <;> first | exact ff h | (simp_all; done) | skip
theorem chkI_no3 {P : Prop} {sc : Scope} {a b : C} {x : Str} {p0 p : Pos} {es : List Expr} {kw : Keyword} {kws : List Keyword} {tg : Expr} (h : chkI Y (.izip a b) sc (.Call (.Name x p0) es (kw :: kws) p) tg = true) : P := by
  unfold chkI at h
  split at h <;> first | exact ff h | (simp_all; done) | skip
theorem chkI_no4 {P : Prop} {sc : Scope} {a b : C} {x : Str} {p0 p : Pos} {es : List Expr} {tg : Expr} (ht : ∀ es n p, tg ≠ .Tuple es n p) (h : chkI Y (.izip a b) sc (.Call (.Name x p0) es [] p) tg = true) : P := by
  unfold chkI at h
  split at h <;> first | exact ff h | (simp_all; done) | skip
theorem chkA_len {sc : Scope} : ∀ (c : C) {es : List Expr}, chkA Y c sc es = true → clen c = es.length
  | .nil, es, h => by cases es with | nil => rfl | cons _ _ => exact ff h
  | .cons a r, es, h => by
    cases es with
    | nil => exact ff h
    | cons e es =>
      have h := and2 (show (nst e && chkE Y a sc e && chkA Y r sc es) = true from h)
      show clen r + 1 = es.length + 1
      rw [chkA_len r h.2]
  | .slot _, _, h
  | .cst _, _, h
  | .glob _ _, _, h
  | .bin _ _ _, _, h
  | .neg _, _, h
  | .cmp _ _ _, _, h
  | .cmp2 _ _ _ _ _, _, h
  | .not _, _, h
  | .and _ _, _, h
  | .or _ _, _, h
  | .ife _ _ _, _, h
  | .tup _, _, h
  | .call _ _, _, h
  | .told _, _, h
  | .meth _ _ _, _, h
  | .make _ _, _, h
  | .bcall _ _, _, h
  | .bmeth _ _ _, _, h
  | .ix _ _, _, h
  | .fld _ _, _, h
  | .slice _ _ _, _, h
  | .rev _, _, h
  | .two _ _, _, h
  | .lrg _, _, h
  | .newT _, _, h
  | .newC _, _, h
  | .dict0, _, h
  | .lst _, _, h
  | .comp _ _ _ _ _, _, h
  | .comp2 _ _ _ _ _ _ _ _, _, h
  | .nb _ _, _, h
  | .nsl _ _ _, _, h
  | .irange _, _, h
  | .ienum _, _, h
  | .izip _ _, _, h
  | .ival _, _, h
  | .tslot _, _, h
  | .ttup _, _, h
  | .tsub _ _, _, h
  | .tfld _ _, _, h
  | .expr _, _, h
  | .asg _ _, _, h
  | .aug _ _ _, _, h
  | .augF _ _ _ _, _, h
  | .augS _ _ _ _, _, h
  | .ret _, _, h
  | .retN, _, h
  | .ifs _ _ _, _, h
  | .whl _ _, _, h
  | .fors _ _ _, _, h
  | .raise _, _, h
  | .pass, _, h
  | .brk, _, h
  | .cont, _, h
  | .del _ _, _, h
  | .seq _ _, _, h
  | .done, _, h
  | .dict1, _, h
  | .lck _ _, _, h
  | .xf _ _ _, _, h => ff h

mutual
theorem okE_of {Y : Ck} : ∀ (c : C) (sc : Scope) (e : Expr), chkE Y c sc e = true → ∀ (Γ : Set0) (k : Nat) (so : Scope), Gd Γ k Y so → Γ.X.env.scope = sc → OkE Γ e c
  | .slot i, sc, e, h, Γ, k, so, G, hs => by
    cases e with
    | Name x p =>
      have h := and2 (show (decide (Y.N[i]? = some x) && visB sc x && fineX x) = true from h)
      have h1 := and2 h.1
      have f := fine_ok h.2
      exact ok_slot (by rw [G.N]; exact of_decide_eq_true h1.1) (vis_ok (by rw [hs]; exact h1.2)) f.1 f.2.1
    | _ => exact ff h
  | .cst d, sc, e, h, Γ, k, so, G, hs => by
    cases e with
    | Constant cv kk p =>
      cases cv <;> cases d <;> first | exact ff h | skip
      · exact ok_cst_non
      · have h' : (_ == _) = true := h
        rw [beq_iff_eq] at h'; subst h'; exact ok_cst_bl
      · have h' := of_decide_eq_true (show decide (_ = _) = true from h)
        subst h'; exact ok_cst_int
      · have h' := of_decide_eq_true (show decide (_ = _) = true from h)
        subst h'; exact ok_cst_str
    | _ => cases d <;> exact ff h
  | .bin o a b, sc, e, h, Γ, k, so, G, hs => by
    cases e with
    | BinOp l op r p =>
      have h := and2 (show (bopB o op && chkE Y a sc l && chkE Y b sc r) = true from h)
      have h1 := and2 h.1
      exact ok_bin2 (bop_ok G.room h1.1) (bop_nx o) (okE_of a sc l h1.2 Γ k so G hs) (okE_of b sc r h.2 Γ k so G hs)
    | _ => exact ff h
  | .neg a, sc, e, h, Γ, k, so, G, hs => by
    cases e with
    | UnaryOp op x p =>
      cases op with
      | USub => exact ok_neg (okE_of a sc x h Γ k so G hs)
      | _ => exact ff h
    | _ => exact ff h
  | .cmp o a b, sc, e, h, Γ, k, so, G, hs => by
    cases e with
    | Compare l ops rs p =>
      match ops, rs, h with
      | [op], [r], h =>
        have h := and2 (show (copB o op && !behindInMarks op r && chkE Y a sc l && chkE Y b sc r) = true from h)
        have h1 := and2 h.1
        have h2 := and2 h1.1
        exact ok_cmp (cop_ok G.room h2.1) (cmp_nx o) (by simpa using h2.2) (okE_of a sc l h1.2 Γ k so G hs) (okE_of b sc r h.2 Γ k so G hs)
      | [], _, h => exact ff h
      | _ :: _ :: _, _, h => exact ff h
      | [_], [], h => exact ff h
      | [_], _ :: _ :: _, h => exact ff h
    | _ => exact ff h
  | .cmp2 o o' a b c, sc, e, h, Γ, k, so, G, hs => by
    cases e with
    | Compare l ops rs p =>
      match ops, rs, h with
      | [op, op'], [m, r], h =>
        have h := and2 (show (copB o op && copB o' op' && !lastMarks [op, op'] [m, r] && chkE Y a sc l && chkE Y b sc m && chkE Y c sc r) = true from h)
        have h1 := and2 h.1
        have h2 := and2 h1.1
        have h3 := and2 h2.1
        have h4 := and2 h3.1
        exact ok_cmp2 (cop_ok G.room h4.1) (cop_ok G.room h4.2) (okE_of a sc l h2.2 Γ k so G hs) (okE_of b sc m h1.2 Γ k so G hs) (okE_of c sc r h.2 Γ k so G hs) (by simpa using h3.2)
      | [], _, h => exact ff h
      | [_], _, h => exact ff h
      | _ :: _ :: _ :: _, _, h => exact ff h
      | [_, _], [], h => exact ff h
      | [_, _], [_], h => exact ff h
      | [_, _], _ :: _ :: _ :: _, h => exact ff h
    | _ => exact ff h
  | .not a, sc, e, h, Γ, k, so, G, hs => by
    cases e with
    | UnaryOp op x p =>
      cases op with
      | Not => exact ok_notE (okE_of a sc x h Γ k so G hs)
      | _ => exact ff h
    | _ => exact ff h
  | .and a b, sc, e, h, Γ, k, so, G, hs => by
    cases e with
    | BoolOp op es p =>
      cases op with
      | And =>
        match es, h with
        | x :: y :: rest, h =>
          have h := and2 (show (chkE Y a sc x && (if rest.isEmpty then chkE Y b sc y else chkE Y b sc (.BoolOp .And (y :: rest) p))) = true from h)
          refine ok_and (okE_of a sc x h.1 Γ k so G hs) ?_
          cases rest with
          | nil => exact ok_bo1 (okE_of b sc y h.2 Γ k so G hs)
          | cons z r => exact okE_of b sc _ h.2 Γ k so G hs
        | [], h => exact ff h
        | [_], h => exact ff h
      | Or => exact ff h
    | _ => exact ff h
  | .or a b, sc, e, h, Γ, k, so, G, hs => by
    cases e with
    | BoolOp op es p =>
      cases op with
      | Or =>
        match es, h with
        | x :: y :: rest, h =>
          have h := and2 (show (chkE Y a sc x && (if rest.isEmpty then chkE Y b sc y else chkE Y b sc (.BoolOp .Or (y :: rest) p))) = true from h)
          refine ok_or (okE_of a sc x h.1 Γ k so G hs) ?_
          cases rest with
          | nil => exact ok_bo1 (okE_of b sc y h.2 Γ k so G hs)
          | cons z r => exact okE_of b sc _ h.2 Γ k so G hs
        | [], h => exact ff h
        | [_], h => exact ff h
      | And => exact ff h
    | _ => exact ff h
  | .ife t a b, sc, e, h, Γ, k, so, G, hs => by
    cases e with
    | IfExp te ae be p =>
      have h := and2 (show (tT t && chkE Y t sc te && chkE Y a sc ae && chkE Y b sc be) = true from h)
      have h1 := and2 h.1
      have h2 := and2 h1.1
      exact ok_ife (okT_of t sc te h2.1 h2.2 Γ k so G hs) (okE_of a sc ae h1.2 Γ k so G hs) (okE_of b sc be h.2 Γ k so G hs)
    | _ => exact ff h
  | .tup as, sc, e, h, Γ, k, so, G, hs => by
    cases e with
    | Tuple es n p => exact ok_tup (okA_of as sc es h Γ k so G hs)
    | _ => exact ff h
  | .call f as, sc, e, h, Γ, k, so, G, hs => by
    cases e with
    | Call fe es kw p =>
      cases fe with
      | Name x p0 =>
        cases kw with
        | cons _ _ => exact ff h
        | nil =>
        have h := and2 (show (decide (Y.fn.lookup x = some f) && glbB sc x && fineX x && es.all nst && chkA Y as sc es) = true from h)
        have h1 := and2 h.1
        have h2 := and2 h1.1
        have h3 := and2 h2.1
        obtain ⟨fa, m1, m2⟩ := G.fns x f (of_decide_eq_true h3.1)
        have hr : Room k Γ.X.A := G.room.mono (Nat.le_succ _)
        have hg : Gl Γ.X x := glb_ok (by rw [hs]; exact h3.2)
        have fx := fine_ok h2.2
        have ha := okA_of as sc es h.2 Γ k so G hs
        cases es with
        | nil =>
          cases as with
          | nil => exact ok_call0 m2 hr G.tk hg m1 fx.1
          | _ => exact ff h.2
        | cons e1 es =>
          have hn := and2 (by simpa [List.all_cons] using h1.2 : (nst e1 && es.all nst) = true)
          exact ok_call m2 hr G.tk hg m1 fx.1 ha (star_ok hn.1) (star_any hn.2)
      | _ => exact ff h
    | _ => exact ff h
  | .make kc as, sc, e, h, Γ, k, so, G, hs => by
    cases e with
    | Call fe es kw p =>
      cases fe with
      | Name x p0 =>
        cases kw with
        | cons _ _ => cases es <;> exact ff h
        | nil =>
        cases es with
        | nil => exact ff h
        | cons e1 es =>
          have h := and2 (show (decide (Y.cls.lookup x = some kc) && glbB sc x && fineX x && (e1 :: es).all nst && chkA Y as sc (e1 :: es)) = true from h)
          have h1 := and2 h.1
          have h2 := and2 h1.1
          have h3 := and2 h2.1
          obtain ⟨f, fa, m0, m1, m2⟩ := G.cls x kc (of_decide_eq_true h3.1)
          have fx := fine_ok h2.2
          have hn := and2 (by simpa [List.all_cons] using h1.2 : (nst e1 && es.all nst) = true)
          exact ok_make m2 m0 G.room G.tk (glb_ok (by rw [hs]; exact h3.2)) m1 fx.1 (okA_of as sc _ h.2 Γ k so G hs) (star_ok hn.1) (star_any hn.2)
      | _ => exact ff h
    | _ => exact ff h
  | .meth m o as, sc, e, h, Γ, k, so, G, hs => by
    cases e with
    | Call fe es kw p =>
      cases fe with
      | Attribute oe x ap =>
        cases kw with
        | cons _ _ => exact ff h
        | nil =>
          have h := and2 (show (decide (Y.mth.lookup x = some m) && objB oe && (ap.endLine == p.line) && decide (es.length < 30) && es.all nst && chkE Y o sc oe && chkA Y as sc es) = true from h)
          have h1 := and2 h.1
          have h2 := and2 h1.1
          have h3 := and2 h2.1
          have h4 := and2 h3.1
          have h5 := and2 h4.1
          have mk := G.mth x m (of_decide_eq_true h5.1)
          have hr : Room k Γ.X.A := G.room.mono (Nat.le_succ _)
          have ho := okE_of o sc oe h1.2 Γ k so G hs
          have ha := okA_of as sc es h.2 Γ k so G hs
          have ht := meth_ok (X := Γ.X) (m := x) h5.2 h2.2 (of_decide_eq_true h3.2) h4.2
          cases es with
          | nil =>
            cases as with
            | nil => exact ok_meth0 mk hr G.tk ho ht
            | _ => exact ff h.2
          | cons e1 es =>
            have hn := and2 (by simpa [List.all_cons] using h2.2 : (nst e1 && es.all nst) = true)
            exact ok_meth mk hr G.tk ho ha (star_ok hn.1) (star_any hn.2) ht
      | _ => exact ff h
    | _ => exact ff h
  | .bcall b as, sc, e, h, Γ, k, so, G, hs => by
    cases e with
    | Call fe es kw p =>
      cases fe with
      | Name x p0 =>
        cases kw with
        | cons _ _ => cases es <;> exact ff h
        | nil =>
        cases es with
        | nil => exact ff h
        | cons e1 es =>
          have h := and2 (show ((match biName b with | some (y, _) => decide (x = y) | none => false) && decide (x ∈ Y.blt) && glbB sc x && fineX x && (e1 :: es).all nst && chkA Y as sc (e1 :: es)) = true from h)
          have h1 := and2 h.1
          have h2 := and2 h1.1
          have h3 := and2 h2.1
          have h4 := and2 h3.1
          have fx := fine_ok h2.2
          have hn := and2 (by simpa [List.all_cons] using h1.2 : (nst e1 && es.all nst) = true)
          cases hb : biName b with
          | none => rw [hb] at h4; exact ff h4.1
          | some yv =>
            obtain ⟨y, v⟩ := yv
            rw [hb] at h4
            have exy : x = y := of_decide_eq_true h4.1
            subst exy
            have hm := G.blt x (of_decide_eq_true h4.2)
            have hg : Gl Γ.X x := glb_ok (by rw [hs]; exact h3.2)
            have ha := okA_of as sc _ h.2 Γ k so G hs
            rcases blt_of G hb with ⟨id, rfl, b1, b2⟩ | ⟨T, rfl, b1, b2⟩
            · exact ok_bcall b1 (bi_nx b) hg hm b2 ha fx.2.2 fx.1 (star_ok hn.1) (star_any hn.2)
            · exact ok_bcallT b1 (bi_nx b) hg hm b2 ha fx.2.2 fx.1 (star_ok hn.1) (star_any hn.2)
      | _ => cases es <;> exact ff h
    | _ => exact ff h
  | .ix a i, sc, e, h, Γ, k, so, G, hs => by
    cases e with
    | Subscript o j p =>
      have h := and2 (show (plainIxB j && chkE Y a sc o && chkE Y i sc j) = true from h)
      have h1 := and2 h.1
      exact ok_ix (okE_of a sc o h1.2 Γ k so G hs) (okE_of i sc j h.2 Γ k so G hs) (ix_ok h1.1) (Room.u1 G.room)
    | _ => exact ff h
  | .fld o f, sc, e, h, Γ, k, so, G, hs => by
    cases e with
    | Attribute oe x p =>
      have h := and2 (show (decide (Y.fld.lookup x = some f) && objB oe && chkE Y o sc oe) = true from h)
      have h1 := and2 h.1
      exact ok_fld (G.fldn x f (of_decide_eq_true h1.1)) (okE_of o sc oe h.2 Γ k so G hs) (base_ok h1.2)
    | _ => exact ff h
  | .slice a lo hi, sc, e, h, Γ, k, so, G, hs => by
    cases e with
    | Subscript o sl p =>
      cases sl with
      | Slice l u st p2 =>
        have h := and2 (show (st.isNone && chkE Y a sc o && chkO Y lo sc l && chkO Y hi sc u) = true from h)
        have h1 := and2 h.1
        have h2 := and2 h1.1
        cases st with
        | some _ => exact ff h2.1
        | none => exact ok_slice (okE_of a sc o h2.2 Γ k so G hs) (okO_of lo sc l h1.2 Γ k so G hs) (okO_of hi sc u h.2 Γ k so G hs)
      | _ => exact ff h
    | _ => exact ff h
  | .rev a, sc, e, h, Γ, k, so, G, hs => by
    cases e with
    | Subscript o sl p =>
      have h := and2 (show (revS sl && chkE Y a sc o) = true from h)
      obtain ⟨kk, p1, p2, p3, rfl⟩ := revS_ok h.1
      exact ok_rev (okE_of a sc o h.2 Γ k so G hs)
    | _ => exact ff h
  | .bmeth m o as, sc, e, h, Γ, k, so, G, hs => by
    cases e with
    | Call fe es kw p =>
      cases fe with
      | Attribute oe x ap =>
        cases kw with
        | cons _ _ => exact ff h
        | nil =>
          have h := and2 (show (decide (x = (bmName m).1) && objB oe && (ap.endLine == p.line) && decide (es.length < 30) && es.all nst && chkE Y o sc oe && chkA Y as sc es) = true from h)
          have h1 := and2 h.1
          have h2 := and2 h1.1
          have h3 := and2 h2.1
          have h4 := and2 h3.1
          have h5 := and2 h4.1
          have ex : x = (bmName m).1 := of_decide_eq_true h5.1
          subst ex
          have ho := okE_of o sc oe h1.2 Γ k so G hs
          have ha := okA_of as sc es h.2 Γ k so G hs
          cases es with
          | nil =>
            cases as with
            | nil => exact ok_bmeth0 ho (base_ok h5.2) h4.2
            | _ => exact ff h.2
          | cons e1 es =>
            have hn := and2 (by simpa [List.all_cons] using h2.2 : (nst e1 && es.all nst) = true)
            exact ok_bmeth ho ha (base_ok h5.2) h4.2 (form_ok h2.2 (of_decide_eq_true h3.2)) (star_ok hn.1) (star_any hn.2)
      | _ => exact ff h
    | _ => exact ff h
  | .dict0, sc, e, h, Γ, k, so, G, hs => by
    cases e with
    | Dict ks vs p =>
      cases ks with
      | cons _ _ => exact ff h
      | nil => cases vs with
        | cons _ _ => exact ff h
        | nil => exact ok_dict0
    | _ => exact ff h
  | .lck i a, sc, e, h, Γ, k, so, G, hs => by
    cases e with
    | Compare l os rs p => exact ok_lck (okE_of a sc (.Compare l os rs p) h Γ k so G hs)
    | Call l os rs p => exact ok_lck (okE_of a sc (.Call l os rs p) h Γ k so G hs)
    | _ => exact ff h
  | .dict1, sc, e, h, Γ, k, so, G, hs => by
    cases e with
    | Dict ks vs p =>
      cases ks with
      | cons _ _ => exact ff h
      | nil => cases vs with
        | cons _ _ => exact ff h
        | nil => exact ok_dict1
    | _ => exact ff h
  | .glob x d, sc, e, h, Γ, k, so, G, hs => by
    cases e with
    | Name y p =>
      cases d with
      | int i =>
        have h := and2 (show (decide (x = y) && decide (Y.glb.lookup y = some i) && glbB sc y && fineX y) = true from h)
        have h1 := and2 h.1
        have h2 := and2 h1.1
        have ex : x = y := of_decide_eq_true h2.1
        subst ex
        obtain ⟨t, hm⟩ := G.glb x i (of_decide_eq_true h2.2)
        exact ok_glob (glb_ok (by rw [hs]; exact h1.2)) hm (fine_ok h.2).1
      | str z =>
        have h := and2 (show (decide (x = y) && decide (Y.gls.lookup y = some z) && glbB sc y && fineX y) = true from h)
        have h1 := and2 h.1
        have h2 := and2 h1.1
        have ex : x = y := of_decide_eq_true h2.1
        subst ex
        obtain ⟨t, hm⟩ := G.gls x z (of_decide_eq_true h2.2)
        exact ok_gls (glb_ok (by rw [hs]; exact h1.2)) hm (fine_ok h.2).1
      | _ => exact ff h
    | _ => cases d <;> exact ff h
  | .xf w o as, sc, e, h, Γ, k, so, G, hs => by
    obtain ⟨oe, es, hx, h1, h2⟩ := xf_inv h
    subst hs
    exact ok_xf G hx h2 (okE_of o _ oe h1 Γ k so G rfl) (fun a r e q c => by subst q; exact okE_of a _ e c Γ k so G rfl) (fun a b r e q c => by subst q; exact okE_of b _ e c Γ k so G rfl)
  | .two w as, sc, e, h, Γ, k, so, G, hs => by
    rcases two_inv h with ⟨x, p0, y, p1, e1, p2, p, rfl, hh⟩ | ⟨x, p0, e1, nm, d, kp, p, rfl, hh⟩ | ⟨x, p0, e1, p, rfl, hh⟩
    · have h := and2 hh
      have h1 := and2 h.1
      have h2 := and2 h1.1
      have h3 := and2 h2.1
      have h4 := and2 h3.1
      have h5 := and2 h4.1
      have h6 := and2 h5.1
      have h8 := and2 h6.1
      have h8a := and2 h8.1
      have ex : x = (twoName w).1 := of_decide_eq_true h8.2
      have ey : y = (twoName w).2 := of_decide_eq_true h6.2
      have hg : Gl Γ.X x := glb_ok (by rw [hs]; exact h3.2)
      have hg2 : Gl Γ.X y := glb_ok (by rw [hs]; exact h2.2)
      have hm := G.blt x (of_decide_eq_true h5.2)
      have hm2 := G.blt y (of_decide_eq_true h4.2)
      cases as with
      | cons ca r =>
        have h7 := and2 (show (nst e1 && chkE Y ca sc e1 && chkA Y r sc []) = true from h.2)
        cases r with
        | nil =>
          have ha := okE_of ca sc e1 (and2 h7.1).2 Γ k so G hs
          cases w with
          | tupr => subst ex; subst ey; exact ok_tupr G.calm hg hm hg2 hm2 ha (star_ok h1.2)
          | lenset => subst ex; subst ey; exact ok_lenset G.calm hg hm hg2 hm2 ha (star_ok h1.2)
          | rngv => exact absurd (of_decide_eq_true h8a.2) (by simp [twoOne])
          | _ => exact absurd (of_decide_eq_true h8a.1) (by simp [twoKw])
        | _ => exact ff h7.2
      | _ => exact ff h.2
    · have h := and2 hh
      have h1 := and2 h.1
      have h2 := and2 h1.1
      have h3 := and2 h2.1
      have h4 := and2 h3.1
      have h5 := and2 h4.1
      have ew := of_decide_eq_true h5.1
      have en := of_decide_eq_true h5.2
      subst en
      have hg : Gl Γ.X x := glb_ok (by rw [hs]; exact h3.2)
      have hm := G.blt x (of_decide_eq_true h4.2)
      have fx := fine_ok h2.2
      have hu : Γ.X.A.units + 64 < cLine := by have := G.room.un; omega
      cases as with
      | cons ca r =>
        have h7 := and2 (show (nst e1 && chkE Y ca sc e1 && chkA Y r sc [d]) = true from h.2)
        cases r with
        | cons cb r2 =>
          have h9 := and2 (show (nst d && chkE Y cb sc d && chkA Y r2 sc []) = true from h7.2)
          cases r2 with
          | nil =>
            have ha := okE_of ca sc e1 (and2 h7.1).2 Γ k so G hs
            have hb := okE_of cb sc d (and2 h9.1).2 Γ k so G hs
            cases w with
            | maxd => cases ew; exact ok_def (mx := true) (fun _ _ _ => rfl) G.calm hu hg hm (by decide +kernel) ha hb (star_ok h1.2) fx.2.2 fx.1
            | mind => cases ew; exact ok_def (mx := false) (fun _ _ _ => rfl) G.calm hu hg hm (by decide +kernel) ha hb (star_ok h1.2) fx.2.2 fx.1
            | _ => exact absurd ew (by simp [twoKw])
          | _ => exact ff h9.2
        | _ => exact ff h7.2
      | _ => exact ff h.2
    · have h := and2 hh
      have h1 := and2 h.1
      have h2 := and2 h1.1
      have h3 := and2 h2.1
      have ew := of_decide_eq_true h3.1
      have hg : Gl Γ.X x := glb_ok (by rw [hs]; exact h2.2)
      have hm := G.blt x (of_decide_eq_true h3.2)
      cases as with
      | cons ca r =>
        have h7 := and2 (show (nst e1 && chkE Y ca sc e1 && chkA Y r sc []) = true from h.2)
        cases r with
        | nil =>
          have ha := okE_of ca sc e1 (and2 h7.1).2 Γ k so G hs
          cases w with
          | rngv => cases ew; exact ok_rngv hg hm ha (star_ok h1.2)
          | _ => exact absurd ew (by simp [twoOne])
        | _ => exact ff h7.2
      | _ => exact ff h.2
  | .newT n, sc, e, h, Γ, k, so, G, hs => ok_newT (okN_of n sc e h Γ k so G hs)
  | .newC n, sc, e, h, Γ, k, so, G, hs => ok_newC (okN_of n sc e h Γ k so G hs)
  | .told a, sc, e, h, Γ, k, so, G, hs => by
    obtain ⟨x, p0, body, scope, lp, p, rfl, h⟩ := told_inv h
    have h := and2 h
    have h1 := and2 h.1
    have h2 := and2 h1.1
    have h3 := and2 h2.1
    have fx := fine_ok h2.2
    have L : LamX.LamS Γ.X.env.scope scope := by rw [hs]; exact LamX.lamS_by h1.2
    refine ok_told (G.told x (of_decide_eq_true h3.1)) (glb_ok (by rw [hs]; exact h3.2)) fx.1 L (fun A outer s H E f c' hr => ?_)
    exact okE_of (Y := { Y with told := none }) a scope body h.2 _ k scope (G.lam L hr) rfl
  | .lrg _, _, _, h, _, _, _, _, _
  | .lst _, _, _, h, _, _, _, _, _
  | .comp _ _ _ _ _, _, _, h, _, _, _, _, _
  | .comp2 _ _ _ _ _ _ _ _, _, _, h, _, _, _, _, _
  | .nb _ _, _, _, h, _, _, _, _, _
  | .nsl _ _ _, _, _, h, _, _, _, _, _
  | .nil, _, _, h, _, _, _, _, _
  | .cons _ _, _, _, h, _, _, _, _, _
  | .irange _, _, _, h, _, _, _, _, _
  | .ienum _, _, _, h, _, _, _, _, _
  | .izip _ _, _, _, h, _, _, _, _, _
  | .ival _, _, _, h, _, _, _, _, _
  | .tslot _, _, _, h, _, _, _, _, _
  | .ttup _, _, _, h, _, _, _, _, _
  | .tsub _ _, _, _, h, _, _, _, _, _
  | .tfld _ _, _, _, h, _, _, _, _, _
  | .expr _, _, _, h, _, _, _, _, _
  | .asg _ _, _, _, h, _, _, _, _, _
  | .aug _ _ _, _, _, h, _, _, _, _, _
  | .augF _ _ _ _, _, _, h, _, _, _, _, _
  | .augS _ _ _ _, _, _, h, _, _, _, _, _
  | .ret _, _, _, h, _, _, _, _, _
  | .retN, _, _, h, _, _, _, _, _
  | .ifs _ _ _, _, _, h, _, _, _, _, _
  | .whl _ _, _, _, h, _, _, _, _, _
  | .fors _ _ _, _, _, h, _, _, _, _, _
  | .raise _, _, _, h, _, _, _, _, _
  | .pass, _, _, h, _, _, _, _, _
  | .brk, _, _, h, _, _, _, _, _
  | .cont, _, _, h, _, _, _, _, _
  | .del _ _, _, _, h, _, _, _, _, _
  | .seq _ _, _, _, h, _, _, _, _, _
  | .done, _, _, h, _, _, _, _, _ => ff h
theorem okT_of {Y : Ck} : ∀ (c : C) (sc : Scope) (e : Expr), tT c = true → chkE Y c sc e = true → ∀ (Γ : Set0) (k : Nat) (so : Scope), Gd Γ k Y so → Γ.X.env.scope = sc → OkT Γ e c
  | .cmp o a b, sc, e, ht, h, Γ, k, so, G, hs => by
    cases e with
    | Compare l ops rs p =>
      match ops, rs, h with
      | [op], [r], h =>
        have h := and2 (show (copB o op && !behindInMarks op r && chkE Y a sc l && chkE Y b sc r) = true from h)
        have h1 := and2 h.1
        have h2 := and2 h1.1
        exact ok_cmpT (cop_ok G.room h2.1) (cmp_nx o) (by simpa using h2.2) (okE_of a sc l h1.2 Γ k so G hs) (okE_of b sc r h.2 Γ k so G hs)
      | [], _, h => exact ff h
      | _ :: _ :: _, _, h => exact ff h
      | [_], [], h => exact ff h
      | [_], _ :: _ :: _, h => exact ff h
    | _ => exact ff h
  | .cmp2 o o' a b c, sc, e, ht, h, Γ, k, so, G, hs => by
    cases e with
    | Compare l ops rs p =>
      match ops, rs, h with
      | [op, op'], [m, r], h =>
        have h := and2 (show (copB o op && copB o' op' && !lastMarks [op, op'] [m, r] && chkE Y a sc l && chkE Y b sc m && chkE Y c sc r) = true from h)
        have h1 := and2 h.1
        have h2 := and2 h1.1
        have h3 := and2 h2.1
        have h4 := and2 h3.1
        exact ok_cmp2T (cop_ok G.room h4.1) (cop_ok G.room h4.2) (okE_of a sc l h2.2 Γ k so G hs) (okE_of b sc m h1.2 Γ k so G hs) (okE_of c sc r h.2 Γ k so G hs) (by simpa using h3.2)
      | [], _, h => exact ff h
      | [_], _, h => exact ff h
      | _ :: _ :: _ :: _, _, h => exact ff h
      | [_, _], [], h => exact ff h
      | [_, _], [_], h => exact ff h
      | [_, _], _ :: _ :: _ :: _, h => exact ff h
    | _ => exact ff h
  | .not a, sc, e, ht, h, Γ, k, so, G, hs => by
    cases e with
    | UnaryOp op x p =>
      cases op with
      | Not => exact ok_not (okT_of a sc x ht h Γ k so G hs)
      | _ => exact ff h
    | _ => exact ff h
  | .and a b, sc, e, ht, h, Γ, k, so, G, hs => by
    cases e with
    | BoolOp op es p => exact (okW_of (.and a b) sc op es p ht h Γ k so G hs).t
    | _ => exact ff h
  | .or a b, sc, e, ht, h, Γ, k, so, G, hs => by
    cases e with
    | BoolOp op es p => exact (okW_of (.or a b) sc op es p ht h Γ k so G hs).t
    | _ => exact ff h
  | .slot x0, sc, e, ht, h, Γ, k, so, G, hs => by
    have he := okE_of (.slot x0) sc e h Γ k so G hs
    cases e <;> first | exact ok_val he (gen_ok rfl) | exact ff h
  | .call x0 x1, sc, e, ht, h, Γ, k, so, G, hs => by
    have he := okE_of (.call x0 x1) sc e h Γ k so G hs
    cases e <;> first | exact ok_val he (gen_ok rfl) | exact ff h
  | .told x0, sc, e, ht, h, Γ, k, so, G, hs => by
    have he := okE_of (.told x0) sc e h Γ k so G hs
    cases e <;> first | exact ok_val he (gen_ok rfl) | exact ff h
  | .make x0 x1, sc, e, ht, h, Γ, k, so, G, hs => by
    have he := okE_of (.make x0 x1) sc e h Γ k so G hs
    cases e <;> first | exact ok_val he (gen_ok rfl) | exact ff h
  | .meth x0 x1 x2, sc, e, ht, h, Γ, k, so, G, hs => by
    have he := okE_of (.meth x0 x1 x2) sc e h Γ k so G hs
    cases e <;> first | exact ok_val he (gen_ok rfl) | exact ff h
  | .bmeth x0 x1 x2, sc, e, ht, h, Γ, k, so, G, hs => by
    have he := okE_of (.bmeth x0 x1 x2) sc e h Γ k so G hs
    cases e <;> first | exact ok_val he (gen_ok rfl) | exact ff h
  | .slice x0 x1 x2, sc, e, ht, h, Γ, k, so, G, hs => by
    have he := okE_of (.slice x0 x1 x2) sc e h Γ k so G hs
    cases e <;> first | exact ok_val he (gen_ok rfl) | exact ff h
  | .rev x0, sc, e, ht, h, Γ, k, so, G, hs => by
    have he := okE_of (.rev x0) sc e h Γ k so G hs
    cases e <;> first | exact ok_val he (gen_ok rfl) | exact ff h
  | .two x0 x1, sc, e, ht, h, Γ, k, so, G, hs => by
    have he := okE_of (.two x0 x1) sc e h Γ k so G hs
    cases e <;> first | exact ok_val he (gen_ok rfl) | exact ff h
  | .bcall x0 x1, sc, e, ht, h, Γ, k, so, G, hs => by
    have he := okE_of (.bcall x0 x1) sc e h Γ k so G hs
    cases e <;> first | exact ok_val he (gen_ok rfl) | exact ff h
  | .ix x0 x1, sc, e, ht, h, Γ, k, so, G, hs => by
    have he := okE_of (.ix x0 x1) sc e h Γ k so G hs
    cases e <;> first | exact ok_val he (gen_ok rfl) | exact ff h
  | .fld x0 x1, sc, e, ht, h, Γ, k, so, G, hs => by
    have he := okE_of (.fld x0 x1) sc e h Γ k so G hs
    cases e <;> first | exact ok_val he (gen_ok rfl) | exact ff h
  | .xf w o as, sc, e, ht, h, Γ, k, so, G, hs => by
    have he := okE_of (.xf w o as) sc e h Γ k so G hs
    obtain ⟨oe, es, hx, _, _⟩ := xf_inv h
    exact ok_val he (gen_ok (xForm_gen hx))
  | .lrg _, _, _, _, h, _, _, _, _, _
  | .lst _, _, _, _, h, _, _, _, _, _
  | .comp _ _ _ _ _, _, _, _, h, _, _, _, _, _
  | .comp2 _ _ _ _ _ _ _ _, _, _, _, h, _, _, _, _, _
  | .nb _ _, _, _, _, h, _, _, _, _, _
  | .nsl _ _ _, _, _, _, h, _, _, _, _, _
  | .nil, _, _, _, h, _, _, _, _, _
  | .cons _ _, _, _, _, h, _, _, _, _, _
  | .irange _, _, _, _, h, _, _, _, _, _
  | .ienum _, _, _, _, h, _, _, _, _, _
  | .izip _ _, _, _, _, h, _, _, _, _, _
  | .ival _, _, _, _, h, _, _, _, _, _
  | .tslot _, _, _, _, h, _, _, _, _, _
  | .ttup _, _, _, _, h, _, _, _, _, _
  | .tsub _ _, _, _, _, h, _, _, _, _, _
  | .tfld _ _, _, _, _, h, _, _, _, _, _
  | .expr _, _, _, _, h, _, _, _, _, _
  | .asg _ _, _, _, _, h, _, _, _, _, _
  | .aug _ _ _, _, _, _, h, _, _, _, _, _
  | .augF _ _ _ _, _, _, _, h, _, _, _, _, _
  | .augS _ _ _ _, _, _, _, h, _, _, _, _, _
  | .ret _, _, _, _, h, _, _, _, _, _
  | .retN, _, _, _, h, _, _, _, _, _
  | .ifs _ _ _, _, _, _, h, _, _, _, _, _
  | .whl _ _, _, _, _, h, _, _, _, _, _
  | .fors _ _ _, _, _, _, h, _, _, _, _, _
  | .raise _, _, _, _, h, _, _, _, _, _
  | .pass, _, _, _, h, _, _, _, _, _
  | .brk, _, _, _, h, _, _, _, _, _
  | .cont, _, _, _, h, _, _, _, _, _
  | .del _ _, _, _, _, h, _, _, _, _, _
  | .seq _ _, _, _, _, h, _, _, _, _, _
  | .done, _, _, _, h, _, _, _, _, _ => ff h
  | .ife _ _ _, _, _, ht, _, _, _, _, _, _ => ff ht
  | .lck i a, sc, e, ht, h, Γ, k, so, G, hs => by
    cases e with
    | Compare l os rs p => exact ok_lckT (okT_of a sc (.Compare l os rs p) ht h Γ k so G hs)
    | Call l os rs p => exact ok_lckT (okT_of a sc (.Call l os rs p) ht h Γ k so G hs)
    | _ => exact ff h
  | .cst _, _, _, ht, _, _, _, _, _, _ => ff ht
  | .dict0, _, _, ht, _, _, _, _, _, _ => ff ht
  | .dict1, _, _, ht, _, _, _, _, _, _ => ff ht
  | .glob _ _, _, _, ht, _, _, _, _, _, _ => ff ht
  | .newT _, _, _, ht, _, _, _, _, _, _ => ff ht
  | .newC _, _, _, ht, _, _, _, _, _, _ => ff ht
  | .bin _ _ _, _, _, ht, _, _, _, _, _, _ => ff ht
  | .neg _, _, _, ht, _, _, _, _, _, _ => ff ht
  | .tup _, _, _, ht, _, _, _, _, _, _ => ff ht
theorem okW_of {Y : Ck} : ∀ (c : C) (sc : Scope) (op : BoolOp) (es : List Expr) (p : Pos), tT c = true → chkE Y c sc (.BoolOp op es p) = true → ∀ (Γ : Set0) (k : Nat) (so : Scope), Gd Γ k Y so → Γ.X.env.scope = sc → OkW Γ (.BoolOp op es p) c
  | .and a b, sc, op, es, p, ht, h, Γ, k, so, G, hs => by
    have ht := and2 (show (tT a && tT b) = true from ht)
    cases op with
    | And =>
      match es, h with
      | x :: y :: rest, h =>
        have h := and2 (show (chkE Y a sc x && (if rest.isEmpty then chkE Y b sc y else chkE Y b sc (.BoolOp .And (y :: rest) p))) = true from h)
        refine okw_and (okT_of a sc x ht.1 h.1 Γ k so G hs) ?_
        cases rest with
        | nil => exact okw_1 (okT_of b sc y ht.2 h.2 Γ k so G hs)
        | cons z r => exact okW_of b sc .And (y :: z :: r) p ht.2 h.2 Γ k so G hs
      | [], h => exact ff h
      | [_], h => exact ff h
    | Or => exact ff h
  | .or a b, sc, op, es, p, ht, h, Γ, k, so, G, hs => by
    have ht := and2 (show (tT a && tT b) = true from ht)
    cases op with
    | Or =>
      match es, h with
      | x :: y :: rest, h =>
        have h := and2 (show (chkE Y a sc x && (if rest.isEmpty then chkE Y b sc y else chkE Y b sc (.BoolOp .Or (y :: rest) p))) = true from h)
        refine okw_or (okT_of a sc x ht.1 h.1 Γ k so G hs) ?_
        cases rest with
        | nil => exact okw_1 (okT_of b sc y ht.2 h.2 Γ k so G hs)
        | cons z r => exact okW_of b sc .Or (y :: z :: r) p ht.2 h.2 Γ k so G hs
      | [], h => exact ff h
      | [_], h => exact ff h
    | And => exact ff h
  | .slot _, _, _, _, _, _, h, _, _, _, _, _
  | .bin _ _ _, _, _, _, _, _, h, _, _, _, _, _
  | .neg _, _, _, _, _, _, h, _, _, _, _, _
  | .cmp _ _ _, _, _, _, _, _, h, _, _, _, _, _
  | .cmp2 _ _ _ _ _, _, _, _, _, _, h, _, _, _, _, _
  | .not _, _, _, _, _, _, h, _, _, _, _, _
  | .ife _ _ _, _, _, _, _, _, h, _, _, _, _, _
  | .tup _, _, _, _, _, _, h, _, _, _, _, _
  | .call _ _, _, _, _, _, _, h, _, _, _, _, _
  | .told _, _, _, _, _, _, h, _, _, _, _, _
  | .meth _ _ _, _, _, _, _, _, h, _, _, _, _, _
  | .make _ _, _, _, _, _, _, h, _, _, _, _, _
  | .bcall _ _, _, _, _, _, _, h, _, _, _, _, _
  | .bmeth _ _ _, _, _, _, _, _, h, _, _, _, _, _
  | .ix _ _, _, _, _, _, _, h, _, _, _, _, _
  | .fld _ _, _, _, _, _, _, h, _, _, _, _, _
  | .slice _ _ _, _, _, _, _, _, h, _, _, _, _, _
  | .rev _, _, _, _, _, _, h, _, _, _, _, _
  | .two _ _, _, _, _, _, _, h, _, _, _, _, _
  | .lrg _, _, _, _, _, _, h, _, _, _, _, _
  | .dict0, _, _, _, _, _, h, _, _, _, _, _
  | .lst _, _, _, _, _, _, h, _, _, _, _, _
  | .comp _ _ _ _ _, _, _, _, _, _, h, _, _, _, _, _
  | .comp2 _ _ _ _ _ _ _ _, _, _, _, _, _, h, _, _, _, _, _
  | .nb _ _, _, _, _, _, _, h, _, _, _, _, _
  | .nsl _ _ _, _, _, _, _, _, h, _, _, _, _, _
  | .nil, _, _, _, _, _, h, _, _, _, _, _
  | .cons _ _, _, _, _, _, _, h, _, _, _, _, _
  | .irange _, _, _, _, _, _, h, _, _, _, _, _
  | .ienum _, _, _, _, _, _, h, _, _, _, _, _
  | .izip _ _, _, _, _, _, _, h, _, _, _, _, _
  | .ival _, _, _, _, _, _, h, _, _, _, _, _
  | .tslot _, _, _, _, _, _, h, _, _, _, _, _
  | .ttup _, _, _, _, _, _, h, _, _, _, _, _
  | .tsub _ _, _, _, _, _, _, h, _, _, _, _, _
  | .tfld _ _, _, _, _, _, _, h, _, _, _, _, _
  | .expr _, _, _, _, _, _, h, _, _, _, _, _
  | .asg _ _, _, _, _, _, _, h, _, _, _, _, _
  | .aug _ _ _, _, _, _, _, _, h, _, _, _, _, _
  | .augF _ _ _ _, _, _, _, _, _, h, _, _, _, _, _
  | .augS _ _ _ _, _, _, _, _, _, h, _, _, _, _, _
  | .ret _, _, _, _, _, _, h, _, _, _, _, _
  | .retN, _, _, _, _, _, h, _, _, _, _, _
  | .ifs _ _ _, _, _, _, _, _, h, _, _, _, _, _
  | .whl _ _, _, _, _, _, _, h, _, _, _, _, _
  | .fors _ _ _, _, _, _, _, _, h, _, _, _, _, _
  | .raise _, _, _, _, _, _, h, _, _, _, _, _
  | .pass, _, _, _, _, _, h, _, _, _, _, _
  | .brk, _, _, _, _, _, h, _, _, _, _, _
  | .cont, _, _, _, _, _, h, _, _, _, _, _
  | .del _ _, _, _, _, _, _, h, _, _, _, _, _
  | .seq _ _, _, _, _, _, _, h, _, _, _, _, _
  | .done, _, _, _, _, _, h, _, _, _, _, _
  | .dict1, _, _, _, _, _, h, _, _, _, _, _
  | .lck _ _, _, _, _, _, _, h, _, _, _, _, _ => ff h
  | .xf _ _ _, _, _, _, _, _, h, _, _, _, _, _ => xf_noB h
  | .newT _, _, _, _, _, ht, _, _, _, _, _, _ => ff ht
  | .newC _, _, _, _, _, ht, _, _, _, _, _, _ => ff ht
  | .cst d, _, _, _, _, _, h, _, _, _, _, _ => by cases d <;> exact ff h
  | .glob _ _, _, _, _, _, ht, _, _, _, _, _, _ => ff ht
theorem okN_of {Y : Ck} : ∀ (c : C) (sc : Scope) (e : Expr), chkN Y c sc e = true → ∀ (Γ : Set0) (k : Nat) (so : Scope), Gd Γ k Y so → Γ.X.env.scope = sc → OkN Γ e c
  | .lst as, sc, e, h, Γ, k, so, G, hs => by
    cases e with
    | List es p => exact okn_lst (okA_of as sc es h Γ k so G hs)
    | _ => exact ff h
  | .nb b as, sc, e, h, Γ, k, so, G, hs => by
    cases e with
    | Call fe es kw p =>
      cases fe with
      | Name x p0 =>
        cases kw with
        | cons _ _ => cases es <;> exact ff h
        | nil =>
        cases es with
        | nil => exact ff h
        | cons e1 es =>
          have h := and2 (show ((match nbName b with | some (y, _) => decide (x = y) | none => false) && decide (x ∈ Y.blt) && glbB sc x && fineX x && (e1 :: es).all nst && chkA Y as sc (e1 :: es)) = true from h)
          have h1 := and2 h.1
          have h2 := and2 h1.1
          have h3 := and2 h2.1
          have h4 := and2 h3.1
          have fx := fine_ok h2.2
          have hn := and2 (by simpa [List.all_cons] using h1.2 : (nst e1 && es.all nst) = true)
          cases hb : nbName b with
          | none => rw [hb] at h4; exact ff h4.1
          | some yv =>
            obtain ⟨y, v⟩ := yv
            rw [hb] at h4
            have exy : x = y := of_decide_eq_true h4.1
            subst exy
            have hm := G.blt x (of_decide_eq_true h4.2)
            have hg : Gl Γ.X x := glb_ok (by rw [hs]; exact h3.2)
            have ha := okA_of as sc _ h.2 Γ k so G hs
            rcases nbl_of G hb with ⟨id, rfl, b1, b2⟩ | ⟨T, rfl, b1, b2⟩
            · exact okn_nb b1 (nb_nx b) hg hm b2 ha fx.2.2 fx.1 (star_ok hn.1) (star_any hn.2)
            · exact okn_nbT b1 (nb_nx b) hg hm b2 ha fx.2.2 fx.1 (star_ok hn.1) (star_any hn.2)
      | _ => cases es <;> exact ff h
    | BinOp l op r p =>
      have h := and2 (show (nbOp b op && chkA Y as sc [l, r]) = true from h)
      cases as with
      | cons ca r1 =>
        have hA := and2 (show (nst l && chkE Y ca sc l && chkA Y r1 sc [r]) = true from h.2)
        cases r1 with
        | cons cb r2 =>
          have hB := and2 (show (nst r && chkE Y cb sc r && chkA Y r2 sc []) = true from hA.2)
          cases r2 with
          | nil =>
            have ha := okE_of ca sc l (and2 hA.1).2 Γ k so G hs
            have hb := okE_of cb sc r (and2 hB.1).2 Γ k so G hs
            cases b <;> cases op <;> first | exact ff h.1 | skip
            · exact okn_bin on_cat (nb_nx _) ha hb
            · exact okn_bin on_rep (nb_nx _) ha hb
          | _ => exact ff hB.2
        | _ => exact ff hA.2
      | _ => exact ff h.2
    | _ => exact ff h
  | .comp own tg it cond el, sc, e, h, Γ, k, so, G, hs => by
    cases e with
    | ListComp elt gs scope p =>
      cases gs with
      | nil => exact ff h
      | cons g gs =>
        cases gs with
        | cons _ _ =>
          obtain ⟨tge, ite, ifs, n⟩ := g
          exact ff h
        | nil =>
          obtain ⟨tge, ite, ifs, n⟩ := g
          have h := and2 (show (foldB ite && chkG Y tg scope tge && (tgs tg).all (fun j => decide (j ∈ own)) && chkI Y it sc ite tge && blkC Y.N sc scope (own.map fun i => (Y.N.getD i "", i)) &&
            decide (n = 0) && ((ifs.isEmpty && isT cond) || (decide (ifs.length = 1) && tT cond && chkE Y cond (relS scope sc) (ifs.headD elt))) && chkE Y el (relS scope sc) elt) = true from h)
          have h0 := and2 h.1
          have h1' := and2 h0.1
          have hn0 : n = 0 := of_decide_eq_true h1'.2
          subst hn0
          have h1 : _ ∧ _ := ⟨h1'.1, h0.2⟩
          have h2 := and2 h1.1
          have h3 := and2 h2.1
          have h4 := and2 h3.1
          have h5 := and2 h4.1
          have mo : (own.map fun i => (Y.N.getD i "", i)).map (·.2) = own := by rw [List.map_map]; exact List.map_id'' (fun _ => rfl) own
          have bk : BlkOk Γ.X.N Γ.X.env.scope scope (own.map fun i => (Y.N.getD i "", i)) := by rw [G.N, hs]; exact blkOk_by h2.2
          have ss : ∀ s H Cc cl fp, (Γ.blk s H scope Cc cl fp).X.env.scope = relS scope sc := fun s H Cc cl fp => by
            rw [← hs]; rfl
          have hgt : ∀ j, j ∈ tgs tg → j ∈ (own.map fun i => (Y.N.getD i "", i)).map (·.2) := fun j hj => by
            rw [mo]; exact of_decide_eq_true (List.all_eq_true.mp h4.2 j hj)
          have ht : ∀ s H Cc cl fp, OkTs (Γ.blk s H scope Cc cl fp) ifs cond := fun s H Cc cl fp => by
            rcases Bool.or_eq_true_iff.mp h1.2 with q | q
            · have q := and2 q
              have e := isT_ok q.2
              subst e
              cases ifs with
              | nil => exact okts_nil
              | cons _ _ => exact ff q.1
            · have q := and2 q
              have q1 := and2 q.1
              cases ifs with
              | nil => exact absurd (of_decide_eq_true q1.1) (by simp)
              | cons t r =>
                cases r with
                | nil => exact okts_one (okT_of cond _ t q1.2 q.2 _ k scope (G.blk s H scope Cc cl fp) (ss s H Cc cl fp))
                | cons _ _ => exact absurd (of_decide_eq_true q1.1) (by simp)
          have z := okn_comp (pos := p) G.calm G.nd bk (fold_ok h5.1) (okI_of it sc ite tge h3.2 Γ k so G hs) (fun s H Cc cl fp => okG_of tg scope tge h5.2 _ k (G.blk s H scope Cc cl fp)) ht
            (fun s H Cc cl fp => okE_of el _ elt h.2 _ k scope (G.blk s H scope Cc cl fp) (ss s H Cc cl fp)) hgt
          rw [mo] at z
          exact z
    | _ => exact ff h
  | .comp2 own tg it cond tg2 it2 cond2 el, sc, e, h, Γ, k, so, G, hs => by
    cases e with
    | ListComp elt gs scope p =>
      match gs, h with
      | [], h => exact ff h
      | [⟨_, _, _, _⟩], h => exact ff h
      | ⟨_, _, _, _⟩ :: ⟨_, _, _, _⟩ :: _ :: _, h => exact ff h
      | [⟨tge, ite, ifs, n⟩, ⟨tge2, ite2, ifs2, n2⟩], h =>
          have h := and2 (show ((foldB ite && foldB ite2 && decide (n = 0) && decide (n2 = 0) && (tgs tg).all (fun j => decide (j ∈ own)) && (tgs tg2).all (fun j => decide (j ∈ own)) && blkC Y.N sc scope (own.map fun i => (Y.N.getD i "", i))) &&
            (chkG Y tg scope tge && chkG Y tg2 scope tge2 && chkI Y it sc ite tge && chkI Y it2 (relS scope sc) ite2 tge2) &&
            ((ifs.isEmpty && isT cond) || (decide (ifs.length = 1) && tT cond && chkE Y cond (relS scope sc) (ifs.headD elt))) &&
            ((ifs2.isEmpty && isT cond2) || (decide (ifs2.length = 1) && tT cond2 && chkE Y cond2 (relS scope sc) (ifs2.headD elt))) && chkE Y el (relS scope sc) elt) = true from h)
          have hA := and2 h.1
          have hB := and2 hA.1
          have hC := and2 hB.1
          have f1 := and2 hC.1
          have f2 := and2 f1.1
          have f3 := and2 f2.1
          have f4 := and2 f3.1
          have f5 := and2 f4.1
          have f6 := and2 f5.1
          have g1 := and2 hC.2
          have g2 := and2 g1.1
          have g3 := and2 g2.1
          have hn0 : n = 0 := of_decide_eq_true f5.2
          subst hn0
          have hn2 : n2 = 0 := of_decide_eq_true f4.2
          subst hn2
          have mo : (own.map fun i => (Y.N.getD i "", i)).map (·.2) = own := by rw [List.map_map]; exact List.map_id'' (fun _ => rfl) own
          have bk : BlkOk Γ.X.N Γ.X.env.scope scope (own.map fun i => (Y.N.getD i "", i)) := by rw [G.N, hs]; exact blkOk_by f1.2
          have ss : ∀ s H Cc cl fp, (Γ.blk s H scope Cc cl fp).X.env.scope = relS scope sc := fun s H Cc cl fp => by
            rw [← hs]; rfl
          have hgt : ∀ j, j ∈ tgs tg → j ∈ (own.map fun i => (Y.N.getD i "", i)).map (·.2) := fun j hj => by
            rw [mo]; exact of_decide_eq_true (List.all_eq_true.mp f3.2 j hj)
          have hgt2 : ∀ j, j ∈ tgs tg2 → j ∈ (own.map fun i => (Y.N.getD i "", i)).map (·.2) := fun j hj => by
            rw [mo]; exact of_decide_eq_true (List.all_eq_true.mp f2.2 j hj)
          have ht : ∀ s H Cc cl fp, OkTs (Γ.blk s H scope Cc cl fp) ifs cond := fun s H Cc cl fp => by
            rcases Bool.or_eq_true_iff.mp hB.2 with q | q
            · have q := and2 q
              have e := isT_ok q.2
              subst e
              cases ifs with
              | nil => exact okts_nil
              | cons _ _ => exact ff q.1
            · have q := and2 q
              have q1 := and2 q.1
              cases ifs with
              | nil => exact absurd (of_decide_eq_true q1.1) (by simp)
              | cons t r =>
                cases r with
                | nil => exact okts_one (okT_of cond _ t q1.2 q.2 _ k scope (G.blk s H scope Cc cl fp) (ss s H Cc cl fp))
                | cons _ _ => exact absurd (of_decide_eq_true q1.1) (by simp)
          have ht2 : ∀ s H Cc cl fp, OkTs (Γ.blk s H scope Cc cl fp) ifs2 cond2 := fun s H Cc cl fp => by
            rcases Bool.or_eq_true_iff.mp hA.2 with q | q
            · have q := and2 q
              have e := isT_ok q.2
              subst e
              cases ifs2 with
              | nil => exact okts_nil
              | cons _ _ => exact ff q.1
            · have q := and2 q
              have q1 := and2 q.1
              cases ifs2 with
              | nil => exact absurd (of_decide_eq_true q1.1) (by simp)
              | cons t r =>
                cases r with
                | nil => exact okts_one (okT_of cond2 _ t q1.2 q.2 _ k scope (G.blk s H scope Cc cl fp) (ss s H Cc cl fp))
                | cons _ _ => exact absurd (of_decide_eq_true q1.1) (by simp)
          have z := okn_comp2 (pos := p) G.calm G.nd bk (fold_ok f6.1) (fold_okA f6.2) (okI_of it sc ite tge g2.2 Γ k so G hs) (fun s H Cc cl fp => okG_of tg scope tge g3.1 _ k (G.blk s H scope Cc cl fp)) ht
            (fun s H Cc cl fp => okI_of it2 _ ite2 tge2 g1.2 _ k scope (G.blk s H scope Cc cl fp) (ss s H Cc cl fp)) (fun s H Cc cl fp => okG_of tg2 scope tge2 g3.2 _ k (G.blk s H scope Cc cl fp)) ht2
            (fun s H Cc cl fp => okE_of el _ elt h.2 _ k scope (G.blk s H scope Cc cl fp) (ss s H Cc cl fp)) hgt hgt2
          rw [mo] at z
          exact z
    | _ => exact ff h
  | .lrg as, sc, e, h, Γ, k, so, G, hs => by
    obtain ⟨x, p0, y, p1, es, p2, p, rfl, h⟩ := lrg_inv h
    have h := and2 h
    have h1 := and2 h.1
    have h2 := and2 h1.1
    have h3 := and2 h2.1
    have h4 := and2 h3.1
    have h5 := and2 h4.1
    have h6 := and2 h5.1
    have h7 := and2 h6.1
    have ex : x = "list" := of_decide_eq_true h7.1
    have ey : y = "range" := of_decide_eq_true h7.2
    subst ex
    subst ey
    have hg : Gl Γ.X "list" := glb_ok (by rw [hs]; exact h4.2)
    have hg2 : Gl Γ.X "range" := glb_ok (by rw [hs]; exact h3.2)
    have hm := G.blt _ (of_decide_eq_true h6.2)
    have hm2 := G.blt _ (of_decide_eq_true h5.2)
    match es, h1.2, of_decide_eq_true h2.2, h.2 with
    | [e1], hn, _, hA =>
      have hn := and2 (by simpa [List.all_cons] using hn : (nst e1 && true) = true)
      cases as with
      | cons ca r =>
        have h7 := and2 (show (nst e1 && chkE Y ca sc e1 && chkA Y r sc []) = true from hA)
        cases r with
        | nil => exact okn_upto G.calm hg hm hg2 hm2 (okE_of ca sc e1 (and2 h7.1).2 Γ k so G hs) (star_ok hn.1)
        | _ => exact ff h7.2
      | _ => exact ff hA
    | [e1, e2], hn, _, hA =>
      have hn := and2 (by simpa [List.all_cons] using hn : (nst e1 && nst e2) = true)
      cases as with
      | cons ca r =>
        have h7 := and2 (show (nst e1 && chkE Y ca sc e1 && chkA Y r sc [e2]) = true from hA)
        cases r with
        | cons cb r2 =>
          have h8 := and2 (show (nst e2 && chkE Y cb sc e2 && chkA Y r2 sc []) = true from h7.2)
          cases r2 with
          | nil => exact okn_from1 G.calm hg hm hg2 hm2 (okE_of ca sc e1 (and2 h7.1).2 Γ k so G hs) (okE_of cb sc e2 (and2 h8.1).2 Γ k so G hs) (star_ok hn.1) (star_ok hn.2)
          | _ => exact ff h8.2
        | _ => exact ff h7.2
      | _ => exact ff hA
    | [], _, q, _ => exact absurd q (by simp)
    | _ :: _ :: _ :: _, _, q, _ => exact absurd q (by simp)
  | .nsl a lo hi, sc, e, h, Γ, k, so, G, hs => by
    cases e with
    | Subscript o sl p =>
      cases sl with
      | Slice l u st p2 =>
        have h := and2 (show (st.isNone && chkE Y a sc o && chkO Y lo sc l && chkO Y hi sc u) = true from h)
        have h1 := and2 h.1
        have h2 := and2 h1.1
        cases st with
        | some _ => exact ff h2.1
        | none => exact okn_slice (okE_of a sc o h2.2 Γ k so G hs) (okO_of lo sc l h1.2 Γ k so G hs) (okO_of hi sc u h.2 Γ k so G hs)
      | _ => exact ff h
    | _ => exact ff h
  | .slot _, _, _, h, _, _, _, _, _
  | .cst _, _, _, h, _, _, _, _, _
  | .glob _ _, _, _, h, _, _, _, _, _
  | .bin _ _ _, _, _, h, _, _, _, _, _
  | .neg _, _, _, h, _, _, _, _, _
  | .cmp _ _ _, _, _, h, _, _, _, _, _
  | .cmp2 _ _ _ _ _, _, _, h, _, _, _, _, _
  | .not _, _, _, h, _, _, _, _, _
  | .and _ _, _, _, h, _, _, _, _, _
  | .or _ _, _, _, h, _, _, _, _, _
  | .ife _ _ _, _, _, h, _, _, _, _, _
  | .tup _, _, _, h, _, _, _, _, _
  | .call _ _, _, _, h, _, _, _, _, _
  | .told _, _, _, h, _, _, _, _, _
  | .meth _ _ _, _, _, h, _, _, _, _, _
  | .make _ _, _, _, h, _, _, _, _, _
  | .bcall _ _, _, _, h, _, _, _, _, _
  | .bmeth _ _ _, _, _, h, _, _, _, _, _
  | .ix _ _, _, _, h, _, _, _, _, _
  | .fld _ _, _, _, h, _, _, _, _, _
  | .slice _ _ _, _, _, h, _, _, _, _, _
  | .rev _, _, _, h, _, _, _, _, _
  | .two _ _, _, _, h, _, _, _, _, _
  | .newT _, _, _, h, _, _, _, _, _
  | .newC _, _, _, h, _, _, _, _, _
  | .dict0, _, _, h, _, _, _, _, _
  | .nil, _, _, h, _, _, _, _, _
  | .cons _ _, _, _, h, _, _, _, _, _
  | .irange _, _, _, h, _, _, _, _, _
  | .ienum _, _, _, h, _, _, _, _, _
  | .izip _ _, _, _, h, _, _, _, _, _
  | .ival _, _, _, h, _, _, _, _, _
  | .tslot _, _, _, h, _, _, _, _, _
  | .ttup _, _, _, h, _, _, _, _, _
  | .tsub _ _, _, _, h, _, _, _, _, _
  | .tfld _ _, _, _, h, _, _, _, _, _
  | .expr _, _, _, h, _, _, _, _, _
  | .asg _ _, _, _, h, _, _, _, _, _
  | .aug _ _ _, _, _, h, _, _, _, _, _
  | .augF _ _ _ _, _, _, h, _, _, _, _, _
  | .augS _ _ _ _, _, _, h, _, _, _, _, _
  | .ret _, _, _, h, _, _, _, _, _
  | .retN, _, _, h, _, _, _, _, _
  | .ifs _ _ _, _, _, h, _, _, _, _, _
  | .whl _ _, _, _, h, _, _, _, _, _
  | .fors _ _ _, _, _, h, _, _, _, _, _
  | .raise _, _, _, h, _, _, _, _, _
  | .pass, _, _, h, _, _, _, _, _
  | .brk, _, _, h, _, _, _, _, _
  | .cont, _, _, h, _, _, _, _, _
  | .del _ _, _, _, h, _, _, _, _, _
  | .seq _ _, _, _, h, _, _, _, _, _
  | .done, _, _, h, _, _, _, _, _
  | .dict1, _, _, h, _, _, _, _, _
  | .lck _ _, _, _, h, _, _, _, _, _
  | .xf _ _ _, _, _, h, _, _, _, _, _ => ff h
theorem okA_of {Y : Ck} : ∀ (c : C) (sc : Scope) (es : List Expr), chkA Y c sc es = true → ∀ (Γ : Set0) (k : Nat) (so : Scope), Gd Γ k Y so → Γ.X.env.scope = sc → OkA Γ es c
  | .nil, sc, es, h, Γ, k, so, G, hs => by
    cases es with
    | nil => exact oka_nil
    | cons _ _ => exact ff h
  | .cons a r, sc, es, h, Γ, k, so, G, hs => by
    cases es with
    | nil => exact ff h
    | cons e es =>
      have h := and2 (show (nst e && chkE Y a sc e && chkA Y r sc es) = true from h)
      have h1 := and2 h.1
      exact oka_cons (okE_of a sc e h1.2 Γ k so G hs) (okA_of r sc es h.2 Γ k so G hs) (star_ok h1.1)
  | .slot _, _, _, h, _, _, _, _, _
  | .cst _, _, _, h, _, _, _, _, _
  | .glob _ _, _, _, h, _, _, _, _, _
  | .bin _ _ _, _, _, h, _, _, _, _, _
  | .neg _, _, _, h, _, _, _, _, _
  | .cmp _ _ _, _, _, h, _, _, _, _, _
  | .cmp2 _ _ _ _ _, _, _, h, _, _, _, _, _
  | .not _, _, _, h, _, _, _, _, _
  | .and _ _, _, _, h, _, _, _, _, _
  | .or _ _, _, _, h, _, _, _, _, _
  | .ife _ _ _, _, _, h, _, _, _, _, _
  | .tup _, _, _, h, _, _, _, _, _
  | .call _ _, _, _, h, _, _, _, _, _
  | .told _, _, _, h, _, _, _, _, _
  | .meth _ _ _, _, _, h, _, _, _, _, _
  | .make _ _, _, _, h, _, _, _, _, _
  | .bcall _ _, _, _, h, _, _, _, _, _
  | .bmeth _ _ _, _, _, h, _, _, _, _, _
  | .ix _ _, _, _, h, _, _, _, _, _
  | .fld _ _, _, _, h, _, _, _, _, _
  | .slice _ _ _, _, _, h, _, _, _, _, _
  | .rev _, _, _, h, _, _, _, _, _
  | .two _ _, _, _, h, _, _, _, _, _
  | .lrg _, _, _, h, _, _, _, _, _
  | .newT _, _, _, h, _, _, _, _, _
  | .newC _, _, _, h, _, _, _, _, _
  | .dict0, _, _, h, _, _, _, _, _
  | .lst _, _, _, h, _, _, _, _, _
  | .comp _ _ _ _ _, _, _, h, _, _, _, _, _
  | .comp2 _ _ _ _ _ _ _ _, _, _, h, _, _, _, _, _
  | .nb _ _, _, _, h, _, _, _, _, _
  | .nsl _ _ _, _, _, h, _, _, _, _, _
  | .irange _, _, _, h, _, _, _, _, _
  | .ienum _, _, _, h, _, _, _, _, _
  | .izip _ _, _, _, h, _, _, _, _, _
  | .ival _, _, _, h, _, _, _, _, _
  | .tslot _, _, _, h, _, _, _, _, _
  | .ttup _, _, _, h, _, _, _, _, _
  | .tsub _ _, _, _, h, _, _, _, _, _
  | .tfld _ _, _, _, h, _, _, _, _, _
  | .expr _, _, _, h, _, _, _, _, _
  | .asg _ _, _, _, h, _, _, _, _, _
  | .aug _ _ _, _, _, h, _, _, _, _, _
  | .augF _ _ _ _, _, _, h, _, _, _, _, _
  | .augS _ _ _ _, _, _, h, _, _, _, _, _
  | .ret _, _, _, h, _, _, _, _, _
  | .retN, _, _, h, _, _, _, _, _
  | .ifs _ _ _, _, _, h, _, _, _, _, _
  | .whl _ _, _, _, h, _, _, _, _, _
  | .fors _ _ _, _, _, h, _, _, _, _, _
  | .raise _, _, _, h, _, _, _, _, _
  | .pass, _, _, h, _, _, _, _, _
  | .brk, _, _, h, _, _, _, _, _
  | .cont, _, _, h, _, _, _, _, _
  | .del _ _, _, _, h, _, _, _, _, _
  | .seq _ _, _, _, h, _, _, _, _, _
  | .done, _, _, h, _, _, _, _, _
  | .dict1, _, _, h, _, _, _, _, _
  | .lck _ _, _, _, h, _, _, _, _, _
  | .xf _ _ _, _, _, h, _, _, _, _, _ => ff h
theorem okI_of {Y : Ck} : ∀ (c : C) (sc : Scope) (e tg : Expr), chkI Y c sc e tg = true → ∀ (Γ : Set0) (k : Nat) (so : Scope), Gd Γ k Y so → Γ.X.env.scope = sc → OkI Γ tg e c
  | .ival a, sc, e, tg, h, Γ, k, so, G, hs => oki_val (okE_of a sc e h Γ k so G hs)
  | .irange as, sc, e, tg, h, Γ, k, so, G, hs => by
    cases e with
    | Call fe es kw p =>
      cases fe with
      | Name x p0 =>
        cases kw with
        | cons _ _ => exact ff h
        | nil =>
          have h := and2 (show (decide (x = "range") && decide (x ∈ Y.blt) && glbB sc x && decide (es.length = 1 ∨ es.length = 2 ∨ es.length = 3) && es.all nst && chkA Y as sc es) = true from h)
          have h1 := and2 h.1
          have h2 := and2 h1.1
          have h3 := and2 h2.1
          have h4 := and2 h3.1
          have ex : x = "range" := of_decide_eq_true h4.1
          subst ex
          have hg : Gl Γ.X "range" := glb_ok (by rw [hs]; exact h3.2)
          have hm := G.blt _ (of_decide_eq_true h4.2)
          have ha := okA_of as sc es h.2 Γ k so G hs
          have hl := chkA_len as h.2
          match es, ha, hl, h1.2, of_decide_eq_true h2.2 with
          | [e1], ha, hl, hn, _ =>
            have hn := and2 (by simpa [List.all_cons] using hn : (nst e1 && true) = true)
            exact oki_range1 hg hm ha hl (star_ok hn.1)
          | [e1, e2], ha, hl, hn, _ =>
            have hn := and2 (by simpa [List.all_cons] using hn : (nst e1 && nst e2) = true)
            exact oki_range2 hg hm ha hl (by rw [star_ok hn.1, star_ok hn.2]; rfl) (star_ok hn.2)
          | [e1, e2, e3], ha, hl, hn, _ =>
            have hn := and2 (by simpa [List.all_cons] using hn : (nst e1 && (nst e2 && nst e3)) = true)
            have hn2 := and2 hn.2
            exact oki_range3 hg hm ha hl (star_ok hn.1) (by rw [star_ok hn2.1, star_ok hn2.2]; rfl)
          | [], _, _, _, q => exact absurd q (by simp)
          | _ :: _ :: _ :: _ :: _, _, _, _, q => exact absurd q (by simp)
      | _ => exact ff h
    | _ => exact ff h
  | .ienum a, sc, e, tg, h, Γ, k, so, G, hs => by
    cases e with
    | Call fe es kw p =>
      cases fe with
      | Name x p0 =>
        cases kw with
        | cons _ _ => exact chkI_no1 h
        | nil =>
          cases tg with
          | Tuple elts kk tpos =>
            match es, h with
            | [e1], h =>
              have h := and2 (show (decide (x = "enumerate") && decide (x ∈ Y.blt) && glbB sc x && nst e1 && chkE Y a sc e1) = true from h)
              have h1 := and2 h.1
              have h2 := and2 h1.1
              have h3 := and2 h2.1
              have ex : x = "enumerate" := of_decide_eq_true h3.1
              subst ex
              exact oki_enum (glb_ok (by rw [hs]; exact h2.2)) (G.blt _ (of_decide_eq_true h3.2)) (okE_of a sc e1 h.2 Γ k so G hs) (star_ok h1.2)
            | [], h => exact ff h
            | _ :: _ :: _, h => exact ff h
          | _ => exact chkI_no2 (by intro _ _ _ q; cases q) h
      | _ => exact ff h
    | _ => exact ff h
  | .izip a b, sc, e, tg, h, Γ, k, so, G, hs => by
    cases e with
    | Call fe es kw p =>
      cases fe with
      | Name x p0 =>
        cases kw with
        | cons _ _ => exact chkI_no3 h
        | nil =>
          cases tg with
          | Tuple elts kk tpos =>
            match es, h with
            | [e1, e2], h =>
              have h := and2 (show (decide (x = "zip") && decide (x ∈ Y.blt) && glbB sc x && nst e1 && nst e2 && chkE Y a sc e1 && chkE Y b sc e2) = true from h)
              have h0 := and2 h.1
              have h1 := and2 h0.1
              have h1' := and2 h1.1
              have h2 := and2 h1'.1
              have h3 := and2 h2.1
              have ex : x = "zip" := of_decide_eq_true h3.1
              subst ex
              exact oki_zip (glb_ok (by rw [hs]; exact h2.2)) (G.blt _ (of_decide_eq_true h3.2)) (okE_of a sc e1 h0.2 Γ k so G hs) (okE_of b sc e2 h.2 Γ k so G hs) (by rw [star_ok h1'.2]) (star_ok h1.2) (by rw [star_ok h1.2]; rfl)
            | [], h => exact ff h
            | [_], h => exact ff h
            | _ :: _ :: _ :: _, h => exact ff h
          | _ => exact chkI_no4 (by intro _ _ _ q; cases q) h
      | _ => exact ff h
    | _ => exact ff h
  | .slot _, _, _, _, h, _, _, _, _, _
  | .cst _, _, _, _, h, _, _, _, _, _
  | .glob _ _, _, _, _, h, _, _, _, _, _
  | .bin _ _ _, _, _, _, h, _, _, _, _, _
  | .neg _, _, _, _, h, _, _, _, _, _
  | .cmp _ _ _, _, _, _, h, _, _, _, _, _
  | .cmp2 _ _ _ _ _, _, _, _, h, _, _, _, _, _
  | .not _, _, _, _, h, _, _, _, _, _
  | .and _ _, _, _, _, h, _, _, _, _, _
  | .or _ _, _, _, _, h, _, _, _, _, _
  | .ife _ _ _, _, _, _, h, _, _, _, _, _
  | .tup _, _, _, _, h, _, _, _, _, _
  | .call _ _, _, _, _, h, _, _, _, _, _
  | .told _, _, _, _, h, _, _, _, _, _
  | .meth _ _ _, _, _, _, h, _, _, _, _, _
  | .make _ _, _, _, _, h, _, _, _, _, _
  | .bcall _ _, _, _, _, h, _, _, _, _, _
  | .bmeth _ _ _, _, _, _, h, _, _, _, _, _
  | .ix _ _, _, _, _, h, _, _, _, _, _
  | .fld _ _, _, _, _, h, _, _, _, _, _
  | .slice _ _ _, _, _, _, h, _, _, _, _, _
  | .rev _, _, _, _, h, _, _, _, _, _
  | .two _ _, _, _, _, h, _, _, _, _, _
  | .lrg _, _, _, _, h, _, _, _, _, _
  | .newT _, _, _, _, h, _, _, _, _, _
  | .newC _, _, _, _, h, _, _, _, _, _
  | .dict0, _, _, _, h, _, _, _, _, _
  | .lst _, _, _, _, h, _, _, _, _, _
  | .comp _ _ _ _ _, _, _, _, h, _, _, _, _, _
  | .comp2 _ _ _ _ _ _ _ _, _, _, _, h, _, _, _, _, _
  | .nb _ _, _, _, _, h, _, _, _, _, _
  | .nsl _ _ _, _, _, _, h, _, _, _, _, _
  | .nil, _, _, _, h, _, _, _, _, _
  | .cons _ _, _, _, _, h, _, _, _, _, _
  | .tslot _, _, _, _, h, _, _, _, _, _
  | .ttup _, _, _, _, h, _, _, _, _, _
  | .tsub _ _, _, _, _, h, _, _, _, _, _
  | .tfld _ _, _, _, _, h, _, _, _, _, _
  | .expr _, _, _, _, h, _, _, _, _, _
  | .asg _ _, _, _, _, h, _, _, _, _, _
  | .aug _ _ _, _, _, _, h, _, _, _, _, _
  | .augF _ _ _ _, _, _, _, h, _, _, _, _, _
  | .augS _ _ _ _, _, _, _, h, _, _, _, _, _
  | .ret _, _, _, _, h, _, _, _, _, _
  | .retN, _, _, _, h, _, _, _, _, _
  | .ifs _ _ _, _, _, _, h, _, _, _, _, _
  | .whl _ _, _, _, _, h, _, _, _, _, _
  | .fors _ _ _, _, _, _, h, _, _, _, _, _
  | .raise _, _, _, _, h, _, _, _, _, _
  | .pass, _, _, _, h, _, _, _, _, _
  | .brk, _, _, _, h, _, _, _, _, _
  | .cont, _, _, _, h, _, _, _, _, _
  | .del _ _, _, _, _, h, _, _, _, _, _
  | .seq _ _, _, _, _, h, _, _, _, _, _
  | .done, _, _, _, h, _, _, _, _, _
  | .dict1, _, _, _, h, _, _, _, _, _
  | .lck _ _, _, _, _, h, _, _, _, _, _
  | .xf _ _ _, _, _, _, h, _, _, _, _, _ => ff h
theorem okO_of {Y : Ck} : ∀ (c : C) (sc : Scope) (e : Option Expr), chkO Y c sc e = true → ∀ (Γ : Set0) (k : Nat) (so : Scope), Gd Γ k Y so → Γ.X.env.scope = sc → OkO Γ e c
  | .nil, sc, e, h, Γ, k, so, G, hs => by
    cases e with
    | none => exact oko_none
    | some _ => exact ff h
  | .cons a r, sc, e, h, Γ, k, so, G, hs => by
    cases e with
    | none => exact ff h
    | some e =>
      have h := and2 (show (isNil r && chkE Y a sc e) = true from h)
      have er := isNil_ok h.1
      subst er
      exact oko_some (okE_of a sc e h.2 Γ k so G hs)
  | .slot _, _, _, h, _, _, _, _, _
  | .cst _, _, _, h, _, _, _, _, _
  | .glob _ _, _, _, h, _, _, _, _, _
  | .bin _ _ _, _, _, h, _, _, _, _, _
  | .neg _, _, _, h, _, _, _, _, _
  | .cmp _ _ _, _, _, h, _, _, _, _, _
  | .cmp2 _ _ _ _ _, _, _, h, _, _, _, _, _
  | .not _, _, _, h, _, _, _, _, _
  | .and _ _, _, _, h, _, _, _, _, _
  | .or _ _, _, _, h, _, _, _, _, _
  | .ife _ _ _, _, _, h, _, _, _, _, _
  | .tup _, _, _, h, _, _, _, _, _
  | .call _ _, _, _, h, _, _, _, _, _
  | .told _, _, _, h, _, _, _, _, _
  | .meth _ _ _, _, _, h, _, _, _, _, _
  | .make _ _, _, _, h, _, _, _, _, _
  | .bcall _ _, _, _, h, _, _, _, _, _
  | .bmeth _ _ _, _, _, h, _, _, _, _, _
  | .ix _ _, _, _, h, _, _, _, _, _
  | .fld _ _, _, _, h, _, _, _, _, _
  | .slice _ _ _, _, _, h, _, _, _, _, _
  | .rev _, _, _, h, _, _, _, _, _
  | .two _ _, _, _, h, _, _, _, _, _
  | .lrg _, _, _, h, _, _, _, _, _
  | .newT _, _, _, h, _, _, _, _, _
  | .newC _, _, _, h, _, _, _, _, _
  | .dict0, _, _, h, _, _, _, _, _
  | .lst _, _, _, h, _, _, _, _, _
  | .comp _ _ _ _ _, _, _, h, _, _, _, _, _
  | .comp2 _ _ _ _ _ _ _ _, _, _, h, _, _, _, _, _
  | .nb _ _, _, _, h, _, _, _, _, _
  | .nsl _ _ _, _, _, h, _, _, _, _, _
  | .irange _, _, _, h, _, _, _, _, _
  | .ienum _, _, _, h, _, _, _, _, _
  | .izip _ _, _, _, h, _, _, _, _, _
  | .ival _, _, _, h, _, _, _, _, _
  | .tslot _, _, _, h, _, _, _, _, _
  | .ttup _, _, _, h, _, _, _, _, _
  | .tsub _ _, _, _, h, _, _, _, _, _
  | .tfld _ _, _, _, h, _, _, _, _, _
  | .expr _, _, _, h, _, _, _, _, _
  | .asg _ _, _, _, h, _, _, _, _, _
  | .aug _ _ _, _, _, h, _, _, _, _, _
  | .augF _ _ _ _, _, _, h, _, _, _, _, _
  | .augS _ _ _ _, _, _, h, _, _, _, _, _
  | .ret _, _, _, h, _, _, _, _, _
  | .retN, _, _, h, _, _, _, _, _
  | .ifs _ _ _, _, _, h, _, _, _, _, _
  | .whl _ _, _, _, h, _, _, _, _, _
  | .fors _ _ _, _, _, h, _, _, _, _, _
  | .raise _, _, _, h, _, _, _, _, _
  | .pass, _, _, h, _, _, _, _, _
  | .brk, _, _, h, _, _, _, _, _
  | .cont, _, _, h, _, _, _, _, _
  | .del _ _, _, _, h, _, _, _, _, _
  | .seq _ _, _, _, h, _, _, _, _, _
  | .done, _, _, h, _, _, _, _, _
  | .dict1, _, _, h, _, _, _, _, _
  | .lck _ _, _, _, h, _, _, _, _, _
  | .xf _ _ _, _, _, h, _, _, _, _, _ => ff h
end
end
end Ev

set_option Elab.async false
set_option linter.all false
set_option maxRecDepth 100000
set_option maxHeartbeats 4000000
namespace Ev
open PySem PySem.Spec PyProof.Rows L2
/-! ### how a store is written -/
def isComp : Expr → Bool
  | .ListComp _ _ _ _ => true
  | .SetComp _ _ _ _ => true
  | .DictComp _ _ _ _ _ => true
  | _ => false
theorem swaps_none {e : Expr} {n : Nat} {env : PySem.Env} {t : Option Expr} (h : isComp e = false) : swapsWith e t n env = pure false := by
  cases e <;> first | rfl | cases h
theorem swaps_attr {e o : Expr} {x : Str} {p : Pos} {n : Nat} {env : PySem.Env} : swapsWith e (some (.Attribute o x p)) n env = pure false := by cases e <;> rfl
theorem sole_sub {e a b : Expr} {p : Pos} {n : Nat} {env : PySem.Env} : swapsWithSole [.Subscript a b p] e n env = pure false := by cases e <;> rfl
theorem sole_none {e tg : Expr} {n : Nat} {env : PySem.Env} (h : isComp e = false) : swapsWithSole [tg] e n env = pure false := swaps_none h
/-- a comprehension given to a name: stored by itself, or as any value -/
def swB (sc scope : Scope) (y : Str) (py ep : Pos) : Bool :=
  (sc.names.lookup y == some .local) && (py.line == ep.line) && !(scope.names.any fun (n, k) => n == y && (k == .local || k == .cell))
theorem swaps_comp {elt : Expr} {gs : List Comprehension} {scope : Scope} {ep py : Pos} {y : Str} {n : Nat} {env : PySem.Env} (hk : env.scope.kind = .function) : swapsWith (.ListComp elt gs scope ep) (some (.Name y py)) n env = pure (swB env.scope scope y py ep) := by
  have hb : env.blockKind = .function := by unfold PySem.Env.blockKind; rw [hk]; rfl
  show (pure (env.blockKind == .function && env.kindOf y == some .local && py.line == ep.line && !(scope.names.any fun (n, k) => n == y && (k == .local || k == .cell))) : Sem Bool) = _
  rw [hb]
  show (pure ((ScopeKind.function == ScopeKind.function) && env.kindOf y == some .local && py.line == ep.line && !(scope.names.any fun (n, k) => n == y && (k == .local || k == .cell))) : Sem Bool) = _
  rw [show (ScopeKind.function == ScopeKind.function) = true from rfl, Bool.true_and]
  rfl
def isTup : Expr → Bool
  | .Tuple _ _ _ => true
  | _ => false
theorem swapped_val {tg e : Expr} {env : PySem.Env} (h : isTup e = false) : swappedStores [tg] e env = pure none := by
  cases e <;> first | (cases tg <;> rfl) | cases h
def isTL : Expr → Bool
  | .Tuple _ _ _ => true
  | .List _ _ => true
  | _ => false
theorem swapped_tg {tg e : Expr} {env : PySem.Env} (h : isTL tg = false) : swappedStores [tg] e env = pure none := by
  cases tg <;> first | (cases e <;> rfl) | cases h
/-- a tuple given to a tuple of targets of which one is no plain local name on the first's line -/
def namesL (sc : Scope) (line : Nat) (ts : List Expr) : List Str := ts.filterMap fun
    | .Name id pos => if sc.names.lookup id == some .local && pos.line == line then some id else none
    | _ => none
/-- no names of ts are given their values in another order -/
def noSw (sc : Scope) (ts : List Expr) : Bool := ((namesL sc ((ts.head?.map (·.pos.line)).getD 0) ts).length != ts.length) || !(ts.length == 2 || ts.length == 3)
theorem swapped_no {ts vs : List Expr} {n m : Nat} {p q : Pos} {env : PySem.Env} (hs : vs.all nst = true) (h' : noSw env.scope ts = true) :
    swappedStores [.Tuple ts n p] (.Tuple vs m q) env = pure none := by
  unfold swappedStores
  show (if (!(ts.length == 2 || ts.length == 3) || vs.length != ts.length || env.blockKind != .function) = true then (pure none : Sem _) else _) = _
  split
  · rfl
  · rename_i nn
    have h : ((namesL env.scope ((ts.head?.map (·.pos.line)).getD 0) ts).length != ts.length) = true := by
      rcases Bool.or_eq_true_iff.mp h' with h | h
      · exact h
      · exact absurd (by rw [h]; rfl) nn
    have z : (vs.any fun | .Starred .. => true | _ => false) = false := by
      rw [List.any_eq_false]
      intro x hx
      have := List.all_eq_true.mp hs x hx
      cases x <;> first | exact absurd (show false = true from this) Bool.false_ne_true | simp
    show (if (vs.any fun | .Starred .. => true | _ => false) = true then (pure none : Sem _) else _) = _
    rw [z, if_neg (by decide)]
    show (if ((namesL env.scope ((ts.head?.map (·.pos.line)).getD 0) ts).length != ts.length || _) = true then (pure none : Sem _) else _) = _
    rw [h, Bool.true_or, if_pos rfl]
def parB (sc : Scope) : Expr → Expr → Bool
  | .Tuple [.Name x px, .Name y py] _ _, .Tuple [a, b] _ _ => (sc.names.lookup x == some .local) && (sc.names.lookup y == some .local) && (py.line == px.line) && !(x == y) && nst a && nst b &&
      !([a, b].all (foldedForSure 8)) && !([a, b].all (constantsAlone 8))
  | .Tuple [.Name x px, .Name y py, .Name z pz] _ _, .Tuple [a, b, c] _ _ => (sc.names.lookup x == some .local) && (sc.names.lookup y == some .local) && (sc.names.lookup z == some .local) && (py.line == px.line) && (pz.line == px.line) && !(x == y) && !(x == z) && !(y == z) && nst a && nst b && nst c &&
      !([a, b, c].all (foldedForSure 8)) && !([a, b, c].all (constantsAlone 8))
  | _, _ => false
theorem star_no {vs : List Expr} (hs : vs.all nst = true) : (vs.any fun | .Starred .. => true | _ => false) = false := by
  rw [List.any_eq_false]
  intro x hx
  have := List.all_eq_true.mp hs x hx
  cases x <;> first | exact absurd (show false = true from this) Bool.false_ne_true | simp
theorem swapped_par2 {x y : Str} {px py p q : Pos} {a b : Expr} {n m : Nat} {env : PySem.Env} (hk : env.scope.kind = .function) (h : parB env.scope (.Tuple [.Name x px, .Name y py] n p) (.Tuple [a, b] m q) = true) :
    swappedStores [.Tuple [.Name x px, .Name y py] n p] (.Tuple [a, b] m q) env = pure (some [x, y]) := by
  have hb : env.blockKind = .function := by unfold PySem.Env.blockKind; rw [hk]; rfl
  have h : ((env.scope.names.lookup x == some .local) && (env.scope.names.lookup y == some .local) && (py.line == px.line) && !(x == y) && nst a && nst b &&
      !([a, b].all (foldedForSure 8)) && !([a, b].all (constantsAlone 8))) = true := h
  simp only [Bool.and_eq_true, Bool.not_eq_true', beq_iff_eq, beq_eq_false_iff_ne] at h
  obtain ⟨⟨⟨⟨⟨⟨⟨hx, hy⟩, hl⟩, hxy⟩, na⟩, nb⟩, hf⟩, hc⟩ := h
  have z := star_no (vs := [a, b]) (by simp [na, nb])
  have kx : env.kindOf x = some .local := hx
  have ky : env.kindOf y = some .local := hy
  have hyx : (y == x) = false := beq_eq_false_iff_ne.mpr fun e => hxy e.symm
  have dd : ([x, y] : List Str).eraseDups = [x, y] := by
    simp [List.eraseDups_cons, hyx]
  unfold swappedStores
  simp only [hb, z, hf, hc]
  simp [kx, ky, hl, dd, Expr.pos]
  intro q
  rcases q with q | q
  · cases a <;> first | exact absurd (show false = true from na) Bool.false_ne_true | cases q
  · cases b <;> first | exact absurd (show false = true from nb) Bool.false_ne_true | cases q
theorem swapped_par3 {x y w : Str} {px py pw p q : Pos} {a b c : Expr} {n m : Nat} {env : PySem.Env} (hk : env.scope.kind = .function) (h : parB env.scope (.Tuple [.Name x px, .Name y py, .Name w pw] n p) (.Tuple [a, b, c] m q) = true) :
    swappedStores [.Tuple [.Name x px, .Name y py, .Name w pw] n p] (.Tuple [a, b, c] m q) env = pure (some [x, y, w]) := by
  have hb : env.blockKind = .function := by unfold PySem.Env.blockKind; rw [hk]; rfl
  have h : ((env.scope.names.lookup x == some .local) && (env.scope.names.lookup y == some .local) && (env.scope.names.lookup w == some .local) && (py.line == px.line) && (pw.line == px.line) && !(x == y) && !(x == w) && !(y == w) && nst a && nst b && nst c &&
      !([a, b, c].all (foldedForSure 8)) && !([a, b, c].all (constantsAlone 8))) = true := h
  simp only [Bool.and_eq_true, Bool.not_eq_true', beq_iff_eq, beq_eq_false_iff_ne] at h
  obtain ⟨⟨⟨⟨⟨⟨⟨⟨⟨⟨⟨⟨hx, hy⟩, hw⟩, hl⟩, hl2⟩, hxy⟩, hxw⟩, hyw⟩, na⟩, nb⟩, nc⟩, hf⟩, hc⟩ := h
  have z := star_no (vs := [a, b, c]) (by simp [na, nb, nc])
  have kx : env.kindOf x = some .local := hx
  have ky : env.kindOf y = some .local := hy
  have kw : env.kindOf w = some .local := hw
  have hyx : (y == x) = false := beq_eq_false_iff_ne.mpr fun e => hxy e.symm
  have hwx : (w == x) = false := beq_eq_false_iff_ne.mpr fun e => hxw e.symm
  have hwy : (w == y) = false := beq_eq_false_iff_ne.mpr fun e => hyw e.symm
  have dd : ([x, y, w] : List Str).eraseDups = [x, y, w] := by
    simp [List.eraseDups_cons, hyx, hwx, hwy]
  unfold swappedStores
  simp only [hb, z, hf, hc]
  simp [kx, ky, kw, hl, hl2, dd, Expr.pos]
  intro q
  rcases q with q | q | q
  · cases a <;> first | exact absurd (show false = true from na) Bool.false_ne_true | cases q
  · cases b <;> first | exact absurd (show false = true from nb) Bool.false_ne_true | cases q
  · cases c <;> first | exact absurd (show false = true from nc) Bool.false_ne_true | cases q
end Ev

set_option Elab.async false
set_option linter.all false
set_option maxRecDepth 100000
set_option maxHeartbeats 4000000
namespace Ev
open PySem PySem.Spec PyProof.Rows L2

theorem oks_par3 {Γ : Set0} {a b c : Expr} {ca : C} {pos : Pos} {j l r : Nat} {x y w : Str} {px py pw pt : Pos} {kt k2 : Nat} {pt2 : Pos} (hc : Γ.X.calm = true) (hN : Γ.X.N.Nodup) (hi : Γ.X.N[j]? = some x) (hj : Γ.X.N[l]? = some y) (hk : Γ.X.N[r]? = some w) (hij : j ≠ l) (hik : j ≠ r) (hjk : l ≠ r)
    (hx : Γ.X.env.scope.names.lookup x = some .local) (hy : Γ.X.env.scope.names.lookup y = some .local) (hz : Γ.X.env.scope.names.lookup w = some .local) (ha : OkA Γ [a, b, c] ca) (hcl : clen ca = 3)
    (hw : swappedStores [.Tuple [.Name x px, .Name y py, .Name w pw] kt pt] (.Tuple [a, b, c] k2 pt2) Γ.X.env = pure (some [x, y, w]))
    (hs : swapsWithSole [.Tuple [.Name x px, .Name y py, .Name w pw] kt pt] (.Tuple [a, b, c] k2 pt2) pos.line Γ.X.env = pure false) :
    OkS Γ (.Assign [.Tuple [.Name x px, .Name y py, .Name w pw] kt pt] (.Tuple [a, b, c] k2 pt2) pos) (.asg (.ttup (.cons (.tslot j) (.cons (.tslot l) (.cons (.tslot r) .nil)))) (.tup ca)) := by
  intro σ ρ κ s H D hr sl p
  refine twS (ps_par3 hc hN hi hj hk hij hik hjk hx hy hz paW hw hs) ?_
  refine ha σ ρ κ s H _ hr sl ?_
  unfold evS evE at p
  cases q : evA Γ.P Γ.T ca ρ s with
  | stuck => rw [q] at p; exact p.elim
  | exc x s1 => rw [q] at p; exact fun κ1 H1 t h1 => p κ1 H1 σ t h1 (sl.tr t)
  | ok ds s1 =>
    rw [q] at p
    intro κ1 H1 vs t1 h1 rs
    have hl := evA_len ca q
    rw [hcl] at hl
    match ds, rs, hl with
    | [d1, d2, d3], .cons r1 (.cons r2 (.cons r3 .nil)), _ =>
      refine ⟨_, _, _, rfl, ?_⟩
      have p1 := SRok.tr t1 p
      change SRok Γ D κ1 s1.nx H1 (match evT Γ.P Γ.T (.ttup (.cons (.tslot j) (.cons (.tslot l) (.cons (.tslot r) .nil)))) (.tuple [d1, d2, d3]) ρ s1 with | .ok ρ1 s2 => .nx ρ1 s2 | _ => .stuck) at p1
      have e1 : evT Γ.P Γ.T (.ttup (.cons (.tslot j) (.cons (.tslot l) (.cons (.tslot r) .nil)))) (.tuple [d1, d2, d3]) ρ s1 = if j < ρ.length ∧ l < ρ.length ∧ r < ρ.length then Res.ok (((ρ.set j (some d1)).set l (some d2)).set r (some d3)) s1 else .stuck := by
        by_cases z : j < ρ.length <;> by_cases z2 : l < ρ.length <;> by_cases z3 : r < ρ.length <;> simp [evT, evTs, tlen, Res.bind, z, z2, z3]
      rw [e1] at p1
      by_cases z : j < ρ.length ∧ l < ρ.length ∧ r < ρ.length
      · rw [if_pos z] at p1
        exact p1 κ1 H1 _ Tr.refl h1 ((((sl.tr t1).set r1).set r2).set r3)
      · rw [if_neg z] at p1; exact p1.elim

section
variable (Y : Ck)
def asgB (sc : Scope) : Expr → Expr → Bool
  | .Name _ _, .ListComp _ _ _ _ => true
  | .Subscript _ _ _, .ListComp _ _ _ _ => true
  | .Tuple ts n p, .Tuple vs m q => (vs.all nst && noSw sc ts) || parB sc (.Tuple ts n p) (.Tuple vs m q)
  | tg, e => !isComp e && (!isTup e || !isTL tg)
mutual
def chkTg : C → Scope → Expr → Bool
  | .tslot i, sc, .Name x _ => decide (Y.N[i]? = some x) && locB sc x
  | .ttup ts, sc, .Tuple es _ _ => decide (tlen ts = es.length) && es.all nst && chkTgs ts sc es
  | .tsub o i, sc, .Subscript oe ie _ => plainIxB ie && chkE Y o sc oe && chkE Y i sc ie
  | _, _, _ => false
def chkTgs : C → Scope → List Expr → Bool
  | .nil, _, [] => true
  | .cons t r, sc, e :: es => chkTg t sc e && chkTgs r sc es
  | _, _, _ => false
end
def augB : Bop → Operator → Bool
  | .add, .Add => true
  | .sub, .Sub => true
  | _, _ => false
def raiseN : Expr → Option Str
  | .Call (.Name nm _) [.Constant (.str _) _ _] [] _ => some nm
  | _ => none
theorem raiseN_some {e : Expr} {nm : Str} (h : raiseN e = some nm) : ∃ p0 m k p2 pp, e = .Call (.Name nm p0) [.Constant (.str m) k p2] [] pp := by
  unfold raiseN at h
  split at h
  · cases h; exact ⟨_, _, _, _, _, rfl⟩
  · cases h
mutual
def chkS : C → Scope → Stmt → Bool
  | .expr e, sc, .Expr ee _ => !isComp ee && chkE Y e sc ee
  | .asg (.tfld o f) e, sc, .Assign [.Attribute oe x _] ee _ => decide (Y.fld.lookup x = some f) && chkE Y o sc oe && chkE Y e sc ee
  | .asg t e, sc, .Assign [tg] ee _ => chkE Y e sc ee && chkTg Y t sc tg && asgB sc tg ee
  | .aug i o e, sc, .AugAssign (.Name x _) op ee _ => decide (Y.N[i]? = some x) && locB sc x && augB o op && chkE Y e sc ee
  | .augF o f p e, sc, .AugAssign (.Attribute oe x _) op ee _ => decide (Y.fld.lookup x = some f) && augB p op && chkE Y o sc oe && chkE Y e sc ee
  | .augS o i p e, sc, .AugAssign (.Subscript oe ie _) op ee _ => plainIxB ie && augB p op && chkE Y o sc oe && chkE Y i sc ie && chkE Y e sc ee
  | .ret e, sc, .Return (some ee) _ => chkE Y e sc ee
  | .retN, _, .Return none _ => true
  | .ifs t a b, sc, .If te ae be _ => tT t && chkE Y t sc te && chkB a sc ae && chkB b sc be
  | .whl t b, sc, .While te be [] _ => tT t && chkE Y t sc te && chkB b sc be
  | .fors t it b, sc, .For tg ite be [] _ => foldB ite && chkG Y t sc tg && chkI Y it sc ite tg && chkB b sc be
  | .raise x, sc, .Raise (some e) none _ => (raiseN e).any fun nm => decide (Y.exc.lookup nm = some x) && glbB sc nm && fineX nm
  | .pass, _, .Pass _ => true
  | .brk, _, .Break _ => true
  | .cont, _, .Continue _ => true
  | _, _, _ => false
def chkB : C → Scope → List Stmt → Bool
  | .done, _, [] => true
  | .seq a b, sc, st :: sts => chkS a sc st && chkB b sc sts
  | _, _, _ => false
end
end

structure ExcOk (Γ : Set0) (nm : Str) (x : Nat) : Prop where
  at_ : ∃ C, Γ.exV x = .ref C ∧ Γ.X.mg nm = some (.ref C) ∧ PySem.W.excIn Γ.X.K C [.type "ValueError", .type "Exception", .type "BaseException", .type "object"] "ValueError.__new__" = true ∧ PySem.W.keepIn Γ.X.K (.ref C) = true ∧ Raises Γ.X (.ref C)
structure GdS (Γ : Set0) (k : Nat) (Y : Ck) : Prop extends Gd Γ k Y Γ.X.env.scope where
  hp : PassesOwn (model Γ.X.prog Γ.X.w) Γ.X.A Γ.X.env Γ.X.xe
  kind : Γ.X.env.scope.kind = .function
  exc : ∀ nm x, Y.exc.lookup nm = some x → ExcOk Γ nm x

section
variable {Y : Ck}
/-- what a comprehension of the text is made of -/
theorem comp_parts {own : List Nat} {tg it cond el : C} {sc scope : Scope} {elt : Expr} {gs : List Comprehension} {p : Pos} (h : chkN Y (.comp own tg it cond el) sc (.ListComp elt gs scope p) = true) {Γ : Set0} {k : Nat} {so : Scope} (G : Gd Γ k Y so) (hs : Γ.X.env.scope = sc) :
    ∃ tge ite ifs, gs = [⟨tge, ite, ifs, 0⟩] ∧ (own.map fun i => (Y.N.getD i "", i)).map (·.2) = own ∧ BlkOk Γ.X.N Γ.X.env.scope scope (own.map fun i => (Y.N.getD i "", i)) ∧ (∀ x, foldedSetIterable ite Γ.X.env x = pure x) ∧ OkI Γ tge ite it ∧
      (∀ s H Cc cl fp, OkG (Γ.blk s H scope Cc cl fp) tge tg) ∧ (∀ s H Cc cl fp, OkTs (Γ.blk s H scope Cc cl fp) ifs cond) ∧ (∀ s H Cc cl fp, OkE (Γ.blk s H scope Cc cl fp) elt el) ∧ (∀ j, j ∈ tgs tg → j ∈ (own.map fun i => (Y.N.getD i "", i)).map (·.2)) := by
  cases gs with
  | nil => exact ff h
  | cons g gs =>
    cases gs with
    | cons _ _ =>
      obtain ⟨tge, ite, ifs, n⟩ := g
      exact ff h
    | nil =>
      obtain ⟨tge, ite, ifs, n⟩ := g
      have h := and2 (show (foldB ite && chkG Y tg scope tge && (tgs tg).all (fun j => decide (j ∈ own)) && chkI Y it sc ite tge && blkC Y.N sc scope (own.map fun i => (Y.N.getD i "", i)) &&
        decide (n = 0) && ((ifs.isEmpty && isT cond) || (decide (ifs.length = 1) && tT cond && chkE Y cond (relS scope sc) (ifs.headD elt))) && chkE Y el (relS scope sc) elt) = true from h)
      have h0 := and2 h.1
      have h1' := and2 h0.1
      have hn0 : n = 0 := of_decide_eq_true h1'.2
      subst hn0
      have h1 : _ ∧ _ := ⟨h1'.1, h0.2⟩
      have h2 := and2 h1.1
      have h3 := and2 h2.1
      have h4 := and2 h3.1
      have h5 := and2 h4.1
      have mo : (own.map fun i => (Y.N.getD i "", i)).map (·.2) = own := by rw [List.map_map]; exact List.map_id'' (fun _ => rfl) own
      have bk : BlkOk Γ.X.N Γ.X.env.scope scope (own.map fun i => (Y.N.getD i "", i)) := by rw [G.N, hs]; exact blkOk_by h2.2
      have ss : ∀ s H Cc cl fp, (Γ.blk s H scope Cc cl fp).X.env.scope = relS scope sc := fun s H Cc cl fp => by
        rw [← hs]; rfl
      have hgt : ∀ j, j ∈ tgs tg → j ∈ (own.map fun i => (Y.N.getD i "", i)).map (·.2) := fun j hj => by
        rw [mo]; exact of_decide_eq_true (List.all_eq_true.mp h4.2 j hj)
      refine ⟨tge, ite, ifs, rfl, mo, bk, fold_ok h5.1, okI_of it sc ite tge h3.2 Γ k so G hs, fun s H Cc cl fp => okG_of tg scope tge h5.2 _ k (G.blk s H scope Cc cl fp), fun s H Cc cl fp => ?_,
        fun s H Cc cl fp => okE_of el _ elt h.2 _ k scope (G.blk s H scope Cc cl fp) (ss s H Cc cl fp), hgt⟩
      rcases Bool.or_eq_true_iff.mp h1.2 with q | q
      · have q := and2 q
        have e := isT_ok q.2
        subst e
        cases ifs with
        | nil => exact okts_nil
        | cons _ _ => exact ff q.1
      · have q := and2 q
        have q1 := and2 q.1
        cases ifs with
        | nil => exact absurd (of_decide_eq_true q1.1) (by simp)
        | cons t r =>
          cases r with
          | nil => exact okts_one (okT_of cond _ t q1.2 q.2 _ k scope (G.blk s H scope Cc cl fp) (ss s H Cc cl fp))
          | cons _ _ => exact absurd (of_decide_eq_true q1.1) (by simp)
theorem comp2_parts {own : List Nat} {tg it cond tg2 it2 cond2 el : C} {sc scope : Scope} {elt : Expr} {gs : List Comprehension} {p : Pos} (h : chkN Y (.comp2 own tg it cond tg2 it2 cond2 el) sc (.ListComp elt gs scope p) = true) {Γ : Set0} {k : Nat} {so : Scope} (G : Gd Γ k Y so) (hs : Γ.X.env.scope = sc) :
    ∃ tge ite ifs tge2 ite2 ifs2, gs = [⟨tge, ite, ifs, 0⟩, ⟨tge2, ite2, ifs2, 0⟩] ∧ (own.map fun i => (Y.N.getD i "", i)).map (·.2) = own ∧ BlkOk Γ.X.N Γ.X.env.scope scope (own.map fun i => (Y.N.getD i "", i)) ∧ (∀ x, foldedSetIterable ite Γ.X.env x = pure x) ∧ (∀ env x, foldedSetIterable ite2 env x = pure x) ∧ OkI Γ tge ite it ∧
      (∀ s H Cc cl fp, OkG (Γ.blk s H scope Cc cl fp) tge tg) ∧ (∀ s H Cc cl fp, OkTs (Γ.blk s H scope Cc cl fp) ifs cond) ∧ (∀ s H Cc cl fp, OkI (Γ.blk s H scope Cc cl fp) tge2 ite2 it2) ∧ (∀ s H Cc cl fp, OkG (Γ.blk s H scope Cc cl fp) tge2 tg2) ∧ (∀ s H Cc cl fp, OkTs (Γ.blk s H scope Cc cl fp) ifs2 cond2) ∧
      (∀ s H Cc cl fp, OkE (Γ.blk s H scope Cc cl fp) elt el) ∧ (∀ j, j ∈ tgs tg → j ∈ (own.map fun i => (Y.N.getD i "", i)).map (·.2)) ∧ (∀ j, j ∈ tgs tg2 → j ∈ (own.map fun i => (Y.N.getD i "", i)).map (·.2)) := by
      match gs, h with
      | [], h => exact ff h
      | [⟨_, _, _, _⟩], h => exact ff h
      | ⟨_, _, _, _⟩ :: ⟨_, _, _, _⟩ :: _ :: _, h => exact ff h
      | [⟨tge, ite, ifs, n⟩, ⟨tge2, ite2, ifs2, n2⟩], h =>
          have h := and2 (show ((foldB ite && foldB ite2 && decide (n = 0) && decide (n2 = 0) && (tgs tg).all (fun j => decide (j ∈ own)) && (tgs tg2).all (fun j => decide (j ∈ own)) && blkC Y.N sc scope (own.map fun i => (Y.N.getD i "", i))) &&
            (chkG Y tg scope tge && chkG Y tg2 scope tge2 && chkI Y it sc ite tge && chkI Y it2 (relS scope sc) ite2 tge2) &&
            ((ifs.isEmpty && isT cond) || (decide (ifs.length = 1) && tT cond && chkE Y cond (relS scope sc) (ifs.headD elt))) &&
            ((ifs2.isEmpty && isT cond2) || (decide (ifs2.length = 1) && tT cond2 && chkE Y cond2 (relS scope sc) (ifs2.headD elt))) && chkE Y el (relS scope sc) elt) = true from h)
          have hA := and2 h.1
          have hB := and2 hA.1
          have hC := and2 hB.1
          have f1 := and2 hC.1
          have f2 := and2 f1.1
          have f3 := and2 f2.1
          have f4 := and2 f3.1
          have f5 := and2 f4.1
          have f6 := and2 f5.1
          have g1 := and2 hC.2
          have g2 := and2 g1.1
          have g3 := and2 g2.1
          have hn0 : n = 0 := of_decide_eq_true f5.2
          subst hn0
          have hn2 : n2 = 0 := of_decide_eq_true f4.2
          subst hn2
          have mo : (own.map fun i => (Y.N.getD i "", i)).map (·.2) = own := by rw [List.map_map]; exact List.map_id'' (fun _ => rfl) own
          have bk : BlkOk Γ.X.N Γ.X.env.scope scope (own.map fun i => (Y.N.getD i "", i)) := by rw [G.N, hs]; exact blkOk_by f1.2
          have ss : ∀ s H Cc cl fp, (Γ.blk s H scope Cc cl fp).X.env.scope = relS scope sc := fun s H Cc cl fp => by
            rw [← hs]; rfl
          have hgt : ∀ j, j ∈ tgs tg → j ∈ (own.map fun i => (Y.N.getD i "", i)).map (·.2) := fun j hj => by
            rw [mo]; exact of_decide_eq_true (List.all_eq_true.mp f3.2 j hj)
          have hgt2 : ∀ j, j ∈ tgs tg2 → j ∈ (own.map fun i => (Y.N.getD i "", i)).map (·.2) := fun j hj => by
            rw [mo]; exact of_decide_eq_true (List.all_eq_true.mp f2.2 j hj)
          have ht : ∀ s H Cc cl fp, OkTs (Γ.blk s H scope Cc cl fp) ifs cond := fun s H Cc cl fp => by
            rcases Bool.or_eq_true_iff.mp hB.2 with q | q
            · have q := and2 q
              have e := isT_ok q.2
              subst e
              cases ifs with
              | nil => exact okts_nil
              | cons _ _ => exact ff q.1
            · have q := and2 q
              have q1 := and2 q.1
              cases ifs with
              | nil => exact absurd (of_decide_eq_true q1.1) (by simp)
              | cons t r =>
                cases r with
                | nil => exact okts_one (okT_of cond _ t q1.2 q.2 _ k scope (G.blk s H scope Cc cl fp) (ss s H Cc cl fp))
                | cons _ _ => exact absurd (of_decide_eq_true q1.1) (by simp)
          have ht2 : ∀ s H Cc cl fp, OkTs (Γ.blk s H scope Cc cl fp) ifs2 cond2 := fun s H Cc cl fp => by
            rcases Bool.or_eq_true_iff.mp hA.2 with q | q
            · have q := and2 q
              have e := isT_ok q.2
              subst e
              cases ifs2 with
              | nil => exact okts_nil
              | cons _ _ => exact ff q.1
            · have q := and2 q
              have q1 := and2 q.1
              cases ifs2 with
              | nil => exact absurd (of_decide_eq_true q1.1) (by simp)
              | cons t r =>
                cases r with
                | nil => exact okts_one (okT_of cond2 _ t q1.2 q.2 _ k scope (G.blk s H scope Cc cl fp) (ss s H Cc cl fp))
                | cons _ _ => exact absurd (of_decide_eq_true q1.1) (by simp)
          exact ⟨tge, ite, ifs, tge2, ite2, ifs2, rfl, mo, bk, fold_ok f6.1, fold_okA f6.2, okI_of it sc ite tge g2.2 Γ k so G hs, fun s H Cc cl fp => okG_of tg scope tge g3.1 _ k (G.blk s H scope Cc cl fp), ht,
            fun s H Cc cl fp => okI_of it2 _ ite2 tge2 g1.2 _ k scope (G.blk s H scope Cc cl fp) (ss s H Cc cl fp), fun s H Cc cl fp => okG_of tg2 scope tge2 g3.2 _ k (G.blk s H scope Cc cl fp), ht2,
            fun s H Cc cl fp => okE_of el _ elt h.2 _ k scope (G.blk s H scope Cc cl fp) (ss s H Cc cl fp), hgt, hgt2⟩
theorem tgs_uni {Γ : Set0} {es : List Expr} {gs : TGs} {c : C} (hp : PGs Γ.X es gs) (h : GsRd Γ gs c) : GsRd Γ (TWgs Γ.X es) c :=
  fun σ ρ κ s H v d Q hr sl r p pins s0 us I rv => hp.run pins s0 σ H v us Q I rv (h σ ρ κ s H v d Q hr sl r p)
mutual
theorem okTg_of : ∀ (c : C) (sc : Scope) (e : Expr), chkTg Y c sc e = true → ∀ (Γ : Set0) (k : Nat), Gd Γ k Y sc → Γ.X.env.scope = sc → OkTg Γ e c
  | .tslot i, sc, e, h, Γ, k, G, hs => by
    cases e with
    | Name x p =>
      have h := and2 (show (decide (Y.N[i]? = some x) && locB sc x) = true from h)
      obtain ⟨l1, l2⟩ := G.fnok x (loc_ok h.2)
      exact okt_slot G.nd (by rw [G.N]; exact of_decide_eq_true h.1) l1 l2
    | _ => exact ff h
  | .ttup ts, sc, e, h, Γ, k, G, hs => by
    cases e with
    | Tuple es n p =>
      have h := and2 (show (decide (tlen ts = es.length) && es.all nst && chkTgs Y ts sc es) = true from h)
      have h1 := and2 h.1
      obtain ⟨a1, a2⟩ := assign_any (env := Γ.X.env) h1.2
      exact okt_tup (n := es.length) G.calm pgsU (okTgs_of ts sc es h1.2 h.2 Γ k G hs) (of_decide_eq_true h1.1) a2 a1
    | _ => exact ff h
  | .tsub o i, sc, e, h, Γ, k, G, hs => by
    cases e with
    | Subscript oe ie p =>
      have h := and2 (show (plainIxB ie && chkE Y o sc oe && chkE Y i sc ie) = true from h)
      have h1 := and2 h.1
      exact okt_sub (Room.u1 G.room) (okE_of o sc oe h1.2 Γ k sc G hs) (okE_of i sc ie h.2 Γ k sc G hs) (fun v => by cases ie <;> first | rfl | exact ff h1.1)
    | _ => exact ff h
  | .slot _, _, _, h, _, _, _, _
  | .cst _, _, _, h, _, _, _, _
  | .glob _ _, _, _, h, _, _, _, _
  | .bin _ _ _, _, _, h, _, _, _, _
  | .neg _, _, _, h, _, _, _, _
  | .cmp _ _ _, _, _, h, _, _, _, _
  | .cmp2 _ _ _ _ _, _, _, h, _, _, _, _
  | .not _, _, _, h, _, _, _, _
  | .and _ _, _, _, h, _, _, _, _
  | .or _ _, _, _, h, _, _, _, _
  | .ife _ _ _, _, _, h, _, _, _, _
  | .tup _, _, _, h, _, _, _, _
  | .call _ _, _, _, h, _, _, _, _
  | .told _, _, _, h, _, _, _, _
  | .meth _ _ _, _, _, h, _, _, _, _
  | .make _ _, _, _, h, _, _, _, _
  | .bcall _ _, _, _, h, _, _, _, _
  | .bmeth _ _ _, _, _, h, _, _, _, _
  | .ix _ _, _, _, h, _, _, _, _
  | .fld _ _, _, _, h, _, _, _, _
  | .slice _ _ _, _, _, h, _, _, _, _
  | .rev _, _, _, h, _, _, _, _
  | .two _ _, _, _, h, _, _, _, _
  | .xf _ _ _, _, _, h, _, _, _, _
  | .lrg _, _, _, h, _, _, _, _
  | .newT _, _, _, h, _, _, _, _
  | .newC _, _, _, h, _, _, _, _
  | .dict0, _, _, h, _, _, _, _
  | .dict1, _, _, h, _, _, _, _
  | .lck _ _, _, _, h, _, _, _, _
  | .lst _, _, _, h, _, _, _, _
  | .comp _ _ _ _ _, _, _, h, _, _, _, _
  | .comp2 _ _ _ _ _ _ _ _, _, _, h, _, _, _, _
  | .nb _ _, _, _, h, _, _, _, _
  | .nsl _ _ _, _, _, h, _, _, _, _
  | .nil, _, _, h, _, _, _, _
  | .cons _ _, _, _, h, _, _, _, _
  | .irange _, _, _, h, _, _, _, _
  | .ienum _, _, _, h, _, _, _, _
  | .izip _ _, _, _, h, _, _, _, _
  | .ival _, _, _, h, _, _, _, _
  | .tfld _ _, _, _, h, _, _, _, _
  | .expr _, _, _, h, _, _, _, _
  | .asg _ _, _, _, h, _, _, _, _
  | .aug _ _ _, _, _, h, _, _, _, _
  | .augF _ _ _ _, _, _, h, _, _, _, _
  | .augS _ _ _ _, _, _, h, _, _, _, _
  | .ret _, _, _, h, _, _, _, _
  | .retN, _, _, h, _, _, _, _
  | .ifs _ _ _, _, _, h, _, _, _, _
  | .whl _ _, _, _, h, _, _, _, _
  | .fors _ _ _, _, _, h, _, _, _, _
  | .raise _, _, _, h, _, _, _, _
  | .pass, _, _, h, _, _, _, _
  | .brk, _, _, h, _, _, _, _
  | .cont, _, _, h, _, _, _, _
  | .del _ _, _, _, h, _, _, _, _
  | .seq _ _, _, _, h, _, _, _, _
  | .done, _, _, h, _, _, _, _ => ff h
theorem okTgs_of : ∀ (c : C) (sc : Scope) (es : List Expr), es.all nst = true → chkTgs Y c sc es = true → ∀ (Γ : Set0) (k : Nat), Gd Γ k Y sc → Γ.X.env.scope = sc → GsRd Γ (TWgs Γ.X es) c
  | .nil, sc, es, hn, h, Γ, k, G, hs => by
    cases es with
    | nil => exact tgs_uni pgs_nil grd_nil
    | cons _ _ => exact ff h
  | .cons t r, sc, es, hn, h, Γ, k, G, hs => by
    cases es with
    | nil => exact ff h
    | cons e es =>
      have h := and2 (show (chkTg Y t sc e && chkTgs Y r sc es) = true from h)
      rw [List.all_cons] at hn
      have hn := and2 hn
      exact tgs_uni (pgs_cons pgW pgsU (by rw [assign_cons hn.1]; rfl)) (grd_cons (okTg_of t sc e h.1 Γ k G hs) (okTgs_of r sc es hn.2 h.2 Γ k G hs))
  | .slot _, _, _, _, h, _, _, _, _
  | .cst _, _, _, _, h, _, _, _, _
  | .glob _ _, _, _, _, h, _, _, _, _
  | .bin _ _ _, _, _, _, h, _, _, _, _
  | .neg _, _, _, _, h, _, _, _, _
  | .cmp _ _ _, _, _, _, h, _, _, _, _
  | .cmp2 _ _ _ _ _, _, _, _, h, _, _, _, _
  | .not _, _, _, _, h, _, _, _, _
  | .and _ _, _, _, _, h, _, _, _, _
  | .or _ _, _, _, _, h, _, _, _, _
  | .ife _ _ _, _, _, _, h, _, _, _, _
  | .tup _, _, _, _, h, _, _, _, _
  | .call _ _, _, _, _, h, _, _, _, _
  | .told _, _, _, _, h, _, _, _, _
  | .meth _ _ _, _, _, _, h, _, _, _, _
  | .make _ _, _, _, _, h, _, _, _, _
  | .bcall _ _, _, _, _, h, _, _, _, _
  | .bmeth _ _ _, _, _, _, h, _, _, _, _
  | .ix _ _, _, _, _, h, _, _, _, _
  | .fld _ _, _, _, _, h, _, _, _, _
  | .slice _ _ _, _, _, _, h, _, _, _, _
  | .rev _, _, _, _, h, _, _, _, _
  | .two _ _, _, _, _, h, _, _, _, _
  | .xf _ _ _, _, _, _, h, _, _, _, _
  | .lrg _, _, _, _, h, _, _, _, _
  | .newT _, _, _, _, h, _, _, _, _
  | .newC _, _, _, _, h, _, _, _, _
  | .dict0, _, _, _, h, _, _, _, _
  | .dict1, _, _, _, h, _, _, _, _
  | .lck _ _, _, _, _, h, _, _, _, _
  | .lst _, _, _, _, h, _, _, _, _
  | .comp _ _ _ _ _, _, _, _, h, _, _, _, _
  | .comp2 _ _ _ _ _ _ _ _, _, _, _, h, _, _, _, _
  | .nb _ _, _, _, _, h, _, _, _, _
  | .nsl _ _ _, _, _, _, h, _, _, _, _
  | .irange _, _, _, _, h, _, _, _, _
  | .ienum _, _, _, _, h, _, _, _, _
  | .izip _ _, _, _, _, h, _, _, _, _
  | .ival _, _, _, _, h, _, _, _, _
  | .tslot _, _, _, _, h, _, _, _, _
  | .ttup _, _, _, _, h, _, _, _, _
  | .tsub _ _, _, _, _, h, _, _, _, _
  | .tfld _ _, _, _, _, h, _, _, _, _
  | .expr _, _, _, _, h, _, _, _, _
  | .asg _ _, _, _, _, h, _, _, _, _
  | .aug _ _ _, _, _, _, h, _, _, _, _
  | .augF _ _ _ _, _, _, _, h, _, _, _, _
  | .augS _ _ _ _, _, _, _, h, _, _, _, _
  | .ret _, _, _, _, h, _, _, _, _
  | .retN, _, _, _, h, _, _, _, _
  | .ifs _ _ _, _, _, _, h, _, _, _, _
  | .whl _ _, _, _, _, h, _, _, _, _
  | .fors _ _ _, _, _, _, h, _, _, _, _
  | .raise _, _, _, _, h, _, _, _, _
  | .pass, _, _, _, h, _, _, _, _
  | .brk, _, _, _, h, _, _, _, _
  | .cont, _, _, _, h, _, _, _, _
  | .del _ _, _, _, _, h, _, _, _, _
  | .seq _ _, _, _, _, h, _, _, _, _
  | .done, _, _, _, h, _, _, _, _ => ff h
end
end
end Ev

set_option Elab.async false
set_option linter.all false
set_option maxRecDepth 100000
set_option maxHeartbeats 4000000
namespace Ev
open PySem PySem.Spec PyProof.Rows L2
section
variable {Y : Ck}
theorem aug_nx (o : Bop) (x y : D) (s : Hs) : NoExc (augE o x y s) := by
  intro e s1 h
  unfold augE at h
  split at h
  · exact bop_nx _ _ _ _ e s1 h
  · cases h
theorem aug_store {i : Expr} (h : plainIxB i = true) (ov iv new : Value) : augStore i ov iv new = (do holding [new, ov, iv] (setItem ov iv new); release [new, ov, iv] []; pure .next) := by
  cases i <;> first | rfl | cases h
theorem aug_add {Γ : Set0} : AugX Γ .Add .add := by
  intro pins s0 σ κ s H x y dx dy v u Q I rx ry h1 r1 r2 p
  unfold augE at p
  split at p
  · rename_i i j
    obtain rfl := int_of r1
    obtain rfl := int_of r2
    have p' : Pre Γ.X.K Γ.S (RepD Γ.X.K) Q (fun _ _ => False) κ s.nx H (.ok (.int (i + j)) s) := p
    exact ip_add pins s0 σ H _ _ v u Q I rx ry ⟨i, j, rfl, rfl, p'.give h1 .int⟩
  · exact p.elim
theorem aug_sub {Γ : Set0} : AugX Γ .Sub .sub := by
  intro pins s0 σ κ s H x y dx dy v u Q I rx ry h1 r1 r2 p
  unfold augE at p
  split at p
  · rename_i i j
    obtain rfl := int_of r1
    obtain rfl := int_of r2
    have p' : Pre Γ.X.K Γ.S (RepD Γ.X.K) Q (fun _ _ => False) κ s.nx H (.ok (.int (i - j)) s) := p
    exact ip_sub pins s0 σ H _ _ v u Q I rx ry ⟨i, j, rfl, rfl, p'.give h1 .int⟩
  · exact p.elim
theorem parB_shape {sc : Scope} {ts vs : List Expr} {n m : Nat} {p q : Pos} (h : parB sc (.Tuple ts n p) (.Tuple vs m q) = true) :
    (∃ x px y py a b, ts = [.Name x px, .Name y py] ∧ vs = [a, b]) ∨ (∃ x px y py w pw a b c, ts = [.Name x px, .Name y py, .Name w pw] ∧ vs = [a, b, c]) := by
  unfold parB at h
  split at h
  · rename_i e1 e2
    cases e1; cases e2
    exact .inl ⟨_, _, _, _, _, _, rfl, rfl⟩
  · rename_i e1 e2
    cases e1; cases e2
    exact .inr ⟨_, _, _, _, _, _, _, _, _, rfl, rfl⟩
  · cases h
theorem asg_of {Γ : Set0} {k : Nat} (G : GdS Γ k Y) {t e : C} {tg ee : Expr} {pos : Pos} (he : chkE Y e Γ.X.env.scope ee = true) (ht : chkTg Y t Γ.X.env.scope tg = true) (hb : asgB Γ.X.env.scope tg ee = true) : OkS Γ (.Assign [tg] ee pos) (.asg t e) := by
  have G0 := G.toGd
  have hE := okE_of e _ ee he Γ k _ G0 rfl
  have hT := okTg_of t _ tg ht Γ k G0 rfl
  have hst : nst tg = true → (assignEach [tg] Γ.X.env).map (·.2) = [assign tg Γ.X.env] := fun h => by rw [assign_cons h]; rfl
  have ntg : nst tg = true := by
    cases tg <;> first | rfl | (cases t <;> exact ff ht)
  by_cases hc : isComp ee = true
  · -- a comprehension given to a name
    cases ee with
    | ListComp elt gs scope p =>
      cases tg with
      | Name y py =>
        cases hsw : swB Γ.X.env.scope scope y py p with
        | false => exact oks_asg hE hT (by have z := swaps_comp (elt := elt) (gs := gs) (scope := scope) (ep := p) (py := py) (y := y) (n := pos.line) G.kind; rw [hsw] at z; exact z) (swapped_val rfl) (hst ntg)
        | true =>
          have hsw' := hsw
          unfold swB at hsw'
          have hyl : Γ.X.env.scope.names.lookup y = some .local := by
            have := and2 hsw'
            have := and2 this.1
            exact beq_iff_eq.mp this.1
          cases t with
          | tslot i =>
            have hi := and2 (show (decide (Y.N[i]? = some y) && locB Γ.X.env.scope y) = true from ht)
            have hN : Γ.X.N[i]? = some y := by rw [G0.N]; exact of_decide_eq_true hi.1
            have go : ∀ {n : C}, (e = .newT n ∨ e = .newC n) → chkN Y n Γ.X.env.scope (.ListComp elt gs scope p) = true → OkS Γ (.Assign [.Name y py] (.ListComp elt gs scope p) pos) (.asg (.tslot i) e) := by
              intro n hn hcn
              cases n with
              | comp own ctg cit ccond cel =>
                obtain ⟨tge, ite, ifs, rfl, mo, bk, q1, q2, q3, q4, q5, q6⟩ := comp_parts hcn G0 rfl
                have hn' : e = .newT (.comp ((own.map fun i => (Y.N.getD i "", i)).map (·.2)) ctg cit ccond cel) ∨ e = .newC (.comp ((own.map fun i => (Y.N.getD i "", i)).map (·.2)) ctg cit ccond cel) := by rw [mo]; exact hn
                obtain ⟨te, rd, ps⟩ := oks_setLc (pos := p) (spos := pos) (py := py) hn' G0.calm G0.nd hN hyl bk (by rw [swaps_comp G.kind, hsw]) q1 q2 q3 q4 q5 q6
                intro σ ρ κ s H D hr sl pr
                refine twS ps (asg_rd rd ?_ σ ρ κ s H D hr sl pr)
                intro σ ρ κ s H v d Q hr sl r p
                unfold evT at p
                split at p
                · exact p κ H _ Tr.refl hr (sl.set r)
                · exact p.elim
              | comp2 own ctg cit ccond ctg2 cit2 ccond2 cel =>
                obtain ⟨tge, ite, ifs, tge2, ite2, ifs2, rfl, mo, bk, q1, q1', q2, q3, q4, q7, q8, q9, q5, q6, q6'⟩ := comp2_parts hcn G0 rfl
                have hn' : e = .newT (.comp2 ((own.map fun i => (Y.N.getD i "", i)).map (·.2)) ctg cit ccond ctg2 cit2 ccond2 cel) ∨ e = .newC (.comp2 ((own.map fun i => (Y.N.getD i "", i)).map (·.2)) ctg cit ccond ctg2 cit2 ccond2 cel) := by rw [mo]; exact hn
                obtain ⟨te, rd, ps⟩ := oks_setLc2 (pos := p) (spos := pos) (py := py) hn' G0.calm G0.nd hN hyl bk (by rw [swaps_comp G.kind, hsw]) q1 q1' q2 q3 q4 q7 q8 q9 q5 q6 q6'
                intro σ ρ κ s H D hr sl pr
                refine twS ps (asg_rd rd ?_ σ ρ κ s H D hr sl pr)
                intro σ ρ κ s H v d Q hr sl r p
                unfold evT at p
                split at p
                · exact p κ H _ Tr.refl hr (sl.set r)
                · exact p.elim
              | _ => exact ff hcn
            cases e with
            | newT n => exact go (.inl rfl) he
            | newC n => exact go (.inr rfl) he
            | cst d => cases d <;> exact ff he
            | glob x d => cases d <;> exact ff he
            | xf _ _ _ => exact ff (xf_gen he)
            | _ => exact ff he
          | _ => exact ff ht
      | Subscript sa sb sp => exact oks_asg hE hT sole_sub (swapped_val rfl) (hst ntg)
      | _ => exact ff hb
    | SetComp _ _ _ _ => cases e <;> first | exact ff he | exact ff (xf_gen he) | (rename_i n; cases n <;> exact ff he)
    | DictComp _ _ _ _ _ => cases e <;> first | exact ff he | exact ff (xf_gen he) | (rename_i n; cases n <;> exact ff he)
    | _ => cases hc
  · have hc : isComp ee = false := by cases q : isComp ee; rfl; exact absurd q hc
    by_cases h1 : isTup ee = false
    · exact oks_asg hE hT (sole_none hc) (swapped_val h1) (hst ntg)
    · by_cases h2 : isTL tg = false
      · exact oks_asg hE hT (sole_none hc) (swapped_tg h2) (hst ntg)
      · cases ee with
        | Tuple vs m q =>
          cases tg with
          | Tuple ts n p =>
            rcases Bool.or_eq_true_iff.mp (show ((vs.all nst && noSw Γ.X.env.scope ts) || parB Γ.X.env.scope (.Tuple ts n p) (.Tuple vs m q)) = true from hb) with z | z
            · have z := and2 z
              exact oks_asg hE hT (sole_none hc) (swapped_no z.1 z.2) (hst ntg)
            · rcases parB_shape z with ⟨x, px, y, py, a, b, rfl, rfl⟩ | ⟨x, px, y, py, w, pw, a, b, c, rfl, rfl⟩
              · 
                have hsw := swapped_par2 (px := px) (py := py) (p := p) (q := q) (n := n) (m := m) G.kind z
                have z' := z
                simp only [parB, Bool.and_eq_true, Bool.not_eq_true', beq_iff_eq, beq_eq_false_iff_ne] at z'
                cases t with
                | ttup tt =>
                  have ht := (and2 ht).2
                  cases tt with
                  | cons t1 r1 =>
                    have ht1 := and2 (show (chkTg Y t1 Γ.X.env.scope (.Name x px) && chkTgs Y r1 Γ.X.env.scope [.Name y py]) = true from ht)
                    cases r1 with
                    | cons t2 r2 =>
                      have ht2 := and2 (show (chkTg Y t2 Γ.X.env.scope (.Name y py) && chkTgs Y r2 Γ.X.env.scope []) = true from ht1.2)
                      cases r2 with
                      | nil =>
                        cases t1 with
                        | tslot i =>
                          cases t2 with
                          | tslot j =>
                            have hi := and2 (show (decide (Y.N[i]? = some x) && locB Γ.X.env.scope x) = true from ht1.1)
                            have hj := and2 (show (decide (Y.N[j]? = some y) && locB Γ.X.env.scope y) = true from ht2.1)
                            have ni : Γ.X.N[i]? = some x := by rw [G0.N]; exact of_decide_eq_true hi.1
                            have nj : Γ.X.N[j]? = some y := by rw [G0.N]; exact of_decide_eq_true hj.1
                            have hij : i ≠ j := fun e => by
                              subst e
                              rw [ni] at nj
                              exact z'.1.1.1.1.2 (Option.some.inj nj)
                            cases e with
                            | tup ca =>
                              have hA := okA_of ca _ [a, b] he Γ k _ G0 rfl
                              exact oks_par G0.calm G0.nd ni nj hij z'.1.1.1.1.1.1.1 z'.1.1.1.1.1.1.2 hA (chkA_len ca he) hsw (sole_none hc)
                            | newT n => cases n <;> exact ff he
                            | newC n => cases n <;> exact ff he
                            | cst d => cases d <;> exact ff he
                            | glob x d => cases d <;> exact ff he
                            | xf _ _ _ => exact ff (xf_gen he)
                            | _ => exact ff he
                          | _ => exact ff ht2.1
                        | _ => exact ff ht1.1
                      | _ => exact ff ht2.2
                    | _ => exact ff ht1.2
                  | _ => exact ff ht
                | _ => exact ff ht
              · 
                have hsw := swapped_par3 (px := px) (py := py) (pw := pw) (p := p) (q := q) (n := n) (m := m) G.kind z
                have z' := z
                simp only [parB, Bool.and_eq_true, Bool.not_eq_true', beq_iff_eq, beq_eq_false_iff_ne] at z'
                cases t with
                | ttup tt =>
                  have ht := (and2 ht).2
                  cases tt with
                  | cons t1 r1 =>
                    have ht1 := and2 (show (chkTg Y t1 Γ.X.env.scope (.Name x px) && chkTgs Y r1 Γ.X.env.scope [.Name y py, .Name w pw]) = true from ht)
                    cases r1 with
                    | cons t2 r2 =>
                      have ht2 := and2 (show (chkTg Y t2 Γ.X.env.scope (.Name y py) && chkTgs Y r2 Γ.X.env.scope [.Name w pw]) = true from ht1.2)
                      cases r2 with
                      | cons t3 r3 =>
                        have ht3 := and2 (show (chkTg Y t3 Γ.X.env.scope (.Name w pw) && chkTgs Y r3 Γ.X.env.scope []) = true from ht2.2)
                        cases r3 with
                        | nil =>
                          cases t1 with
                          | tslot i =>
                            cases t2 with
                            | tslot j =>
                              cases t3 with
                              | tslot l =>
                                have hi := and2 (show (decide (Y.N[i]? = some x) && locB Γ.X.env.scope x) = true from ht1.1)
                                have hj := and2 (show (decide (Y.N[j]? = some y) && locB Γ.X.env.scope y) = true from ht2.1)
                                have hl := and2 (show (decide (Y.N[l]? = some w) && locB Γ.X.env.scope w) = true from ht3.1)
                                have ni : Γ.X.N[i]? = some x := by rw [G0.N]; exact of_decide_eq_true hi.1
                                have nj : Γ.X.N[j]? = some y := by rw [G0.N]; exact of_decide_eq_true hj.1
                                have nl : Γ.X.N[l]? = some w := by rw [G0.N]; exact of_decide_eq_true hl.1
                                obtain ⟨⟨⟨⟨⟨⟨⟨⟨⟨⟨⟨⟨zx, zy⟩, zw⟩, _⟩, _⟩, zxy⟩, zxw⟩, zyw⟩, _⟩, _⟩, _⟩, _⟩, _⟩ := z'
                                have hij : i ≠ j := fun e => by subst e; rw [ni] at nj; exact zxy (Option.some.inj nj)
                                have hil : i ≠ l := fun e => by subst e; rw [ni] at nl; exact zxw (Option.some.inj nl)
                                have hjl : j ≠ l := fun e => by subst e; rw [nj] at nl; exact zyw (Option.some.inj nl)
                                cases e with
                                | tup ca =>
                                  have hA := okA_of ca _ [a, b, c] he Γ k _ G0 rfl
                                  exact oks_par3 G0.calm G0.nd ni nj nl hij hil hjl zx zy zw hA (chkA_len ca he) hsw (sole_none hc)
                                | newT n => cases n <;> exact ff he
                                | newC n => cases n <;> exact ff he
                                | cst d => cases d <;> exact ff he
                                | glob x d => cases d <;> exact ff he
                                | xf _ _ _ => exact ff (xf_gen he)
                                | _ => exact ff he
                              | _ => exact ff ht3.1
                            | _ => exact ff ht2.1
                          | _ => exact ff ht1.1
                        | _ => exact ff ht3.2
                      | _ => exact ff ht2.2
                    | _ => exact ff ht1.2
                  | _ => exact ff ht
                | _ => exact ff ht
          | List _ _ => cases t <;> exact ff ht
          | _ => exact absurd rfl h2
        | _ => exact absurd rfl h1
end
end Ev

set_option Elab.async false
set_option linter.all false
set_option maxRecDepth 100000
set_option maxHeartbeats 4000000
namespace Ev
open PySem PySem.Spec PyProof.Rows L2
section
variable {Y : Ck}
mutual
theorem okS_of : ∀ (c : C) (st : Stmt) (Γ : Set0) (k : Nat), GdS Γ k Y → chkS Y c Γ.X.env.scope st = true → OkS Γ st c
  | .expr e, st, Γ, k, G, h => by
    cases st with
    | Expr ee p =>
      have h := and2 (show (!isComp ee && chkE Y e Γ.X.env.scope ee) = true from h)
      exact oks_expr (okE_of e _ ee h.2 Γ k _ G.toGd rfl) (swaps_none (by simpa using h.1))
    | _ => exact ff h
  | .asg t e, st, Γ, k, G, h => by
    cases st with
    | Assign tgl ee p =>
      cases tgl with
      | nil => cases t <;> exact ff h
      | cons tg r =>
        cases r with
        | cons _ _ => cases t <;> (try exact ff h) <;> (cases tg <;> exact ff h)
        | nil =>
          cases t with
          | tfld o f =>
            cases tg with
            | Attribute oe x ap =>
              have h := and2 (show (decide (Y.fld.lookup x = some f) && chkE Y o Γ.X.env.scope oe && chkE Y e Γ.X.env.scope ee) = true from h)
              have h1 := and2 h.1
              exact oks_fld (okE_of e _ ee h.2 Γ k _ G.toGd rfl) (okE_of o _ oe h1.2 Γ k _ G.toGd rfl) (G.fldn x f (of_decide_eq_true h1.1)) (fun kC q => G.fok kC f q) swaps_attr
            | _ => exact ff (and2 (and2 (show (chkE Y e Γ.X.env.scope ee && chkTg Y (.tfld o f) Γ.X.env.scope _ && asgB Γ.X.env.scope _ ee) = true from h)).1).2
          | _ =>
            have h := and2 (show (chkE Y e Γ.X.env.scope ee && chkTg Y _ Γ.X.env.scope tg && asgB Γ.X.env.scope tg ee) = true from h)
            have h1 := and2 h.1
            exact asg_of G h1.1 h1.2 h.2
    | _ => cases t <;> exact ff h
  | .aug i o e, st, Γ, k, G, h => by
    cases st with
    | AugAssign tg op ee p =>
      cases tg with
      | Name x p0 =>
        have h := and2 (show (decide (Y.N[i]? = some x) && locB Γ.X.env.scope x && augB o op && chkE Y e Γ.X.env.scope ee) = true from h)
        have h1 := and2 h.1
        have h2 := and2 h1.1
        obtain ⟨l1, l2⟩ := G.fnok x (loc_ok h2.2)
        have hN : Γ.X.N[i]? = some x := by rw [G.N]; exact of_decide_eq_true h2.1
        have he := okE_of e _ ee h.2 Γ k _ G.toGd rfl
        cases o <;> cases op <;> first | exact ff h1.2 | skip
        · exact oks_aug aug_add G.nd hN l1 l2 he
        · exact oks_aug aug_sub G.nd hN l1 l2 he
      | _ => exact ff h
    | _ => exact ff h
  | .augF o f po e, st, Γ, k, G, h => by
    cases st with
    | AugAssign tg op ee p =>
      cases tg with
      | Attribute oe x ap =>
        have h := and2 (show (decide (Y.fld.lookup x = some f) && augB po op && chkE Y o Γ.X.env.scope oe && chkE Y e Γ.X.env.scope ee) = true from h)
        have h1 := and2 h.1
        have h2 := and2 h1.1
        have hf := G.fldn x f (of_decide_eq_true h2.1)
        have ho := okE_of o _ oe h1.2 Γ k _ G.toGd rfl
        have he := okE_of e _ ee h.2 Γ k _ G.toGd rfl
        have hk : ∀ kC, Γ.P.fok kC f = true → _ := fun kC q => G.fok kC f q
        cases po <;> cases op <;> first | exact ff h2.2 | skip
        · exact oks_augF aug_add (aug_nx _) ho he hf hk
        · exact oks_augF aug_sub (aug_nx _) ho he hf hk
      | _ => exact ff h
    | _ => exact ff h
  | .augS o i po e, st, Γ, k, G, h => by
    cases st with
    | AugAssign tg op ee p =>
      cases tg with
      | Subscript oe ie ap =>
        have h := and2 (show (plainIxB ie && augB po op && chkE Y o Γ.X.env.scope oe && chkE Y i Γ.X.env.scope ie && chkE Y e Γ.X.env.scope ee) = true from h)
        have h0 := and2 h.1
        have h1 := and2 h0.1
        have h2 := and2 h1.1
        have ho := okE_of o _ oe h1.2 Γ k _ G.toGd rfl
        have hi := okE_of i _ ie h0.2 Γ k _ G.toGd rfl
        have he := okE_of e _ ee h.2 Γ k _ G.toGd rfl
        have ha := aug_store h2.1
        cases po <;> cases op <;> first | exact ff h2.2 | skip
        · exact oks_augS aug_add (aug_nx _) ho hi he ha
        · exact oks_augS aug_sub (aug_nx _) ho hi he ha
      | _ => exact ff h
    | _ => exact ff h
  | .ret e, st, Γ, k, G, h => by
    cases st with
    | Return v p =>
      cases v with
      | some ee => exact oks_ret (okE_of e _ ee h Γ k _ G.toGd rfl)
      | none => exact ff h
    | _ => exact ff h
  | .retN, st, Γ, k, G, h => by
    cases st with
    | Return v p =>
      cases v with
      | none => exact oks_retN
      | some ee => exact ff h
    | _ => exact ff h
  | .ifs t a b, st, Γ, k, G, h => by
    cases st with
    | If te ae be p =>
      have h := and2 (show (tT t && chkE Y t Γ.X.env.scope te && chkB Y a Γ.X.env.scope ae && chkB Y b Γ.X.env.scope be) = true from h)
      have h1 := and2 h.1
      have h2 := and2 h1.1
      exact oks_if (okT_of t _ te h2.1 h2.2 Γ k _ G.toGd rfl) (okB_of a ae Γ k G h1.2) (okB_of b be Γ k G h.2)
    | _ => exact ff h
  | .whl t b, st, Γ, k, G, h => by
    cases st with
    | While te be oe p =>
      cases oe with
      | nil =>
        have h := and2 (show (tT t && chkE Y t Γ.X.env.scope te && chkB Y b Γ.X.env.scope be) = true from h)
        have h1 := and2 h.1
        exact oks_while G.hp (okT_of t _ te h1.1 h1.2 Γ k _ G.toGd rfl) (okB_of b be Γ k G h.2)
      | cons _ _ => exact ff h
    | _ => exact ff h
  | .fors t it b, st, Γ, k, G, h => by
    cases st with
    | For tg ite be oe p =>
      cases oe with
      | nil =>
        have h := and2 (show (foldB ite && chkG Y t Γ.X.env.scope tg && chkI Y it Γ.X.env.scope ite tg && chkB Y b Γ.X.env.scope be) = true from h)
        have h1 := and2 h.1
        have h2 := and2 h1.1
        exact oks_for G.hp G.calm (okI_of it _ ite tg h1.2 Γ k _ G.toGd rfl) (okG_of t _ tg h2.2 Γ k G.toGd) (okB_of b be Γ k G h.2) (fold_ok h2.1)
      | cons _ _ => exact ff h
    | _ => exact ff h
  | .raise xx, st, Γ, k, G, h => by
    cases st with
    | Raise e c p =>
      cases e with
      | none => exact ff h
      | some e =>
        cases c with
        | some _ => exact ff h
        | none =>
          have h : ((raiseN e).any fun nm => decide (Y.exc.lookup nm = some xx) && glbB Γ.X.env.scope nm && fineX nm) = true := h
          cases hq : raiseN e with
          | none => rw [hq] at h; exact ff h
          | some nm =>
            rw [hq] at h
            obtain ⟨p0, m, kk, p2, pp, rfl⟩ := raiseN_some hq
            have h := and2 (show (decide (Y.exc.lookup nm = some xx) && glbB Γ.X.env.scope nm && fineX nm) = true from h)
            have h1 := and2 h.1
            obtain ⟨C, e1, e2, e3, e4, e5⟩ := (G.exc nm xx (of_decide_eq_true h1.1)).at_
            exact oks_raise G.calm G.tk (pmk_own PySem.F.excBase_ValueError e3 e2 e4 e5 (glb_ok h1.2) (fine_ok h.2).1) (fun σ H Q q => by rw [e1] at q; exact q)
    | _ => exact ff h
  | .pass, st, Γ, k, G, h => by cases st <;> first | exact oks_pass | exact ff h
  | .brk, st, Γ, k, G, h => by cases st <;> first | exact oks_brk | exact ff h
  | .cont, st, Γ, k, G, h => by cases st <;> first | exact oks_cont | exact ff h
  | .slot _, _, _, _, _, h
  | .cst _, _, _, _, _, h
  | .glob _ _, _, _, _, _, h
  | .bin _ _ _, _, _, _, _, h
  | .neg _, _, _, _, _, h
  | .cmp _ _ _, _, _, _, _, h
  | .cmp2 _ _ _ _ _, _, _, _, _, h
  | .not _, _, _, _, _, h
  | .and _ _, _, _, _, _, h
  | .or _ _, _, _, _, _, h
  | .ife _ _ _, _, _, _, _, h
  | .tup _, _, _, _, _, h
  | .call _ _, _, _, _, _, h
  | .told _, _, _, _, _, h
  | .meth _ _ _, _, _, _, _, h
  | .make _ _, _, _, _, _, h
  | .bcall _ _, _, _, _, _, h
  | .bmeth _ _ _, _, _, _, _, h
  | .ix _ _, _, _, _, _, h
  | .fld _ _, _, _, _, _, h
  | .slice _ _ _, _, _, _, _, h
  | .rev _, _, _, _, _, h
  | .two _ _, _, _, _, _, h
  | .xf _ _ _, _, _, _, _, h
  | .lrg _, _, _, _, _, h
  | .newT _, _, _, _, _, h
  | .newC _, _, _, _, _, h
  | .dict0, _, _, _, _, h
  | .dict1, _, _, _, _, h
  | .lck _ _, _, _, _, _, h
  | .lst _, _, _, _, _, h
  | .comp _ _ _ _ _, _, _, _, _, h
  | .comp2 _ _ _ _ _ _ _ _, _, _, _, _, h
  | .nb _ _, _, _, _, _, h
  | .nsl _ _ _, _, _, _, _, h
  | .nil, _, _, _, _, h
  | .cons _ _, _, _, _, _, h
  | .irange _, _, _, _, _, h
  | .ienum _, _, _, _, _, h
  | .izip _ _, _, _, _, _, h
  | .ival _, _, _, _, _, h
  | .tslot _, _, _, _, _, h
  | .ttup _, _, _, _, _, h
  | .tsub _ _, _, _, _, _, h
  | .tfld _ _, _, _, _, _, h
  | .del _ _, _, _, _, _, h
  | .seq _ _, _, _, _, _, h
  | .done, _, _, _, _, h => ff h
theorem okB_of : ∀ (c : C) (sts : List Stmt) (Γ : Set0) (k : Nat), GdS Γ k Y → chkB Y c Γ.X.env.scope sts = true → OkB Γ sts c
  | .done, sts, Γ, k, G, h => by
    cases sts with
    | nil => exact okb_nil
    | cons _ _ => exact ff h
  | .seq a b, sts, Γ, k, G, h => by
    cases sts with
    | nil => exact ff h
    | cons st sts =>
      have h := and2 (show (chkS Y a Γ.X.env.scope st && chkB Y b Γ.X.env.scope sts) = true from h)
      exact okb_cons (okS_of a st Γ k G h.1) (okB_of b sts Γ k G h.2)
  | .slot _, _, _, _, _, h
  | .cst _, _, _, _, _, h
  | .glob _ _, _, _, _, _, h
  | .bin _ _ _, _, _, _, _, h
  | .neg _, _, _, _, _, h
  | .cmp _ _ _, _, _, _, _, h
  | .cmp2 _ _ _ _ _, _, _, _, _, h
  | .not _, _, _, _, _, h
  | .and _ _, _, _, _, _, h
  | .or _ _, _, _, _, _, h
  | .ife _ _ _, _, _, _, _, h
  | .tup _, _, _, _, _, h
  | .call _ _, _, _, _, _, h
  | .told _, _, _, _, _, h
  | .meth _ _ _, _, _, _, _, h
  | .make _ _, _, _, _, _, h
  | .bcall _ _, _, _, _, _, h
  | .bmeth _ _ _, _, _, _, _, h
  | .ix _ _, _, _, _, _, h
  | .fld _ _, _, _, _, _, h
  | .slice _ _ _, _, _, _, _, h
  | .rev _, _, _, _, _, h
  | .two _ _, _, _, _, _, h
  | .xf _ _ _, _, _, _, _, h
  | .lrg _, _, _, _, _, h
  | .newT _, _, _, _, _, h
  | .newC _, _, _, _, _, h
  | .dict0, _, _, _, _, h
  | .dict1, _, _, _, _, h
  | .lck _ _, _, _, _, _, h
  | .lst _, _, _, _, _, h
  | .comp _ _ _ _ _, _, _, _, _, h
  | .comp2 _ _ _ _ _ _ _ _, _, _, _, _, h
  | .nb _ _, _, _, _, _, h
  | .nsl _ _ _, _, _, _, _, h
  | .nil, _, _, _, _, h
  | .cons _ _, _, _, _, _, h
  | .irange _, _, _, _, _, h
  | .ienum _, _, _, _, _, h
  | .izip _ _, _, _, _, _, h
  | .ival _, _, _, _, _, h
  | .tslot _, _, _, _, _, h
  | .ttup _, _, _, _, _, h
  | .tsub _ _, _, _, _, _, h
  | .tfld _ _, _, _, _, _, h
  | .expr _, _, _, _, _, h
  | .asg _ _, _, _, _, _, h
  | .aug _ _ _, _, _, _, _, h
  | .augF _ _ _ _, _, _, _, _, h
  | .augS _ _ _ _, _, _, _, _, h
  | .ret _, _, _, _, _, h
  | .retN, _, _, _, _, h
  | .ifs _ _ _, _, _, _, _, h
  | .whl _ _, _, _, _, _, h
  | .fors _ _ _, _, _, _, _, h
  | .raise _, _, _, _, _, h
  | .pass, _, _, _, _, h
  | .brk, _, _, _, _, h
  | .cont, _, _, _, _, h
  | .del _ _, _, _, _, _, h => ff h
end
end
end Ev

set_option Elab.async false
set_option linter.all false
set_option maxRecDepth 100000
set_option maxHeartbeats 4000000
namespace Ev
open PySem PySem.Spec PyProof.Rows L2

/-! ### a whole program -/
/-- a def of the text: its name, its statement, its names by slot, its parameters, whether it makes lambdas -/
structure DE where
  x : Str
  qual : Str
  st : Stmt
  N : List Str
  ps : List Str
  lam : Bool

structure Tx where
  defs : List DE
  P : Prog
  F : Nat
  /-- the names' tables -/
  Y : Ck

def Tx.ck (T : Tx) (N : List Str) (lam : Bool) : Ck := { T.Y with N := N, told := if lam then T.Y.told else none }
/-- what is looked at of a def -/
def DE.ok (T : Tx) (i : Nat) (e : DE) : Bool :=
  chkB (T.ck e.N e.lam) (T.P.defs i).body (defScope e.st) (defBody e.st) && decide ((T.P.defs i).np = e.ps.length) && decide ((T.P.defs i).nn = e.N.length) && decide (e.ps.length ≤ e.N.length)
/-- f's code object -/
def CodeIs (K : PySem.W.Frag) (f : Addr) (cdv : Value) : Prop := ∃ oc od osl fd, K.lookup f = some ⟨oc, od, .func fd, osl⟩ ∧ fd.code = cdv
theorem CodeIs.one {K : PySem.W.Frag} {f : Addr} {c d : Value} (h : CodeIs K f c) (h' : CodeIs K f d) : c = d := by
  obtain ⟨_, _, _, _, l, e⟩ := h
  obtain ⟨_, _, _, _, l', e'⟩ := h'
  rw [l] at l'
  cases l'
  exact e.symm.trans e'
/-- the rule of a def's body, its code object told -/
theorem okC {P : Program} {w : World} {K : PySem.W.Frag} {mg : Str → Option Value} {base : Heap} {x qual : Str} {st : Stmt} {f : Addr} {fd : FuncData} {N ps : List Str} {k : Nat} {sp : Sp} (F : Fun K x qual st f fd) (S : FnScope N ps (defScope st)) (len : ∀ vs H Q E, sp vs H Q E → vs.length = ps.length)
    (hbody : ∀ (cdv : Value) (A : Around) (outer : List PySem.Env) (s : Shared) (H : Hp) (vs : List V) (Q : VK) (E : XK), CodeIs K f cdv → Room k (A.deeper (envOfC qual (defScope st) s.heap.objs.size f cdv)) → sp vs H Q E →
      ∃ t, PSs (cxOf (L2.CX P w) P w K mg base N qual (defScope st) f cdv A outer s H E) (defBody st) t ∧ t { nx := fun _ H' => Q .non H', rt := Q } (L2.start N vs) H) : FnOk P w K mg base (L2.CX P w) (k + 1) f fd ps sp := by
  obtain ⟨oc, od, kV, doc, pm, an, cdv, ct, osl, rfl, lk, hcd⟩ := F.ex
  exact fn_of lk hcd S len fun A outer s H vs Q E hr hsp => hbody cdv A outer s H vs Q E ⟨_, _, _, _, lk, rfl⟩ hr hsp

section
variable (K : PySem.W.Frag) (mg : Str → Option Value) (T : Tx) (S : Sig) (exV : Nat → Value) (fa : Nat → Addr)
/-- _law_told's def, read -/
def ToldT (x : Str) : Prop := ∃ (g : Addr) (st : Stmt) (fd : FuncData) (Ng : List Str) (a : Str) (l : List (Str × Str)), mg x = some (.ref g) ∧ Fun K x x st g fd ∧ Binds K fd [a] [] ∧ FnScope Ng [a] (defScope st) ∧ Ng[0]? = some a ∧ (∀ f : Addr, (L2.start Ng [V.ref f])[0]? = some (some (V.ref f))) ∧ Vis (defScope st) a ∧
  toldL a (defBody st) = some l ∧ (∀ e r, (e, r) ∈ l → (defScope st).names.lookup e = some .globalImplicit ∧ (e == ("__debug__" : Str)) = false) ∧ (∀ e r, (e, r) ∈ l → ∃ C, mg e = some (.ref C)) ∧
  (∀ i nm, T.P.told i = some nm → FirstM K mg (exV i) l nm) ∧ (a == ("__debug__" : Str)) = false ∧ (a == ("__classdict__" : Str)) = false
/-- what the top has left -/
structure Top : Prop where
  defs : ∀ i e, T.defs[i]? = some e → ∃ fd, Fun K e.x e.qual e.st (fa i) fd ∧ Binds K fd e.ps [] ∧ FnScope e.N e.ps (defScope e.st) ∧ e.ok T i = true
  fns : ∀ x i, T.Y.fn.lookup x = some i → mg x = some (.ref (fa i)) ∧ i < T.defs.length
  cls : ∀ x kC, T.Y.cls.lookup x = some kC → ∃ i, T.P.init kC = some i ∧ i < T.defs.length ∧ mg x = some (.ref (S.cls kC)) ∧ Mk K (S.cls kC) (fa i) ∧ Cls K (S.cls kC)
  mth : ∀ m mi, T.Y.mth.lookup m = some mi → ∀ kC i, T.P.meth kC mi = some i → i < T.defs.length ∧ Meth K (S.cls kC) m (fa i)
  fldn : ∀ x f, T.Y.fld.lookup x = some f → S.fld f = x
  fok : ∀ kC f, T.P.fok kC f = true → f < S.nf ∧ NoAttr K (S.cls kC) (S.fld f)
  blt : ∀ x, x ∈ T.Y.blt → mg x = none
  glb : ∀ x i, T.Y.glb.lookup x = some i → ∃ t, mg x = some (.int i t)
  gls : ∀ x z, T.Y.gls.lookup x = some z → ∃ t, mg x = some (.str z t)
  isi : ∀ x kC, T.Y.isi.lookup x = some kC → mg x = some (.ref (S.cls kC)) ∧ IsiOk K (S.cls kC)
  exc : ∀ nm x, T.Y.exc.lookup nm = some x → ∃ C, exV x = .ref C ∧ mg nm = some (.ref C) ∧ PySem.W.excIn K C [.type "ValueError", .type "Exception", .type "BaseException", .type "object"] "ValueError.__new__" = true ∧ PySem.W.keepIn K (.ref C) = true ∧
    PySem.W.subIn K (.ref C) (.type "BaseException") = some true ∧ PySem.W.typeIn K (.ref C) = some (.type "type")
  told : ∀ x, T.Y.told = some x → ToldT K mg T exV x
/-- tables of the defs that make lambdas: code objects, tables -/
def LamT (cs : List (Addr × Addr)) : Prop := ∀ i e, T.defs[i]? = some e → e.lam = true → ∃ c P, CodeIs K (fa i) (.ref c) ∧ (c, P) ∈ cs ∧ (P, (envOfC e.qual (defScope e.st) 0 0 .none).qual ++ "<lambda>") ∈ S.tabs ∧
  ∀ p ∈ S.tabs, p.1 = P → p.2 = (envOfC e.qual (defScope e.st) 0 0 .none).qual ++ "<lambda>"
end

theorem look_start (ds : List D) (n i : Nat) (d : D) (h : look (ds.map some ++ List.replicate n none) i = some d) : ds[i]? = some d := by
  unfold look at h
  by_cases hi : i < ds.length
  · rw [List.getElem?_append_left (by rw [List.length_map]; exact hi), List.getElem?_map] at h
    cases q : ds[i]? with
    | none => rw [q] at h; cases h
    | some e => rw [q] at h; exact h
  · rw [List.getElem?_append_right (by rw [List.length_map]; omega), List.getElem?_replicate] at h
    split at h <;> cases h
theorem start_slots {K : PySem.W.Frag} {κ : Gh} {nx : Nat} {H : Hp} {vs : List V} {ds : List D} {N : List Str} {d : Def} (r : Reps K κ nx H vs ds) (hn : d.nn = N.length) (hl : ds.length ≤ N.length) : Slots K κ nx H (L2.start N vs) (start0 d ds) := by
  refine ⟨?_, fun i e h => ?_⟩
  · unfold L2.start start0
    rw [List.length_append, List.length_append, List.length_map, List.length_map, List.length_replicate, List.length_replicate, r.len, hn]
  · have q := look_start ds _ i e h
    obtain ⟨v, h1, h2⟩ := r.get q
    refine ⟨v, ?_, h2⟩
    unfold L2.start
    have hi : i < vs.length := (List.getElem?_eq_some_iff.mp h1).1
    rw [List.getElem?_append_left (by rw [List.length_map]; exact hi), List.getElem?_map, h1]
    rfl

section
variable {P : Program} {w : World} {K : PySem.W.Frag} {mg : Str → Option Value} {T : Tx} {S : Sig} {exV : Nat → Value} {fa : Nat → Addr}
/-- every def keeps what the evaluator says, at most n calls within one another -/
theorem all_ok (tp : Top K mg T S exV fa) (base : Heap) {cs : List (Addr × Addr)} (lt : LamT K T S fa cs) (tB : ∀ p ∈ cs, LamX.TabB base mg p.1 p.2) : ∀ n i e, T.defs[i]? = some e → ∃ fd, Fun K e.x e.qual e.st (fa i) fd ∧ Binds K fd e.ps [] ∧ PySem.W.keepIn K (.ref (fa i)) = true ∧ FnOk P w K mg base (L2.CX P w) (4 * n) (fa i) fd e.ps (SpD K S (run T.P T.F n) exV i e.ps.length) := by
  intro n
  induction n with
  | zero =>
    intro i e he
    obtain ⟨fd, F, B, _, _⟩ := tp.defs i e he
    refine ⟨fd, F, B, F.kp, ⟨fun vs H Q E h => h.1, fun A outer s H args us vs Q E hr e0 hb rv h => ?_⟩⟩
    obtain ⟨_, κ, s, ds, _, _, p⟩ := h
    exact p.elim
  | succ n ih =>
    intro i e he
    obtain ⟨fd, F, B, SC, ck⟩ := tp.defs i e he
    have c1 := and2 ck
    have c2 := and2 c1.1
    have c3 := and2 c2.1
    have hnp : (T.P.defs i).np = e.ps.length := of_decide_eq_true c3.2
    have hnn : (T.P.defs i).nn = e.N.length := of_decide_eq_true c2.2
    have hle : e.ps.length ≤ e.N.length := of_decide_eq_true c1.2
    refine ⟨fd, F, B, F.kp, ?_⟩
    refine okC (k := 4 * n + 3) F SC (fun vs H Q E h => h.1) (fun cdv A outer s H vs Q E hci hr h => ?_)
    obtain ⟨hl, κ, hs, ds, h1, rs, p⟩ := h
    refine ⟨_, pssW, ?_⟩
    -- the setting of the body
    let Γ : Set0 := { X := cxOf (L2.CX P w) P w K mg base e.N e.qual (defScope e.st) (fa i) cdv A outer s H E, S := S, P := T.P, T := run T.P T.F n, F := T.F, W := fun cls d _ H => E cls d H, exV := exV }
    have dk : ∀ j e', T.defs[j]? = some e' → DefOk Γ (4 * n) j (fa j) := fun j e' hj => by
      obtain ⟨fd', _, b1, b2, b3⟩ := ih j e' hj
      refine ⟨b2, fd', e'.ps, b1, b3, fun as s0 hne => ?_⟩
      obtain ⟨_, _, _, _, ck'⟩ := tp.defs j e' hj
      have d1 := and2 ck'
      have d2 := and2 d1.1
      have d3 := and2 d2.1
      have hnp' : (T.P.defs j).np = e'.ps.length := of_decide_eq_true d3.2
      show run T.P T.F n j as s0 = .stuck
      cases n with
      | zero => rfl
      | succ m =>
        unfold run
        dsimp only
        rw [if_neg (fun z => hne (z.1.trans hnp'))]
    have lt' : ∀ j, j < T.defs.length → ∃ e', T.defs[j]? = some e' := fun j hj => ⟨_, List.getElem?_eq_getElem hj⟩
    have hr3 : Room (4 * n + 3) Γ.X.A := hr
    have G : GdS Γ (4 * n) (T.ck e.N e.lam) := {
      calm := rfl
      room := hr3.mono (by omega)
      tk := takes_of rfl rfl rfl rfl
      nd := SC.nd
      N := rfl
      fnok := fun x h => ⟨h, .inl rfl⟩
      fns := fun x j h => by
        obtain ⟨a, b⟩ := tp.fns x j h
        obtain ⟨e', he'⟩ := lt' j b
        exact ⟨fa j, a, dk j e' he'⟩
      cls := fun x kC h => by
        obtain ⟨j, a, b, c, d, f⟩ := tp.cls x kC h
        obtain ⟨e', he'⟩ := lt' j b
        exact ⟨j, fa j, a, c, ⟨d, f, dk j e' he'⟩⟩
      mth := fun m mi h => ⟨fun kC j q => by
        obtain ⟨a, b⟩ := tp.mth m mi h kC j q
        obtain ⟨e', he'⟩ := lt' j a
        exact ⟨fa j, b, dk j e' he'⟩⟩
      fldn := tp.fldn
      fok := tp.fok
      blt := tp.blt
      glb := tp.glb
      gls := tp.gls
      isi := tp.isi
      told := fun x h => by
        have h' : (if e.lam = true then T.Y.told else none) = some x := h
        split at h'
        · rename_i hlam
          obtain ⟨g, st, fdg, Ng, a, l, t1, t2, t3, t4, t5, t6, t7, t8, t9, t10, t11, t12, t13⟩ := tp.told x h'
          obtain ⟨c, Pt, l1, l2, l3, l4⟩ := lt i e he hlam
          obtain rfl := hci.one l1
          exact ⟨⟨g, st, fdg, Ng, a, l, c, Pt, t1, t2, t3, t4, t5, t6, t7, t8, t9, t10, t11, t12, t13, tB _ l2, rfl, l3, l4⟩, hr3⟩
        · cases h'
      hp := passes_of rfl
      kind := SC.kind
      exc := fun nm x h => by
        obtain ⟨C, a, b, c, d, f, g⟩ := tp.exc nm x h
        exact ⟨C, a, b, c, d, raises_own f g⟩ }
    have B0 := okB_of (T.P.defs i).body (defBody e.st) Γ (4 * n) G c3.1
    refine B0 _ (start0 (T.P.defs i) ds) κ hs H _ h1 (start_slots rs hnn (by rw [← rs.len, hl]; exact hle)) ?_
    unfold run at p
    dsimp only at p
    rw [if_pos ⟨by rw [← rs.len, hl, hnp], by rw [hnp, hnn]; exact hle⟩] at p
    cases q : evS T.P (run T.P T.F n) T.F (T.P.defs i).body (start0 (T.P.defs i) ds) hs with
    | nx ρ' s' => rw [q] at p; exact fun κ' H' σ' t h2 sl => p κ' H' .non t h2 .non
    | ret d s' => rw [q] at p; exact fun κ' H' v t h2 r => p κ' H' v t h2 r
    | exc x ρ' s' => rw [q] at p; exact fun κ' H' σ' t h2 sl => p κ' H' t h2
    | brk ρ' s' => rw [q] at p; exact p.elim
    | cont ρ' s' => rw [q] at p; exact p.elim
    | stuck => rw [q] at p; exact p.elim

/-- the script, as a datum -/
def scriptD (ns : List Int) : D := frzD (ns.map PyData.int)
def s0 : Hs := ⟨0, fun _ => .no⟩
def κ0 : Gh := ⟨fun _ => 0, []⟩
theorem hr0 {H : Hp} (t : LamX.Tabs S.tabs H) : HR K S κ0 s0 H := ⟨fun n h => absurd h (Nat.not_lt_zero n), fun m n h => absurd h (Nat.not_lt_zero m), fun r h => absurd h List.not_mem_nil, t⟩
/-- the law's def -/
def spLaw (K : PySem.W.Frag) (S : Sig) (T : Tx) (n li : Nat) : Sp := fun vs H Q E => ∃ a ns, vs = [.ref a] ∧ SqL K H a (ns.map V.int) ∧ LamX.Tabs S.tabs H ∧ (∃ s', run T.P T.F n li [scriptD ns] s0 = .ok (.bool true) s') ∧ ∀ H', Q (.bl true) H'
theorem law_ok (tp : Top K mg T S exV fa) (base : Heap) {cs : List (Addr × Addr)} (lt : LamT K T S fa cs) (tB : ∀ p ∈ cs, LamX.TabB base mg p.1 p.2) {n li : Nat} {e : DE} (he : T.defs[li]? = some e) {x : Str} (hps : e.ps = [x]) :
    ∃ fd, Fun K e.x e.qual e.st (fa li) fd ∧ Binds K fd [x] [] ∧ FnOk P w K mg base (L2.CX P w) (4 * n) (fa li) fd [x] (spLaw K S T n li) := by
  obtain ⟨fd, U, B, _, F⟩ := all_ok (P := P) (w := w) tp base lt tB n li e he
  rw [hps] at B F
  refine ⟨fd, U, B, F.imp fun vs H Q E h => ?_⟩
  obtain ⟨a, ns, rfl, hS, tb, ⟨s', hrun⟩, q⟩ := h
  refine ⟨rfl, κ0, s0, [scriptD ns], hr0 tb, .cons (.frz (vs := ns.map V.int) ?_ (reps_ints ns)) .nil, ?_⟩
  · rcases hS with h | h
    · exact .inl ⟨h, fun n h => absurd h (Nat.not_lt_zero n), List.not_mem_nil⟩
    · exact .inr h
  · rw [hrun]
    intro κ' H' v t h2 r
    obtain rfl := bl_of r
    exact q H'
end
end Ev

set_option Elab.async false
set_option linter.all false
set_option maxRecDepth 100000
set_option maxHeartbeats 4000000
namespace Ev
open PySem PySem.Spec PyProof.Rows L2
/-! ### the end of a proof -/
theorem lk_nil {β : Type} {Q : Str → β → Prop} : ∀ x i, ([] : List (Str × β)).lookup x = some i → Q x i := fun _ _ h => nomatch h
theorem lk_cons {β : Type} {Q : Str → β → Prop} {a : Str} {b : β} {l : List (Str × β)} (h : Q a b) (r : ∀ x i, l.lookup x = some i → Q x i) : ∀ x i, ((a, b) :: l).lookup x = some i → Q x i := by
  intro x i e
  by_cases z : x = a
  · subst z
    have e' : some b = some i := by
      rw [← e]
      simp [List.lookup]
    cases e'
    exact h
  · refine r x i ?_
    rw [← e]
    have q : (x == a) = false := by simpa using z
    simp [List.lookup, q]
theorem bl_nil {Q : Str → Prop} : ∀ x, x ∈ ([] : List Str) → Q x := fun _ h => nomatch h
theorem bl_cons {Q : Str → Prop} {a : Str} {l : List Str} (h : Q a) (r : ∀ x, x ∈ l → Q x) : ∀ x, x ∈ a :: l → Q x := fun x m => by
  rcases List.mem_cons.mp m with e | e
  · subst e; exact h
  · exact r x e
theorem pr_nil {Q : Str → Str → Prop} : ∀ x y, (x, y) ∈ ([] : List (Str × Str)) → Q x y := fun _ _ h => nomatch h
theorem pr_cons {Q : Str → Str → Prop} {a b : Str} {l : List (Str × Str)} (h : Q a b) (r : ∀ x y, (x, y) ∈ l → Q x y) : ∀ x y, (x, y) ∈ (a, b) :: l → Q x y := fun x y m => by
  rcases List.mem_cons.mp m with e | e
  · cases e; exact h
  · exact r x y e
theorem df_nil {Q : Nat → DE → Prop} {n : Nat} : ∀ i e, ([] : List DE)[i]? = some e → Q (n + i) e := fun i e h => by cases i <;> exact nomatch h
theorem df_cons {Q : Nat → DE → Prop} {n : Nat} {a : DE} {l : List DE} (h : Q n a) (r : ∀ i e, l[i]? = some e → Q (n + 1 + i) e) : ∀ i e, (a :: l)[i]? = some e → Q (n + i) e
  | 0, e, q => by cases q; exact h
  | i + 1, e, q => by
    have z := r i e q
    rw [show n + (i + 1) = n + 1 + i by omega]
    exact z
theorem df_all {Q : Nat → DE → Prop} {l : List DE} (h : ∀ i e, l[i]? = some e → Q (0 + i) e) : ∀ i e, l[i]? = some e → Q i e := fun i e q => by
  have z := h i e q
  rwa [Nat.zero_add] at z
abbrev QD (K : PySem.W.Frag) (T : Tx) (fad : Nat → Addr) (i : Nat) (e : DE) : Prop := ∃ fd, Fun K e.x e.qual e.st (fad i) fd ∧ L2.Binds K fd e.ps [] ∧ FnScope e.N e.ps (defScope e.st) ∧ e.ok T i = true
def QDs (K : PySem.W.Frag) (T : Tx) (fad : Nat → Addr) (i : Nat) (e : DE) : Prop := QD K T fad i e
theorem qd {K : PySem.W.Frag} {T : Tx} {fad : Nat → Addr} {i : Nat} {e : DE} {fd : FuncData} (h1 : Fun K e.x e.qual e.st (fad i) fd) (h2 : L2.Binds K fd e.ps []) (h3 : FnScope e.N e.ps (defScope e.st)) (h4 : e.ok T i = true) : QDs K T fad i e := ⟨fd, h1, h2, h3, h4⟩
def QL (K : PySem.W.Frag) (S : Sig) (fad : Nat → Addr) (cs : List (Addr × Addr)) (i : Nat) (e : DE) : Prop := e.lam = true → ∃ c P, CodeIs K (fad i) (.ref c) ∧ (c, P) ∈ cs ∧ (P, (envOfC e.qual (defScope e.st) 0 0 .none).qual ++ "<lambda>") ∈ S.tabs ∧
  ∀ p ∈ S.tabs, p.1 = P → p.2 = (envOfC e.qual (defScope e.st) 0 0 .none).qual ++ "<lambda>"
theorem no_cx {P : Program} {w : World} {H : Hp} {s : Shared} {u : Value} {s' : Shared} : ¬ L2.CX P w [] H s (fun _ _ _ => False) u s' := by
  rintro ⟨a, B, H', cls, d, _, _, _, _, _, _, _, h⟩
  exact h
theorem fun_one {K : PySem.W.Frag} {x x' q q' : Str} {st st' : Stmt} {f : Addr} {fd fd' : FuncData} (F : Fun K x q st f fd) (F' : Fun K x' q' st' f fd') : fd' = fd := by
  obtain ⟨_, _, _, _, _, _, _, _, _, _, l, _⟩ := F.ex
  obtain ⟨_, _, _, _, _, _, _, _, _, _, l', _⟩ := F'.ex
  rw [l] at l'
  cases l'
  rfl
theorem fun_of {K : PySem.W.Frag} {x q : Str} {st : Stmt} {f : Addr} {fd : FuncData} {kws : List (Str × V)} (F : FunD K x q (defArgs st) (defBody st) (defScope st) [] kws f fd) : Fun K x q st f fd := by
  obtain ⟨oc, od, dV, kV, doc, pm, an, cdv, ct, osl, rfl, lk, hcd, hD, hK⟩ := F.ex
  rcases hD with ⟨_, rfl⟩ | ⟨e, _⟩
  · exact ⟨⟨oc, od, kV, doc, pm, an, cdv, ct, osl, rfl, lk, hcd⟩, F.kp⟩
  · exact absurd rfl e
theorem codeIs_of {K : PySem.W.Frag} {x q : Str} {st : Stmt} {p : He.Defn} {fd : FuncData} (F : Fun K x q st (He.fAd K p) fd) : CodeIs K (He.fAd K p) (.ref (He.codeOf K p)) := by
  obtain ⟨oc, od, kV, doc, pm, an, cdv, ct, osl, rfl, lk, hcd⟩ := F.ex
  obtain ⟨c, rfl⟩ := He.codeIn_ref hcd
  exact ⟨oc, od, osl, _, lk, by rw [He.codeOf_eq lk rfl]⟩
theorem tabs_one {l : List (Addr × Str)} (nd : (l.map (·.1)).Nodup) {P : Addr} {q : Str} (h : (P, q) ∈ l) : ∀ p ∈ l, p.1 = P → p.2 = q := by
  induction l with
  | nil => exact nomatch h
  | cons a l ih =>
    rw [List.map_cons, List.nodup_cons] at nd
    intro p hp e
    rcases List.mem_cons.mp h with z | z
    · rcases List.mem_cons.mp hp with y | y
      · rw [y, ← z]
      · exact absurd (by rw [← z]; show P ∈ _; rw [← e]; exact List.mem_map_of_mem y) nd.1
    · rcases List.mem_cons.mp hp with y | y
      · exact absurd (by rw [← y, e]; exact List.mem_map_of_mem (f := (·.1)) z) nd.1
      · exact ih nd.2 z p y e
theorem walkT {l : PySem.W.OpenLaw} {q : Program} {loose : List Str} {XP : (Str → Option Value) → Heap → Prop} {d : DefRec} {hn : Nat} {fa : List He.Fa} {fn : List He.DefD} {tf : List He.Defn} {ex : PySem.W.Frag → Bool} (T : Tx) (n li : Nat) {x : Str}
    (hmost : l.most = some 63) (hdf : d.params.defaults = []) (hr : Room (4 * n) callerA) (hx : d.name = ("law" : Str))
    (F : ∀ (w : World) (K : PySem.W.Frag) (mg : Str → Option Value) (f : Addr) (h : Heap), K.In h → h.Ns mainGlobals mg → He.SaysX fa fn [] tf ex w h K → mg ("law" : Str) = some (.ref f) →
      ∃ (S : Sig) (exV : Nat → Value) (fad : Nat → Addr) (e : DE) (fd : FuncData), Top K mg T S exV fad ∧ fad li = f ∧ T.defs[li]? = some e ∧ e.ps = [x] ∧ Fun K e.x e.qual e.st f fd ∧ (∀ (s : Shared) (u : Value), BindsTo s fd ⟨[u], []⟩ [(x, u)]) ∧
        LamT K T S fad (tf.map (He.cT K)) ∧ ∀ H : Hp, (∀ p ∈ tf.map (He.cT K), H p.2 = some (.tbl #[])) → LamX.Tabs S.tabs H)
    (hp : ∀ ns : List Int, ns.length ≤ 63 → ∃ s', run T.P T.F n li [scriptD ns] s0 = .ok (.bool true) s') :
    PySem.W.WalkO q loose XP (He.hookX hn fa fn [] tf ex).says l.row.toRowW d [] (fun f vs => PySem.call f vs) := by
  refine LamX.walk_ofTsE (n := 63) (k := 4 * n) (x := x) (CX := fun w => L2.CX l.prog w) hmost (by decide) hdf hr (fun w mg f h Y G hmg => ?_) (fun _ _ _ _ _ z => no_cx z)
  obtain ⟨K, KX, c⟩ := Y
  rw [hx] at hmg
  obtain ⟨S, exV, fad, e, fd, tp, rfl, he, hps, U, hb, lt, tb⟩ := F w K mg f h KX G c hmg
  have mem : ∀ p ∈ tf.map (He.cT K), ∃ z ∈ tf, p = He.cT K z := fun p h => by
    obtain ⟨z, hz, e⟩ := List.mem_map.mp h
    exact ⟨z, hz, e.symm⟩
  refine ⟨K, KX, fd, tf.map (He.cT K), spLaw K S T n li, fun p h => ?_, fun p h => ?_, fun p h => ?_, hb, fun H a ns hl _ hH hS => ⟨a, ns, rfl, hS, tb H hH, hp ns hl, fun _ => rfl⟩, fun base KB GB TB => ?_⟩
  · obtain ⟨z, hz, rfl⟩ := mem p h; exact c.empty z hz
  · obtain ⟨z, hz, rfl⟩ := mem p h; exact c.out z hz
  · obtain ⟨z, hz, rfl⟩ := mem p h; exact PySem.W.codeHd_of_K KX (c.hd z hz)
  · obtain ⟨fd', U', _, hF⟩ := law_ok (P := l.prog) (w := w) tp base lt TB (n := n) he hps
    rw [fun_one U U'] at hF
    exact hF
end Ev

set_option linter.all false
set_option maxRecDepth 100000
namespace Ev
open PySem
/-! ### steps of the evaluator, for values that are not known -/
section
variable {α β : Type} {s : Hs} {P : Prog} {T : Nat → List D → Hs → Res D} {F : Nat}
theorem bnd_ok {a : α} {f : α → Hs → Res β} : (Res.ok a s).bind f = f a s := rfl
theorem bnd_exc {e : Nat} {f : α → Hs → Res β} : (Res.exc e s : Res α).bind f = .exc e s := rfl
theorem noxP {a : α} : (Res.ok a s).nox = .ok a s := rfl
theorem look_z {d : D} {ρ : Env} : look (some d :: ρ) 0 = some d := rfl
theorem look_s {x : Option D} {ρ : Env} {n : Nat} : look (x :: ρ) (n + 1) = look ρ n := rfl
theorem small_z : small 0 = true := rfl
theorem neg_1 : (-(1 : Int)) = -1 := rfl
/-! the heap -/
theorem set_at {n : Nat} {c : Cell} : (s.set n c).h n = c := if_pos rfl
theorem set_of {n m : Nat} {c : Cell} (h : m ≠ n) : (s.set n c).h m = s.h m := if_neg h
theorem set_nx {n : Nat} {c : Cell} : (s.set n c).nx = s.nx := rfl
theorem push_at {c : Cell} : (s.push c).h s.nx = c := if_pos rfl
theorem push_of {m : Nat} {c : Cell} (h : m ≠ s.nx) : (s.push c).h m = s.h m := if_neg h
theorem push_nx {c : Cell} : (s.push c).nx = s.nx + 1 := rfl
/-! operators -/
theorem add_i {i j : Int} : bopE .add (.int i) (.int j) s = .ok (.int (i + j)) s := rfl
theorem sub_i {i j : Int} : bopE .sub (.int i) (.int j) s = .ok (.int (i - j)) s := rfl
theorem aadd_i {i j : Int} : augE .add (.int i) (.int j) s = .ok (.int (i + j)) s := rfl
theorem asub_i {i j : Int} : augE .sub (.int i) (.int j) s = .ok (.int (i - j)) s := rfl
theorem lt_i {i j : Int} : cmpE .lt (.int i) (.int j) s = .ok (.bool (decide (i < j))) s := rfl
theorem le_i {i j : Int} : cmpE .le (.int i) (.int j) s = .ok (.bool (decide (i ≤ j))) s := rfl
theorem gt_i {i j : Int} : cmpE .gt (.int i) (.int j) s = .ok (.bool (decide (j < i))) s := rfl
theorem ge_i {i j : Int} : cmpE .ge (.int i) (.int j) s = .ok (.bool (decide (j ≤ i))) s := rfl
theorem eqv_int {i j : Int} : PyData.eqv (.int i) (.int j) = decide (i = j) := by
  rw [← Bool.coe_iff_coe]
  simp [PyData.eqv]
theorem eq_i {i j : Int} : cmpE .eq (.int i) (.int j) s = .ok (.bool (decide (i = j))) s := by
  show (if SeqAt.shaped (.int i) && SeqAt.shaped (.int j) then Res.ok (PyData.bool (PyData.eqv (.int i) (.int j))) s else .stuck) = _
  rw [eqv_int]
  rfl
theorem ne_i {i j : Int} : cmpE .ne (.int i) (.int j) s = .ok (.bool (!decide (i = j))) s := by
  show (if SeqAt.shaped (.int i) && SeqAt.shaped (.int j) then Res.ok (PyData.bool (!PyData.eqv (.int i) (.int j))) s else .stuck) = _
  rw [eqv_int]
  rfl
/-! lists of iL -/
abbrev iL (l : List Int) : List D := l.map PyData.int
theorem lay_iL : ∀ l : List Int, PyData.canLayAll0 (iL l) = true
  | [] => by simp [PyData.canLayAll0]
  | i :: l => by simp [PyData.canLayAll0, PyData.canLay0, lay_iL l]
theorem depth_iL : ∀ l : List Int, PyData.depthAll (iL l) ≤ 1
  | [] => by simp [PyData.depthAll]
  | i :: l => by
    have := depth_iL l
    simp only [iL, List.map_cons, PyData.depthAll, PyData.depth]
    simp only [iL] at this
    omega
theorem shaped_iL (l : List Int) : SeqAt.shaped (.list (iL l)) = true := by
  have h1 : PyData.canLay0 (.list (iL l)) = true := by simpa [PyData.canLay0] using lay_iL l
  have h2 : (PyData.list (iL l)).depth ≤ 64 := by
    have := depth_iL l
    simp only [PyData.depth]
    omega
  unfold SeqAt.shaped
  rw [h1, decide_eq_true h2]
  rfl
theorem eqv_iL : ∀ a b : List Int, PyData.eqvAll (iL a) (iL b) = decide (a = b)
  | [], [] => by simp [PyData.eqvAll]
  | [], _ :: _ => by simp [PyData.eqvAll]
  | _ :: _, [] => by simp [PyData.eqvAll]
  | i :: a, j :: b => by
    rw [show PyData.eqvAll (iL (i :: a)) (iL (j :: b)) = (PyData.eqv (.int i) (.int j) && PyData.eqvAll (iL a) (iL b)) by simp [PyData.eqvAll], eqv_int, eqv_iL a b, ← Bool.coe_iff_coe]
    simp
theorem drfN_iL (k : Nat) (l : List Int) : (iL l).map (fun x => drfN k x s) = iL l := by
  refine (List.map_congr_left (g := id) fun x hx => ?_).trans (List.map_id _)
  obtain ⟨i, _, rfl⟩ := List.mem_map.mp hx
  cases k <;> rfl
theorem drf_lst {l : List Int} : drf (.list (iL l)) s = .list (iL l) := by
  show PyData.list ((iL l).map fun x => drfN 3 x s) = _
  rw [drfN_iL]
theorem drf_cel {n : Nat} {l : List Int} (h : s.h n = .lst (iL l)) : drf (cel n) s = .list (iL l) := by
  show (match s.h n with | .lst l => PyData.list (l.map fun x => drfN 3 x s) | _ => cel n) = _
  rw [h]
  show PyData.list ((iL l).map fun x => drfN 3 x s) = _
  rw [drfN_iL]
theorem ne_nil {n : Nat} {l : List Int} (h : s.h n = .lst (iL l)) : cmpE .ne (cel n) (.list []) s = .ok (.bool (!decide (l = []))) s := by
  show (if SeqAt.shaped (drf (cel n) s) && SeqAt.shaped (drf (.list (iL [])) s) then Res.ok (PyData.bool (!PyData.eqv (drf (cel n) s) (drf (.list (iL [])) s))) s else .stuck) = _
  rw [drf_cel h, drf_lst, shaped_iL, shaped_iL, show PyData.eqv (.list (iL l)) (.list (iL [])) = PyData.eqvAll (iL l) (iL []) by simp [PyData.eqv], eqv_iL]
  rfl
theorem eq_nil {n : Nat} {l : List Int} (h : s.h n = .lst (iL l)) : cmpE .eq (cel n) (.list []) s = .ok (.bool (decide (l = []))) s := by
  show (if SeqAt.shaped (drf (cel n) s) && SeqAt.shaped (drf (.list (iL [])) s) then Res.ok (PyData.bool (PyData.eqv (drf (cel n) s) (drf (.list (iL [])) s))) s else .stuck) = _
  rw [drf_cel h, drf_lst, shaped_iL, shaped_iL, show PyData.eqv (.list (iL l)) (.list (iL [])) = PyData.eqvAll (iL l) (iL []) by simp [PyData.eqv], eqv_iL]
  rfl
/-! indices -/
theorem ixD_n {n j : Nat} (h : j < n) : ixD n (j : Int) = some j := by
  unfold ixD L2.ixN
  rw [if_pos (by omega), if_pos (by omega)]
  rfl
theorem ix_lst {l : List D} {j : Nat} {d : D} (h : l[j]? = some d) : ixA (.list l) (.int (j : Int)) s = .ok d s := by
  have hj := (List.getElem?_eq_some_iff.mp h).1
  show (match ixD l.length (j : Int) with | some j => (match l[j]? with | some d => Res.ok d s | none => .stuck) | none => .stuck) = _
  rw [ixD_n hj]
  dsimp only
  rw [h]
theorem ix_tup {l : List D} {j : Nat} {d : D} (h : l[j]? = some d) : ixA (.tuple l) (.int (j : Int)) s = .ok d s := by
  have hj := (List.getElem?_eq_some_iff.mp h).1
  show (match ixD l.length (j : Int) with | some j => (match l[j]? with | some d => Res.ok d s | none => .stuck) | none => .stuck) = _
  rw [ixD_n hj]
  dsimp only
  rw [h]
theorem ix_cel {n : Nat} {l : List D} {j : Nat} {d : D} (hn : s.h n = .lst l) (h : l[j]? = some d) : ixA (cel n) (.int (j : Int)) s = .ok d s := by
  have hj := (List.getElem?_eq_some_iff.mp h).1
  have e1 : dicK (cel n) s = none := by show (match s.h n with | .dic false kvs => some kvs | .dik kvs => some kvs | _ => none) = none; rw [hn]
  have e2 : dicT (cel n) s = none := by show (match s.h n with | .dic true kvs => some kvs | _ => none) = none; rw [hn]
  unfold ixA
  rw [e1]
  dsimp only
  rw [e2]
  dsimp only
  show (match (match s.h n with | .lst l => some l | _ => none) with | some l => (match ixD l.length (j : Int) with | some j => (match l[j]? with | some d => Res.ok d s | none => .stuck) | none => .stuck) | none => .stuck) = _
  rw [hn]
  dsimp only
  rw [ixD_n hj]
  dsimp only
  rw [h]
theorem fld_i {n k f : Nat} {fs : List (Nat × D)} {d : D} (hn : s.h n = .ins k fs) (h : fs.lookup f = some d) : fldE (cel n) f s = .ok d s := by
  show (match s.h n with | .ins _ fs => (match fs.lookup f with | some d => Res.ok d s | none => .stuck) | _ => .stuck) = _
  rw [hn]
  dsimp only
  rw [h]
theorem len_lst {l : List D} : biE .len [.list l] s = .ok (.int l.length) s := rfl
theorem len_cel {n : Nat} {l : List D} (hn : s.h n = .lst l) : biE .len [cel n] s = .ok (.int l.length) s := by
  show (match (match s.h n with | .lst l => some l | _ => none) with | some l => Res.ok (PyData.int l.length) s | none => .stuck) = _
  rw [hn]
theorem lst_is {n : Nat} {l : List D} (hn : s.h n = .lst l) : (lstD (cel n) s).isSome = true := by
  show (match s.h n with | .lst l => some l | _ => none).isSome = _
  rw [hn]
  rfl
theorem lst_some {n : Nat} {l : List D} (hn : s.h n = .lst l) : lstD (cel n) s = some l := by
  show (match s.h n with | .lst l => some l | _ => none) = _
  rw [hn]
theorem app_cel {n : Nat} {l : List D} {d : D} (hn : s.h n = .lst l) (hl : l.length < 1000000) : bmE .append (cel n) [d] s = .ok .none (s.set n (.lst (l ++ [d]))) := by
  show (match s.h n with | .lst l => (if small l.length then Res.ok PyData.none (s.set n (.lst (l ++ [d]))) else .stuck) | _ => .stuck) = _
  rw [hn]
  dsimp only
  rw [show small l.length = true from Nat.blt_eq.mpr hl]
  rfl
theorem pop0_cel {n : Nat} {d : D} {l : List D} (hn : s.h n = .lst (d :: l)) : bmE .popAt (cel n) [.int 0] s = .ok d (s.set n (.lst l)) := by
  show (match s.h n with | .lst l => (match ixD l.length 0 with | some j => (match l[j]? with | some d => if okI 0 then Res.ok d (s.set n (.lst (l.eraseIdx j))) else .stuck | none => .stuck) | none => .stuck) | _ => .stuck) = _
  rw [hn]
  dsimp only
  rw [show ixD (d :: l).length 0 = some 0 from ixD_n (j := 0) (Nat.succ_pos _)]
  rfl
theorem ix_last {n : Nat} {l : List D} {d : D} (hn : s.h n = .lst (l ++ [d])) : ixA (cel n) (.int (-1)) s = .ok d s := by
  have e1 : dicK (cel n) s = none := by show (match s.h n with | .dic false kvs => some kvs | .dik kvs => some kvs | _ => none) = none; rw [hn]
  have e2 : dicT (cel n) s = none := by show (match s.h n with | .dic true kvs => some kvs | _ => none) = none; rw [hn]
  have e3 : ixD (l ++ [d]).length (-1) = some l.length := by
    unfold ixD L2.ixN
    rw [List.length_append, List.length_singleton, if_neg (by omega), if_pos (by omega)]
    congr 1
    omega
  unfold ixA
  rw [e1]
  dsimp only
  rw [e2]
  dsimp only
  show (match (match s.h n with | .lst l => some l | _ => none) with | some l => (match ixD l.length (-1) with | some j => (match l[j]? with | some d => Res.ok d s | none => .stuck) | none => .stuck) | none => .stuck) = _
  rw [hn]
  dsimp only
  rw [e3]
  dsimp only
  rw [List.getElem?_append_right (Nat.le_refl _), Nat.sub_self]
  rfl
theorem ixC_cel {n : Nat} {l : List D} {j : Nat} {d : D} (hn : s.h n = .lst l) (h : l[j]? = some d) : ixC (cel n) (.int (j : Int)) s = .ok d s := by
  have hj := (List.getElem?_eq_some_iff.mp h).1
  show (match s.h n with | .lst l => (match ixD l.length (j : Int) with | some j => (match l[j]? with | some d => Res.ok d s | none => .stuck) | none => .stuck) | _ => .stuck) = _
  rw [hn]
  dsimp only
  rw [ixD_n hj]
  dsimp only
  rw [h]
theorem setLst_cel {n : Nat} {l : List D} {j : Nat} {d : D} (hn : s.h n = .lst l) (hj : j < l.length) : setLst (cel n) (.int (j : Int)) d s = some (s.set n (.lst (l.set j d))) := by
  show (match s.h n with | .lst l => (match ixD l.length (j : Int) with | some j => some (s.set n (.lst (l.set j d))) | none => none) | _ => none) = _
  rw [hn]
  dsimp only
  rw [ixD_n hj]
theorem setA_cel {n : Nat} {l : List D} {j : Nat} {d : D} (hn : s.h n = .lst l) (hj : j < l.length) : setA (cel n) (.int (j : Int)) d s = some (s.set n (.lst (l.set j d))) := by
  have e1 : dicK (cel n) s = none := by show (match s.h n with | .dic false kvs => some kvs | .dik kvs => some kvs | _ => none) = none; rw [hn]
  have e2 : dicT (cel n) s = none := by show (match s.h n with | .dic true kvs => some kvs | _ => none) = none; rw [hn]
  unfold setA
  rw [e1]
  dsimp only
  rw [e2]
  exact setLst_cel hn hj
theorem intsD_iL : ∀ l : List Int, intsD (iL l) = some l
  | [] => rfl
  | i :: l => by show (intsD (iL l)).map (i :: ·) = _; rw [intsD_iL l]; rfl
theorem sum_cel {n : Nat} {l : List Int} (hn : s.h n = .lst (iL l)) : biE .sum [cel n] s = .ok (.int l.sum) s := by
  show (match (lstD (cel n) s).bind intsD with | some l => Res.ok (PyData.int l.sum) s | none => .stuck) = _
  rw [lst_some hn]
  show (match intsD (iL l) with | some l => Res.ok (PyData.int l.sum) s | none => .stuck) = _
  rw [intsD_iL]
theorem tup_cel {n : Nat} {l : List D} (hn : s.h n = .lst l) : biE .tuple [cel n] s = .ok (.tuple l) s := by
  show (match lstD (cel n) s with | some l => Res.ok (PyData.tuple l) s | none => .stuck) = _
  rw [lst_some hn]
theorem ext_lst {n : Nat} {l l2 : List D} (hn : s.h n = .lst l) (hl : l.length + l2.length ≤ 1000000) : bmE .extend (cel n) [.list l2] s = .ok .none (s.set n (.lst (l ++ l2))) := by
  show (match s.h n with | .lst l => (match lstD (.list l2) s with | some l2 => (if Nat.ble (l.length + l2.length) 1000000 then Res.ok PyData.none (s.set n (.lst (l ++ l2))) else .stuck) | none => .stuck) | _ => .stuck) = _
  rw [hn]
  show (if Nat.ble (l.length + l2.length) 1000000 = true then Res.ok PyData.none (s.set n (.lst (l ++ l2))) else .stuck) = _
  rw [if_pos (Nat.ble_eq_true_of_le hl)]
theorem meth_i {n k m : Nat} {fs : List (Nat × D)} (hn : s.h n = .ins k fs) : methF P m (cel n) s = P.meth k m := by
  show (match s.h n with | .ins k _ => P.meth k m | _ => none) = _
  rw [hn]
theorem val_tup {l : List D} : valE (.tuple l) s = .ok (.fix l) s := rfl
theorem val_lst {l : List D} : valE (.list l) s = .ok (.fix l) s := rfl
theorem val_cel {n : Nat} {l : List D} (hn : s.h n = .lst l) : valE (cel n) s = .ok (.live n 0) s := by
  show (match s.h n with | .lst _ => Res.ok (Cur.live n 0) s | .dik kvs => .ok (.fix (kvs.map Prod.fst)) s | _ => .stuck) = _
  rw [hn]
/-! walks over what doesn't change -/
theorem comp_map {item : D → Hs → Res (Option D)} {g : D → D} : ∀ (l : List D) (m : Nat) (acc : List D) (s : Hs), (∀ x, x ∈ l → item x s = .ok (some (g x)) s) → l.length < m → acc.length + l.length < 1000000 → compN item m (.fix l) acc s = .ok (acc ++ l.map g) s
  | [], 0, acc, s, _, h, _ => absurd h (by simp)
  | [], m + 1, acc, s, _, _, _ => by
    unfold compN
    simp only [Cur.next, List.map_nil, List.append_nil]
  | x :: l, 0, acc, s, _, h, _ => absurd h (by simp)
  | x :: l, m + 1, acc, s, h, hm, ha => by
    unfold compN
    simp only [Cur.next, h x List.mem_cons_self, bnd_ok]
    simp only [List.length_cons] at hm ha
    rw [show small acc.length = true from Nat.blt_eq.mpr (by omega), if_pos rfl, comp_map l m _ s (fun y hy => h y (List.mem_cons_of_mem _ hy)) (by omega) (by rw [List.length_append, List.length_singleton]; omega)]
    simp only [List.map_cons, List.append_assoc, List.singleton_append]
theorem comp_filter {item : D → Hs → Res (Option D)} {g : D → Option D} : ∀ (l : List D) (m : Nat) (acc : List D) (s : Hs), (∀ x, x ∈ l → item x s = .ok (g x) s) → l.length < m → acc.length + l.length < 1000000 → compN item m (.fix l) acc s = .ok (acc ++ l.filterMap g) s
  | [], 0, acc, s, _, h, _ => absurd h (by simp)
  | [], m + 1, acc, s, _, _, _ => by
    unfold compN
    simp only [Cur.next, List.filterMap_nil, List.append_nil]
  | x :: l, 0, acc, s, _, h, _ => absurd h (by simp)
  | x :: l, m + 1, acc, s, h, hm, ha => by
    unfold compN
    simp only [Cur.next, h x List.mem_cons_self, bnd_ok]
    simp only [List.length_cons] at hm ha
    cases q : g x with
    | none =>
      dsimp only
      rw [comp_filter l m _ s (fun y hy => h y (List.mem_cons_of_mem _ hy)) (by omega) (by omega), List.filterMap_cons, q]
    | some d =>
      dsimp only
      rw [show small acc.length = true from Nat.blt_eq.mpr (by omega), if_pos rfl, comp_filter l m _ s (fun y hy => h y (List.mem_cons_of_mem _ hy)) (by omega) (by rw [List.length_append, List.length_singleton]; omega), List.filterMap_cons, q]
      simp only [List.append_assoc, List.singleton_append]
theorem range_n (n : Nat) : rangeL 0 (n : Int) = (List.range n).map fun (j : Nat) => .int (j : Int) := by
  unfold rangeL
  rw [show ((n : Int) - 0).toNat = n by omega]
  refine List.map_congr_left fun i _ => ?_
  rw [Int.zero_add]
theorem okI_n {n : Nat} (h : n < 1000000) : okI (n : Int) = true := by
  unfold okI
  rw [decide_eq_true (by omega), decide_eq_true (by omega)]
  rfl
/-! new cells, one an item -/
def pushN : Nat → Hs → Hs
  | 0, s => s
  | k + 1, s => pushN k (s.push (.lst []))
theorem pushN_nx : ∀ (k : Nat) (s : Hs), (pushN k s).nx = s.nx + k
  | 0, s => rfl
  | k + 1, s => by
    show (pushN k (s.push (.lst []))).nx = _
    rw [pushN_nx k, push_nx]
    omega
theorem pushN_of : ∀ (k : Nat) (s : Hs) (n : Nat), n < s.nx → (pushN k s).h n = s.h n
  | 0, s, n, h => rfl
  | k + 1, s, n, h => by
    show (pushN k (s.push (.lst []))).h n = _
    rw [pushN_of k _ n (by rw [push_nx]; omega), push_of (by omega)]
theorem pushN_at : ∀ (k : Nat) (s : Hs) (i : Nat), i < k → (pushN k s).h (s.nx + i) = .lst []
  | 0, s, i, h => absurd h (Nat.not_lt_zero i)
  | k + 1, s, 0, h => by
    show (pushN k (s.push (.lst []))).h s.nx = _
    rw [pushN_of k _ s.nx (by rw [push_nx]; omega), push_at]
  | k + 1, s, i + 1, h => by
    show (pushN k (s.push (.lst []))).h (s.nx + (i + 1)) = _
    rw [show s.nx + (i + 1) = (s.push (.lst [])).nx + i by rw [push_nx]; omega]
    exact pushN_at k _ i (by omega)
theorem comp_push {item : D → Hs → Res (Option D)} (hi : ∀ x s, item x s = .ok (some (cel s.nx)) (s.push (.lst []))) : ∀ (l : List D) (m : Nat) (acc : List D) (s : Hs), l.length < m → acc.length + l.length < 1000000 →
    compN item m (.fix l) acc s = .ok (acc ++ (List.range l.length).map fun i => cel (s.nx + i)) (pushN l.length s)
  | [], 0, acc, s, h, _ => absurd h (by simp)
  | [], m + 1, acc, s, _, _ => by
    unfold compN
    simp only [Cur.next, List.length_nil, List.range_zero, List.map_nil, List.append_nil]
    rfl
  | x :: l, 0, acc, s, h, _ => absurd h (by simp)
  | x :: l, m + 1, acc, s, hm, ha => by
    unfold compN
    simp only [Cur.next, hi, bnd_ok]
    simp only [List.length_cons] at hm ha
    rw [show small acc.length = true from Nat.blt_eq.mpr (by omega), if_pos rfl, comp_push hi l m _ _ (by omega) (by rw [List.length_append, List.length_singleton]; omega)]
    have e : (acc ++ [cel s.nx]) ++ (List.range l.length).map (fun i => cel ((s.push (.lst [])).nx + i)) = acc ++ (List.range (l.length + 1)).map fun i => cel (s.nx + i) := by
      rw [List.range_succ_eq_map, List.map_cons, List.map_map, List.append_assoc, push_nx, List.singleton_append]
      congr 2
      refine List.map_congr_left fun i _ => ?_
      show cel (s.nx + 1 + i) = cel (s.nx + (i + 1))
      rw [show s.nx + 1 + i = s.nx + (i + 1) by omega]
    rw [e]
    rfl
theorem setF_i {ok : Nat → Nat → Bool} {n k f : Nat} {fs : List (Nat × D)} {d : D} (hn : s.h n = .ins k fs) (h1 : ok k f = true) (h2 : fs.length < 500) : setFld ok (cel n) f d s = some (s.set n (.ins k (putD fs f d))) := by
  show (match s.h n with | .ins k fs => (if ok k f && Nat.blt fs.length 500 then some (s.set n (.ins k (putD fs f d))) else none) | _ => none) = _
  rw [hn]
  dsimp only
  rw [h1, Nat.blt_eq.mpr h2]
  rfl
/-- a turn of a walk -/
def fturn (P : Prog) (T : Nat → List D → Hs → Res D) (F : Nat) (t b : C) : D → Env → Hs → SR := fun x ρ s2 => match evG t x ρ s2 with
  | some ρ1 => evS P T F b ρ1 s2
  | none => .stuck
theorem fors_ok {t it b : C} {ρ : Env} {xs : Cur} {s1 : Hs} (h : evI P T it ρ s = .ok xs s1) : evS P T F (.fors t it b) ρ s = forN (fturn P T F t b) turnsN xs ρ s1 := by
  rw [evS, h]
  generalize turnsN = N
  rfl
theorem tup_lst {l : List D} : biE .tuple [.list l] s = .ok (.tuple l) s := rfl
end
end Ev


set_option linter.all false
set_option maxRecDepth 100000
namespace Ev
open PySem
/-! ### more steps for values that are not known: walks over lists that may change, slices, loops by a relation -/
section
variable {α β : Type} {s : Hs} {P : Prog} {T : Nat → List D → Hs → Res D} {F : Nat}
/-- an item of a list's building -/
def itemF (P : Prog) (T : Nat → List D → Hs → Res D) (own : List Nat) (tg cond e : C) (ρ : Env) : D → Hs → Res (Option D) := fun x s2 => match evG tg x (wipeD ρ own) s2 with
  | some ρ1 => ((evE P T cond ρ1 s2).bind fun b s3 => match b with
    | .bool true => (evE P T e ρ1 s3).bind fun d s4 => .ok (some d) s4
    | .bool false => .ok none s3
    | _ => .stuck).nox
  | none => .stuck
theorem comp_eq {own : List Nat} {tg it cond e : C} {ρ : Env} {xs : Cur} {s1 : Hs} (h : evI P T it ρ s = .ok xs s1) : evN P T (.comp own tg it cond e) ρ s = compN (itemF P T own tg cond e ρ) turnsN xs [] s1 := by
  rw [evN, h, bnd_ok]
  unfold itemF
  generalize turnsN = N
  rfl
theorem item_yes {own : List Nat} {tg cond e : C} {ρ ρ1 : Env} {x d : D} {s2 : Hs} (h1 : evG tg x (wipeD ρ own) s = some ρ1) (h2 : evE P T cond ρ1 s = .ok (.bool true) s) (h3 : evE P T e ρ1 s = .ok d s2) : itemF P T own tg cond e ρ x s = .ok (some d) s2 := by
  unfold itemF
  rw [h1]
  dsimp only
  rw [h2, bnd_ok]
  dsimp only
  rw [h3]
  rfl
theorem item_if {own : List Nat} {tg cond e : C} {ρ ρ1 : Env} {x d : D} {b : Bool} (h1 : evG tg x (wipeD ρ own) s = some ρ1) (h2 : evE P T cond ρ1 s = .ok (.bool b) s) (h3 : b = true → evE P T e ρ1 s = .ok d s) : itemF P T own tg cond e ρ x s = .ok (if b then some d else none) s := by
  unfold itemF
  rw [h1]
  dsimp only
  rw [h2, bnd_ok]
  cases b with
  | true =>
    dsimp only
    rw [h3 rfl]
    rfl
  | false => rfl
theorem comp_live {item : D → Hs → Res (Option D)} {n : Nat} {l : List D} (hn : s.h n = .lst l) (hk : ∀ x, x ∈ l → ∃ r, item x s = .ok r s) : ∀ (m i : Nat) (acc : List D), compN item m (.live n i) acc s = compN item m (.fix (l.drop i)) acc s
  | 0, i, acc => rfl
  | m + 1, i, acc => by
    unfold compN
    have e1 : Cur.next s (.live n i) = match l[i]? with | some x => Nxt.item x (.live n (i + 1)) | none => .stop := by
      show (match s.h n with | .lst l => (match l[i]? with | some x => Nxt.item x (.live n (i + 1)) | none => .stop) | _ => .lost) = _
      rw [hn]
    rw [e1]
    cases q : l[i]? with
    | none =>
      rw [List.drop_eq_nil_of_le (List.getElem?_eq_none_iff.mp q)]
      rfl
    | some x =>
      obtain ⟨hi, rfl⟩ := List.getElem?_eq_some_iff.mp q
      rw [List.drop_eq_getElem_cons hi]
      obtain ⟨r, hr⟩ := hk _ (List.getElem_mem hi)
      simp only [Cur.next, hr, bnd_ok]
      cases r with
      | none => exact comp_live hn hk m (i + 1) acc
      | some d =>
        dsimp only
        rw [comp_live hn hk m (i + 1) (acc ++ [d])]
/-- what is walked, as it stands -/
def Walk (s : Hs) (c : Cur) (l : List D) : Prop := c = .fix l ∨ ∃ n, c = .live n 0 ∧ s.h n = .lst l
theorem Walk.fix {l : List D} : Walk s (.fix l) l := .inl rfl
theorem Walk.live {n : Nat} {l : List D} (h : s.h n = .lst l) : Walk s (.live n 0) l := .inr ⟨n, rfl, h⟩
theorem comp_run {item : D → Hs → Res (Option D)} {c : Cur} {l : List D} (w : Walk s c l) {g : D → Option D} (hg : ∀ x, x ∈ l → item x s = .ok (g x) s) (hl : l.length < 1000000) : compN item turnsN c [] s = .ok (l.filterMap g) s := by
  have key : compN item turnsN (.fix l) [] s = .ok (l.filterMap g) s := comp_filter l turnsN [] s hg hl (by simpa using hl)
  rcases w with rfl | ⟨n, rfl, hn⟩
  · exact key
  · rw [comp_live hn (fun x hx => ⟨g x, hg x hx⟩)]
    exact key
theorem filterMap_enc {enc : α → D} {g : D → Option D} {p : α → Bool} {f : α → D} : ∀ (L : List α), (∀ a, a ∈ L → g (enc a) = if p a then some (f a) else none) → (L.map enc).filterMap g = (L.filter p).map f
  | [], _ => rfl
  | a :: L, h => by
    rw [List.map_cons, List.filterMap_cons, h a List.mem_cons_self]
    cases q : p a with
    | true => rw [List.filter_cons_of_pos q, List.map_cons, ← filterMap_enc L (fun b hb => h b (List.mem_cons_of_mem _ hb))]; rfl
    | false => rw [List.filter_cons_of_neg (by simp [q]), ← filterMap_enc L (fun b hb => h b (List.mem_cons_of_mem _ hb))]; rfl
/-- a list's building over typed items that keep the state -/
theorem comp_typ {own : List Nat} {tg it cond e : C} {ρ : Env} {c : Cur} {L : List α} {enc : α → D} (p : α → Bool) (f : α → D) (h : evI P T it ρ s = .ok c s) (w : Walk s c (L.map enc)) (hi : ∀ a, a ∈ L → itemF P T own tg cond e ρ (enc a) s = .ok (if p a then some (f a) else none) s) (hl : L.length < 1000000) :
    evN P T (.comp own tg it cond e) ρ s = .ok ((L.filter p).map f) s := by
  rw [comp_eq h]
  let g : D → Option D := fun d => match itemF P T own tg cond e ρ d s with
    | .ok r _ => r
    | _ => none
  have hg : ∀ a, a ∈ L → g (enc a) = if p a then some (f a) else none := fun a ha => by
    show (match itemF P T own tg cond e ρ (enc a) s with
      | .ok r _ => r
      | _ => none) = _
    rw [hi a ha]
  rw [comp_run (g := g) w (fun x hx => ?_) (by rw [List.length_map]; exact hl), filterMap_enc L hg]
  obtain ⟨a, ha, rfl⟩ := List.mem_map.mp hx
  rw [hg a ha, hi a ha]
theorem comp_all {own : List Nat} {tg it cond e : C} {ρ : Env} {c : Cur} {L : List α} {enc : α → D} (f : α → D) (h : evI P T it ρ s = .ok c s) (w : Walk s c (L.map enc)) (hi : ∀ a, a ∈ L → itemF P T own tg cond e ρ (enc a) s = .ok (some (f a)) s) (hl : L.length < 1000000) :
    evN P T (.comp own tg it cond e) ρ s = .ok (L.map f) s := by
  rw [comp_typ (fun _ => true) f h w (fun a ha => by rw [hi a ha]; rfl) hl]
  congr 2
  exact List.filter_eq_self.mpr (fun _ _ => rfl)
/-! slices -/
theorem cut_hi {l : List α} {k : Int} (h : 0 ≤ k) : cutD l none (some k) = l.take k.toNat := by
  unfold cutD HT.sIx
  dsimp only
  have : ¬ k < 0 := by omega
  rw [if_neg this]
  rw [List.drop_zero, Nat.sub_zero]
  by_cases h2 : k.toNat ≤ l.length
  · congr 1
    omega
  · rw [List.take_of_length_le (by omega), List.take_of_length_le (by omega)]
theorem cut_lo {l : List α} {k : Nat} : cutD l (some (k : Int)) none = l.drop k := by
  unfold cutD HT.sIx
  dsimp only
  rw [if_neg (by omega)]
  by_cases h2 : k ≤ l.length
  · rw [show min (k : Int).toNat l.length = k by omega]
    exact List.take_of_length_le (by rw [List.length_drop]; omega)
  · rw [List.drop_eq_nil_of_le (by omega), List.drop_eq_nil_of_le (by omega), List.take_nil]
theorem slice_cel {n : Nat} {l : List D} (hn : s.h n = .lst l) {lo hi : Option Int} : sliceE (cel n) lo hi s = .ok (.list (cutD l lo hi)) s := by
  show (match lstD (cel n) s with | some l => Res.ok (PyData.list (cutD l lo hi)) s | none => .stuck) = _
  rw [lst_some hn]
theorem slice_lst {l : List D} {lo hi : Option Int} : sliceE (.list l) lo hi s = .ok (.list (cutD l lo hi)) s := rfl
theorem slice_tup {l : List D} {lo hi : Option Int} : sliceE (.tuple l) lo hi s = .ok (.tuple (cutD l lo hi)) s := rfl
theorem sliceN_cel {n : Nat} {l : List D} (hn : s.h n = .lst l) {lo hi : Option Int} : sliceN (cel n) lo hi s = .ok (cutD l lo hi) s := by
  show (match lstD (cel n) s with | some l => Res.ok (cutD l lo hi) s | none => .stuck) = _
  rw [lst_some hn]
/-! fields with an operator -/
theorem cls_i {n k : Nat} {fs : List (Nat × D)} (hn : s.h n = .ins k fs) : clsD (cel n) s = some k := by
  show (match s.h n with | .ins k _ => some k | _ => none) = _
  rw [hn]
/-! loops, by a relation that each turn keeps -/
theorem for_rel {turn : D → Env → Hs → SR} (R : Nat → Env → Hs → Prop) : ∀ (l : List D) (m i : Nat) (ρ : Env) (s : Hs), l.length < m → R i ρ s →
    (∀ (j : Nat) (x : D) (ρ : Env) (s : Hs), l[j]? = some x → R (i + j) ρ s → ∃ ρ' s', turn x ρ s = .nx ρ' s' ∧ R (i + j + 1) ρ' s') →
    ∃ ρ' s', forN turn m (.fix l) ρ s = .nx ρ' s' ∧ R (i + l.length) ρ' s'
  | [], 0, i, ρ, s, h, _, _ => absurd h (by simp)
  | [], m + 1, i, ρ, s, _, h, _ => ⟨ρ, s, rfl, h⟩
  | x :: l, 0, i, ρ, s, h, _, _ => absurd h (by simp)
  | x :: l, m + 1, i, ρ, s, hm, h, ht => by
    obtain ⟨ρ1, s1, e1, h1⟩ := ht 0 x ρ s rfl h
    obtain ⟨ρ2, s2, e2, h2⟩ := for_rel R l m (i + 1) ρ1 s1 (by simp only [List.length_cons] at hm; omega) h1 (fun j y ρ s hj hr => by
      obtain ⟨ρ', s', e', h'⟩ := ht (j + 1) y ρ s hj (by rw [show i + (j + 1) = i + 1 + j by omega]; exact hr)
      exact ⟨ρ', s', e', by rw [show i + 1 + j + 1 = i + (j + 1) + 1 by omega]; exact h'⟩)
    refine ⟨ρ2, s2, ?_, by rw [List.length_cons, show i + (l.length + 1) = i + 1 + l.length by omega]; exact h2⟩
    show (match turn x ρ s with
      | .nx ρ1 s1 => forN turn m (.fix l) ρ1 s1
      | .cont ρ1 s1 => forN turn m (.fix l) ρ1 s1
      | .brk ρ1 s1 => .nx ρ1 s1
      | .ret d s1 => .ret d s1
      | .exc e ρ1 s1 => .exc e ρ1 s1
      | .stuck => .stuck) = _
    rw [e1]
    exact e2
/-- a call that ends with a value -/
theorem run_ret {k f : Nat} {as : List D} {d : Def} {v : D} {s1 : Hs} (h1 : P.defs f = d) (h2 : (decide (as.length = d.np) && decide (d.np ≤ d.nn)) = true) (h3 : evS P (Ev.run P F k) F d.body (start0 d as) s = .ret v s1) : Ev.run P F (k + 1) f as s = .ok v s1 := by
  unfold Ev.run
  subst h1
  dsimp only
  rw [if_pos (by simpa using h2), h3]
theorem run_nx {k f : Nat} {as : List D} {d : Def} {ρ1 : Env} {s1 : Hs} (h1 : P.defs f = d) (h2 : (decide (as.length = d.np) && decide (d.np ≤ d.nn)) = true) (h3 : evS P (Ev.run P F k) F d.body (start0 d as) s = .nx ρ1 s1) : Ev.run P F (k + 1) f as s = .ok .none s1 := by
  unfold Ev.run
  subst h1
  dsimp only
  rw [if_pos (by simpa using h2), h3]
/-! expressions, piece by piece (simp over several calls that change the state makes proofs that are too deep) -/
theorem cmp_run {o : Cop} {a b : C} {ρ : Env} {x y : D} {s1 s2 : Hs} (ha : evE P T a ρ s = .ok x s1) (hb : evE P T b ρ s1 = .ok y s2) : evE P T (.cmp o a b) ρ s = cmpE o x y s2 := by rw [evE, ha, bnd_ok, hb, bnd_ok]
theorem bin_run {o : Bop} {a b : C} {ρ : Env} {x y : D} {s1 s2 : Hs} (ha : evE P T a ρ s = .ok x s1) (hb : evE P T b ρ s1 = .ok y s2) : evE P T (.bin o a b) ρ s = bopE o x y s2 := by rw [evE, ha, bnd_ok, hb, bnd_ok]
theorem or_f {a b : C} {ρ : Env} {s1 : Hs} (ha : evE P T a ρ s = .ok (.bool false) s1) : evE P T (.or a b) ρ s = evE P T b ρ s1 := by rw [evE, ha, bnd_ok]
theorem or_t {a b : C} {ρ : Env} {s1 : Hs} (ha : evE P T a ρ s = .ok (.bool true) s1) : evE P T (.or a b) ρ s = .ok (.bool true) s1 := by rw [evE, ha, bnd_ok]
theorem and_t {a b : C} {ρ : Env} {s1 : Hs} (ha : evE P T a ρ s = .ok (.bool true) s1) : evE P T (.and a b) ρ s = evE P T b ρ s1 := by rw [evE, ha, bnd_ok]
theorem and_f {a b : C} {ρ : Env} {s1 : Hs} (ha : evE P T a ρ s = .ok (.bool false) s1) : evE P T (.and a b) ρ s = .ok (.bool false) s1 := by rw [evE, ha, bnd_ok]
theorem not_run {a : C} {ρ : Env} {s1 : Hs} {x : Bool} (ha : evE P T a ρ s = .ok (.bool x) s1) : evE P T (.not a) ρ s = .ok (.bool (!x)) s1 := by rw [evE, ha, bnd_ok]
theorem tup2_run {a b : C} {ρ : Env} {x y : D} {s1 s2 : Hs} (ha : evE P T a ρ s = .ok x s1) (hb : evE P T b ρ s1 = .ok y s2) : evE P T (.tup (.cons a (.cons b .nil))) ρ s = .ok (.tuple [x, y]) s2 := by
  rw [evE, evA, ha, bnd_ok, evA, hb, bnd_ok, evA, bnd_ok, bnd_ok, bnd_ok]; rfl
theorem tup3_run {a b c : C} {ρ : Env} {x y z : D} {s1 s2 s3 : Hs} (ha : evE P T a ρ s = .ok x s1) (hb : evE P T b ρ s1 = .ok y s2) (hc : evE P T c ρ s2 = .ok z s3) : evE P T (.tup (.cons a (.cons b (.cons c .nil)))) ρ s = .ok (.tuple [x, y, z]) s3 := by
  rw [evE, evA, ha, bnd_ok, evA, hb, bnd_ok, evA, hc, bnd_ok, evA, bnd_ok, bnd_ok, bnd_ok, bnd_ok]; rfl
theorem tup4_run {a b c d : C} {ρ : Env} {x y z w : D} {s1 s2 s3 s4 : Hs} (ha : evE P T a ρ s = .ok x s1) (hb : evE P T b ρ s1 = .ok y s2) (hc : evE P T c ρ s2 = .ok z s3) (hd : evE P T d ρ s3 = .ok w s4) : evE P T (.tup (.cons a (.cons b (.cons c (.cons d .nil))))) ρ s = .ok (.tuple [x, y, z, w]) s4 := by
  rw [evE, evA, ha, bnd_ok, evA, hb, bnd_ok, evA, hc, bnd_ok, evA, hd, bnd_ok, evA, bnd_ok, bnd_ok, bnd_ok, bnd_ok, bnd_ok]; rfl
theorem call_run {f : Nat} {as : C} {ρ : Env} {xs : List D} {s1 : Hs} (ha : evA P T as ρ s = .ok xs s1) : evE P T (.call f as) ρ s = T f xs s1 := by rw [evE, ha, bnd_ok]
theorem bcall_run {b : Bi} {as : C} {ρ : Env} {xs : List D} {s1 : Hs} (ha : evA P T as ρ s = .ok xs s1) : evE P T (.bcall b as) ρ s = biE b xs s1 := by rw [evE, ha, bnd_ok]
theorem a1_run {a : C} {ρ : Env} {x : D} {s1 : Hs} (ha : evE P T a ρ s = .ok x s1) : evA P T (.cons a .nil) ρ s = .ok [x] s1 := by rw [evA, ha, bnd_ok, evA, bnd_ok]
theorem a2_run {a b : C} {ρ : Env} {x y : D} {s1 s2 : Hs} (ha : evE P T a ρ s = .ok x s1) (hb : evE P T b ρ s1 = .ok y s2) : evA P T (.cons a (.cons b .nil)) ρ s = .ok [x, y] s2 := by rw [evA, ha, bnd_ok, a1_run hb, bnd_ok]
theorem a3_run {a b c : C} {ρ : Env} {x y z : D} {s1 s2 s3 : Hs} (ha : evE P T a ρ s = .ok x s1) (hb : evE P T b ρ s1 = .ok y s2) (hc : evE P T c ρ s2 = .ok z s3) : evA P T (.cons a (.cons b (.cons c .nil))) ρ s = .ok [x, y, z] s3 := by rw [evA, ha, bnd_ok, a2_run hb hc, bnd_ok]
theorem ix_run {a b : C} {ρ : Env} {x y : D} {s1 s2 : Hs} (ha : evE P T a ρ s = .ok x s1) (hb : evE P T b ρ s1 = .ok y s2) : evE P T (.ix a b) ρ s = ixA x y s2 := by rw [evE, ha, bnd_ok, hb, bnd_ok]
/-! statements, one behind another -/
theorem seq_nx {a b : C} {ρ ρ1 : Env} {s1 : Hs} (h : evS P T F a ρ s = .nx ρ1 s1) : evS P T F (.seq a b) ρ s = evS P T F b ρ1 s1 := by rw [evS, h]
theorem seq_ret {a b : C} {ρ : Env} {d : D} {s1 : Hs} (h : evS P T F a ρ s = .ret d s1) : evS P T F (.seq a b) ρ s = .ret d s1 := by rw [evS, h]
theorem done_nx {ρ : Env} : evS P T F .done ρ s = .nx ρ s := by rw [evS]
theorem asg_i {i : Nat} {e : C} {ρ : Env} {d : D} {s1 : Hs} (h : evE P T e ρ s = .ok d s1) (hi : Nat.blt i ρ.length = true) : evS P T F (.asg (.tslot i) e) ρ s = .nx (ρ.set i (some d)) s1 := by
  rw [evS, h]
  show (match (match (if i < ρ.length then Res.ok (ρ.set i (some d)) s1 else Res.stuck) with | .ok ρ1 s2 => SR.nx ρ1 s2 | _ => SR.stuck) with | r => r) = _
  rw [if_pos (Nat.blt_eq.mp hi)]
theorem asg_2 {i j : Nat} {e : C} {ρ : Env} {x y : D} {s1 : Hs} (h : evE P T e ρ s = .ok (.tuple [x, y]) s1) (hi : Nat.blt i ρ.length = true) (hj : Nat.blt j ρ.length = true) :
    evS P T F (.asg (.ttup (.cons (.tslot i) (.cons (.tslot j) .nil))) e) ρ s = .nx ((ρ.set i (some x)).set j (some y)) s1 := by
  have hi := Nat.blt_eq.mp hi
  have hj := Nat.blt_eq.mp hj
  rw [evS, h]
  simp only [evT, evTs, List.length_cons, List.length_nil, tlen, Nat.reduceAdd, if_true, hi, hj, bnd_ok, List.length_set]
theorem asg_3 {i j k : Nat} {e : C} {ρ : Env} {x y z : D} {s1 : Hs} (h : evE P T e ρ s = .ok (.tuple [x, y, z]) s1) (hi : Nat.blt i ρ.length = true) (hj : Nat.blt j ρ.length = true) (hk : Nat.blt k ρ.length = true) :
    evS P T F (.asg (.ttup (.cons (.tslot i) (.cons (.tslot j) (.cons (.tslot k) .nil)))) e) ρ s = .nx (((ρ.set i (some x)).set j (some y)).set k (some z)) s1 := by
  have hi := Nat.blt_eq.mp hi
  have hj := Nat.blt_eq.mp hj
  have hk := Nat.blt_eq.mp hk
  rw [evS, h]
  simp only [evT, evTs, List.length_cons, List.length_nil, tlen, Nat.reduceAdd, if_true, hi, hj, hk, bnd_ok, List.length_set]
theorem asg_4 {i j k l : Nat} {e : C} {ρ : Env} {x y z w : D} {s1 : Hs} (h : evE P T e ρ s = .ok (.tuple [x, y, z, w]) s1) (hi : Nat.blt i ρ.length = true) (hj : Nat.blt j ρ.length = true) (hk : Nat.blt k ρ.length = true) (hl : Nat.blt l ρ.length = true) :
    evS P T F (.asg (.ttup (.cons (.tslot i) (.cons (.tslot j) (.cons (.tslot k) (.cons (.tslot l) .nil))))) e) ρ s = .nx ((((ρ.set i (some x)).set j (some y)).set k (some z)).set l (some w)) s1 := by
  have hi := Nat.blt_eq.mp hi
  have hj := Nat.blt_eq.mp hj
  have hk := Nat.blt_eq.mp hk
  have hl := Nat.blt_eq.mp hl
  rw [evS, h]
  simp only [evT, evTs, List.length_cons, List.length_nil, tlen, Nat.reduceAdd, if_true, hi, hj, hk, hl, bnd_ok, List.length_set]
theorem add_l {x y : List D} (h : x.length + y.length ≤ 1000000) : bopE .add (.list x) (.list y) s = .ok (.list (x ++ y)) s := by
  show (if Nat.ble (x.length + y.length) 1000000 = true then Res.ok (PyData.list (x ++ y)) s else .stuck) = _
  rw [if_pos (Nat.ble_eq_true_of_le h)]
theorem ret_e {e : C} {ρ : Env} {d : D} {s1 : Hs} (h : evE P T e ρ s = .ok d s1) : evS P T F (.ret e) ρ s = .ret d s1 := by rw [evS, h]
theorem ifs_t {t a b : C} {ρ : Env} {s1 : Hs} (h : evE P T t ρ s = .ok (.bool true) s1) : evS P T F (.ifs t a b) ρ s = evS P T F a ρ s1 := by rw [evS, h]
theorem ifs_f {t a b : C} {ρ : Env} {s1 : Hs} (h : evE P T t ρ s = .ok (.bool false) s1) : evS P T F (.ifs t a b) ρ s = evS P T F b ρ s1 := by rw [evS, h]
theorem expr_e {e : C} {ρ : Env} {d : D} {s1 : Hs} (h : evE P T e ρ s = .ok d s1) : evS P T F (.expr e) ρ s = .nx ρ s1 := by rw [evS, h]
/-! values without cells: compared as they stand -/
structure Pl (m : Nat) (d : D) : Prop where
  lay : PyData.canLay0 d = true
  dep : d.depth ≤ m
  drf : ∀ k s, drfN k d s = d
  rfl : PyData.eqv d d = true
theorem Pl.int {m : Nat} {i : Int} : Pl m (.int i) := ⟨by simp [PyData.canLay0], by simp [PyData.depth], fun k s => by cases k <;> rfl, by simp [PyData.eqv]⟩
theorem Pl.none {m : Nat} : Pl m .none := ⟨by simp [PyData.canLay0], by simp [PyData.depth], fun k s => by cases k <;> rfl, by simp [PyData.eqv]⟩
theorem Pl.bool {m : Nat} {b : Bool} : Pl m (.bool b) := ⟨by simp [PyData.canLay0], by simp [PyData.depth], fun k s => by cases k <;> rfl, by simp [PyData.eqv]⟩
theorem pl_lay {m : Nat} : ∀ {l : List D}, (∀ x, x ∈ l → Pl m x) → PyData.canLayAll0 l = true
  | [], _ => by simp [PyData.canLayAll0]
  | x :: l, h => by simp [PyData.canLayAll0, (h x List.mem_cons_self).lay, pl_lay fun y hy => h y (List.mem_cons_of_mem _ hy)]
theorem pl_dep {m : Nat} : ∀ {l : List D}, (∀ x, x ∈ l → Pl m x) → PyData.depthAll l ≤ m
  | [], _ => by simp [PyData.depthAll]
  | x :: l, h => by
    have h1 := (h x List.mem_cons_self).dep
    have h2 := pl_dep fun y hy => h y (List.mem_cons_of_mem _ hy)
    simp only [PyData.depthAll]
    omega
theorem pl_drf {m : Nat} {l : List D} (h : ∀ x, x ∈ l → Pl m x) (k : Nat) (s : Hs) : (l.map fun x => drfN k x s) = l :=
  (List.map_congr_left (g := id) fun x hx => (h x hx).drf k s).trans (List.map_id _)
theorem pl_eqv {m : Nat} : ∀ {l : List D}, (∀ x, x ∈ l → Pl m x) → PyData.eqvAll l l = true
  | [], _ => by simp [PyData.eqvAll]
  | x :: l, h => by simp [PyData.eqvAll, (h x List.mem_cons_self).rfl, pl_eqv fun y hy => h y (List.mem_cons_of_mem _ hy)]
theorem Pl.tup {m : Nat} {l : List D} (h : ∀ x, x ∈ l → Pl m x) : Pl (m + 1) (.tuple l) :=
  ⟨by simpa [PyData.canLay0] using pl_lay h, by have := pl_dep h; simp only [PyData.depth]; omega, fun k s => by
    cases k with
    | zero => rfl
    | succ k => show PyData.tuple (l.map fun x => drfN k x s) = _; rw [pl_drf h], by simpa [PyData.eqv] using pl_eqv h⟩
theorem Pl.lst {m : Nat} {l : List D} (h : ∀ x, x ∈ l → Pl m x) : Pl (m + 1) (.list l) :=
  ⟨by simpa [PyData.canLay0] using pl_lay h, by have := pl_dep h; simp only [PyData.depth]; omega, fun k s => by
    cases k with
    | zero => rfl
    | succ k => show PyData.list (l.map fun x => drfN k x s) = _; rw [pl_drf h], by simpa [PyData.eqv] using pl_eqv h⟩
theorem Pl.le {m m' : Nat} {d : D} (h : Pl m d) (e : m ≤ m') : Pl m' d := ⟨h.lay, Nat.le_trans h.dep e, h.drf, h.rfl⟩
theorem Pl.shaped {m : Nat} {d : D} (h : Pl m d) (e : m ≤ 64) : SeqAt.shaped d = true := by
  unfold SeqAt.shaped
  rw [h.lay, decide_eq_true (Nat.le_trans h.dep e)]
  rfl
theorem cmp_eq {m : Nat} {x y : D} (hx : Pl m x) (hy : Pl m y) (e : m ≤ 64) : cmpE .eq x y s = .ok (.bool (PyData.eqv x y)) s := by
  show (if SeqAt.shaped (drfN 4 x s) && SeqAt.shaped (drfN 4 y s) then Res.ok (PyData.bool (PyData.eqv (drfN 4 x s) (drfN 4 y s))) s else .stuck) = _
  rw [hx.drf, hy.drf, hx.shaped e, hy.shaped e]
  rfl
theorem cmp_ne {m : Nat} {x y : D} (hx : Pl m x) (hy : Pl m y) (e : m ≤ 64) : cmpE .ne x y s = .ok (.bool (!PyData.eqv x y)) s := by
  show (if SeqAt.shaped (drfN 4 x s) && SeqAt.shaped (drfN 4 y s) then Res.ok (PyData.bool (!PyData.eqv (drfN 4 x s) (drfN 4 y s))) s else .stuck) = _
  rw [hx.drf, hy.drf, hx.shaped e, hy.shaped e]
  rfl
theorem str_eq {a : Str} (ok : PyData.strOk a = true) : cmpE .eq (.str a) (.str a) s = .ok (.bool true) s := by
  have h1 : PyData.canLay0 (.str a) = true := by simp [PyData.canLay0, ok]
  have h3 : SeqAt.shaped (.str a) = true := by
    unfold SeqAt.shaped
    rw [h1, decide_eq_true (show (PyData.str a).depth ≤ 64 by simp [PyData.depth])]; rfl
  show (if SeqAt.shaped (.str a) && SeqAt.shaped (.str a) then Res.ok (PyData.bool (PyData.eqv (.str a) (.str a))) s else .stuck) = _
  rw [h3, SeqAt.eqv_refl _ h1]
  rfl
/-- what a refused deed is told as -/
theorem told_eq {a : C} {ρ : Env} {s' : Hs} {e : Nat} {x : Str} (h : evE P T a ρ s = .exc e s') (hp : P.told e = some x) (ok : PyData.strOk x = true) : evE P T (.cmp .eq (.told a) (.cst (.str x))) ρ s = .ok (.bool true) s' := by
  have z : evE P T (.told a) ρ s = .ok (.str x) s' := by
    rw [evE, h]
    show (match P.told e with | some nm => Res.ok (PyData.str nm) s' | none => .stuck) = _
    rw [hp]
  rw [evE, z, bnd_ok, evE, bnd_ok, str_eq ok]
theorem same_ne {m : Nat} {x : D} (hx : Pl m x) (e : m ≤ 64) : cmpE .ne x x s = .ok (.bool false) s := by rw [cmp_ne hx hx e, hx.rfl]; rfl
theorem same_eq {m : Nat} {x : D} (hx : Pl m x) (e : m ≤ 64) : cmpE .eq x x s = .ok (.bool true) s := by rw [cmp_eq hx hx e, hx.rfl]
/-- what stood before stands -/
structure Fr (s s' : Hs) : Prop where
  n : s.nx ≤ s'.nx
  k : ∀ m, m < s.nx → s'.h m = s.h m
theorem Fr.refl {s : Hs} : Fr s s := ⟨Nat.le_refl _, fun _ _ => rfl⟩
theorem Fr.trans {s s' s'' : Hs} (h : Fr s s') (h2 : Fr s' s'') : Fr s s'' := ⟨Nat.le_trans h.n h2.n, fun m hm => (h2.k m (Nat.lt_of_lt_of_le hm h.n)).trans (h.k m hm)⟩
theorem Fr.push {s : Hs} {c : Cell} : Fr s (s.push c) := ⟨Nat.le_succ _, fun m hm => push_of (Nat.ne_of_lt hm)⟩
theorem Fr.set {s s' : Hs} {n : Nat} {c : Cell} (h : Fr s s') (hn : s.nx ≤ n) : Fr s (s'.set n c) := ⟨h.n, fun m hm => (set_of (by omega)).trans (h.k m hm)⟩
/-! slices with both ends -/
theorem cut_2 {l : List α} {i j : Nat} (hj : j ≤ l.length) (hi : i ≤ j) : cutD l (some (i : Int)) (some (j : Int)) = (l.drop i).take (j - i) := by
  unfold cutD HT.sIx
  dsimp only
  rw [if_neg (by omega), if_neg (by omega), show min (i : Int).toNat l.length = i by omega, show min (j : Int).toNat l.length = j by omega]
theorem irange_2 {as : C} {i n : Nat} {ρ : Env} {s1 : Hs} (h : evA P T as ρ s = .ok [.int (i : Int), .int (n : Int)] s1) (hi : i < 1000000) (hn : n < 1000000) : evI P T (.irange as) ρ s = .ok (.fix ((List.range (n - i)).map fun (j : Nat) => .int ((i + j : Nat) : Int))) s1 := by
  rw [evI, h, bnd_ok]
  show (if (okI (i : Int) && okI (n : Int)) = true then Res.ok (Cur.fix (rangeL (i : Int) (n : Int))) s1 else .stuck) = _
  rw [okI_n hi, okI_n hn]
  show Res.ok (Cur.fix (rangeL (i : Int) (n : Int))) s1 = _
  unfold rangeL
  rw [show ((n : Int) - (i : Int)).toNat = n - i by omega]
  congr 3
theorem mul_i {i j : Int} (h : -(2 ^ 64) < j ∧ j < 2 ^ 64) : bopE .mul (.int i) (.int j) s = .ok (.int (i * j)) s := by
  show (if (decide (-(2 ^ 64) < j) && decide (j < 2 ^ 64) || decide (-(2 ^ 64) < i) && decide (i < 2 ^ 64)) = true then Res.ok (PyData.int (i * j)) s else .stuck) = _
  rw [decide_eq_true h.1, decide_eq_true h.2]
  rfl
theorem Pl.ints {l : List Int} : ∀ x, x ∈ iL l → Pl 0 x := fun x hx => by
  obtain ⟨i, _, rfl⟩ := List.mem_map.mp hx
  exact .int
theorem eqv_il {a b : List Int} : PyData.eqv (.list (iL a)) (.list (iL b)) = decide (a = b) := by
  rw [show PyData.eqv (.list (iL a)) (.list (iL b)) = PyData.eqvAll (iL a) (iL b) by simp [PyData.eqv], eqv_iL]
theorem eqv_it {a b : List Int} : PyData.eqv (.tuple (iL a)) (.tuple (iL b)) = decide (a = b) := by
  rw [show PyData.eqv (.tuple (iL a)) (.tuple (iL b)) = PyData.eqvAll (iL a) (iL b) by simp [PyData.eqv], eqv_iL]
/-! a list's building whose items change the state -/
theorem comp_rel {item : D → Hs → Res (Option D)} (R : Nat → Hs → List D → Prop) : ∀ (l : List D) (m i : Nat) (acc : List D) (s : Hs), l.length < m → acc.length + l.length < 1000000 → R i s acc →
    (∀ (j : Nat) (x : D) (s : Hs) (acc : List D), l[j]? = some x → R (i + j) s acc → ∃ d s', item x s = .ok (some d) s' ∧ R (i + j + 1) s' (acc ++ [d])) →
    ∃ acc' s', compN item m (.fix l) acc s = .ok acc' s' ∧ R (i + l.length) s' acc'
  | [], 0, i, acc, s, h, _, _, _ => absurd h (by simp)
  | [], m + 1, i, acc, s, _, _, h, _ => ⟨acc, s, rfl, h⟩
  | x :: l, 0, i, acc, s, h, _, _, _ => absurd h (by simp)
  | x :: l, m + 1, i, acc, s, hm, ha, h, ht => by
    simp only [List.length_cons] at hm ha
    obtain ⟨d, s1, e1, h1⟩ := ht 0 x s acc rfl h
    obtain ⟨acc2, s2, e2, h2⟩ := comp_rel R l m (i + 1) (acc ++ [d]) s1 (by omega) (by rw [List.length_append, List.length_singleton]; omega) h1 (fun j y s acc hj hr => by
      obtain ⟨d', s', e', h'⟩ := ht (j + 1) y s acc hj (by rw [show i + (j + 1) = i + 1 + j by omega]; exact hr)
      exact ⟨d', s', e', by rw [show i + 1 + j + 1 = i + (j + 1) + 1 by omega]; exact h'⟩)
    refine ⟨acc2, s2, ?_, by rw [List.length_cons, show i + (l.length + 1) = i + 1 + l.length by omega]; exact h2⟩
    unfold compN
    simp only [Cur.next, e1, bnd_ok]
    rw [show small acc.length = true from Nat.blt_eq.mpr (by omega), if_pos rfl, e2]
theorem irange_n {as : C} {n : Nat} {ρ : Env} {s1 : Hs} (h : evA P T as ρ s = .ok [.int (n : Int)] s1) (hn : n < 1000000) : evI P T (.irange as) ρ s = .ok (.fix ((List.range n).map fun (j : Nat) => .int (j : Int))) s1 := by
  rw [evI, h, bnd_ok]
  show (if okI (n : Int) = true then Res.ok (Cur.fix (rangeL 0 (n : Int))) s1 else .stuck) = _
  rw [if_pos (okI_n hn), range_n]
end
end Ev

set_option Elab.async false
set_option linter.all false
set_option maxRecDepth 100000
set_option maxHeartbeats 4000000
namespace Ev
open PySem PySem.Spec PyProof.Rows L2
/-! ### draws: the part of Ev20 and Ev23 that laws proved by the math road want -/
/-- a draw: what it gives, what it leaves -/
def rollR (x y z m : Int) : Int × Int × Int × Int :=
  if ((z == 2) || ((z == 1) && decide (0 < x))) = true then (x % m, x / m, y, z)
  else ((((x * 48271 + y * 69621 + 11) % 2147483647) / 7 + (x * 48271 + y * 69621 + 11) % 2147483647) % m, (x * 48271 + y * 69621 + 11) % 2147483647, y + 1, 0)
def rollC : C := (.seq (.ifs (.or (.cmp .eq (.ix (.slot 0) (.cst (.int 2))) (.cst (.int 2))) (.and (.cmp .eq (.ix (.slot 0) (.cst (.int 2))) (.cst (.int 1))) (.cmp .gt (.ix (.slot 0) (.cst (.int 0))) (.cst (.int 0))))) (.seq (.asg (.tslot 2) (.bin .mod (.bcall .int (.cons (.ix (.slot 0) (.cst (.int 0))) .nil)) (.slot 1))) (.seq (.asg (.tsub (.slot 0) (.cst (.int 0))) (.bin .fdiv (.ix (.slot 0) (.cst (.int 0))) (.slot 1))) (.seq (.ret (.slot 2)) .done))) .done) (.seq (.asg (.tsub (.slot 0) (.cst (.int 2))) (.cst (.int 0))) (.seq (.asg (.tsub (.slot 0) (.cst (.int 0))) (.bin .mod (.bcall .int (.cons (.bin .add (.bin .add (.bin .mul (.ix (.slot 0) (.cst (.int 0))) (.cst (.int 48271))) (.bin .mul (.ix (.slot 0) (.cst (.int 1))) (.cst (.int 69621)))) (.cst (.int 11))) .nil)) (.cst (.int 2147483647)))) (.seq (.asg (.tsub (.slot 0) (.cst (.int 1))) (.bin .add (.ix (.slot 0) (.cst (.int 1))) (.cst (.int 1)))) (.seq (.ret (.bin .mod (.bcall .int (.cons (.bin .add (.bin .fdiv (.ix (.slot 0) (.cst (.int 0))) (.cst (.int 7))) (.ix (.slot 0) (.cst (.int 0)))) .nil)) (.slot 1))) .done)))))
def diceC : C := (.seq (.ifs (.cmp2 .lt .lt (.bin .sub (.cst (.int 0)) (.cst (.int 10))) (.slot 0) (.cst (.int 10))) (.seq (.ret (.newC (.lst (.cons (.bcall .abs (.cons (.slot 0) .nil)) (.cons (.cst (.int 0)) (.cons (.cst (.int 2)) .nil)))))) .done) .done) (.seq (.ret (.newC (.lst (.cons (.slot 0) (.cons (.bin .add (.cst (.int 1)) (.bin .mod (.bcall .int (.cons (.slot 0) .nil)) (.cst (.int 1009)))) (.cons (.bcall .int (.cons (.cmp .ge (.slot 0) (.bin .pow (.cst (.int 10)) (.cst (.int 18)))) .nil)) .nil)))))) .done))
def roundsC (fd : Nat) : C := (.seq (.asg (.tslot 2) (.slice (.slot 0) .nil (.cons (.slot 1) .nil))) (.seq (.ifs (.cmp .eq (.slot 2) (.newT (.lst .nil))) (.seq (.asg (.tslot 2) (.newT (.lst (.cons (.cst (.int 0)) .nil)))) .done) .done) (.seq (.ret (.newT (.comp [3] (.tslot 3) (.ival (.slot 2)) (.cst (.bool true)) (.call fd (.cons (.slot 3) .nil))))) .done)))

theorem bint_v {i : Int} {s : Hs} : biE .int [.int i] s = .ok (.int i) s := rfl
theorem rb {α β : Type} {a : α} {s : Hs} {f : α → Hs → Res β} : (Res.ok a s).bind f = f a s := rfl
section
variable {P : Prog} {F : Nat} {T : Nat → List D → Hs → Res D}
/-- a heap with the draws' cell -/
def dh (nx : Nat) (h : Nat → Cell) (x y z : Int) : Hs := ⟨nx, fun m => if m = 0 then .lst [.int x, .int y, .int z] else h m⟩
theorem dh_of {c : Hs} {x y z : Int} (e : c.h 0 = .lst [.int x, .int y, .int z]) : c = dh c.nx c.h x y z := by
  cases c with
  | mk nx h =>
    unfold dh
    congr 1
    funext m
    by_cases hm : m = 0
    · subst hm; rw [if_pos rfl]; exact e
    · rw [if_neg hm]
section
variable {nx : Nat} {h : Nat → Cell} {x y z m : Int} {ρ : Env}
theorem dix0 (e : look ρ 0 = some (cel 0)) : evE P T (.ix (.slot 0) (.cst (.int 0))) ρ (dh nx h x y z) = .ok (.int x) (dh nx h x y z) := by
  simp only [evE, e]; rfl
theorem dix1 (e : look ρ 0 = some (cel 0)) : evE P T (.ix (.slot 0) (.cst (.int 1))) ρ (dh nx h x y z) = .ok (.int y) (dh nx h x y z) := by
  simp only [evE, e]; rfl
theorem dix2 (e : look ρ 0 = some (cel 0)) : evE P T (.ix (.slot 0) (.cst (.int 2))) ρ (dh nx h x y z) = .ok (.int z) (dh nx h x y z) := by
  simp only [evE, e]; rfl
theorem dset_eq {c : Hs} {o : List D} (e : o = [.int x, .int y, .int z]) (hc : ∀ k, k ≠ 0 → c.h k = h k) (hn : c.nx = nx) : c.set 0 (.lst o) = dh nx h x y z := by
  subst e hn
  unfold Hs.set dh
  congr 1
  funext k
  by_cases hk : k = 0
  · rw [if_pos hk, if_pos hk]
  · rw [if_neg hk, if_neg hk, hc k hk]
theorem dh_ne {k : Nat} (hk : k ≠ 0) : (dh nx h x y z).h k = h k := if_neg hk
theorem dtsub (e : look ρ 0 = some (cel 0)) {j v : Int} {l : List D} (hl : setA (cel 0) (.int j) (.int v) (dh nx h x y z) = some ((dh nx h x y z).set 0 (.lst l))) {x' y' z' : Int} (he : l = [.int x', .int y', .int z']) :
    evT P T (.tsub (.slot 0) (.cst (.int j))) (.int v) ρ (dh nx h x y z) = .ok ρ (dh nx h x' y' z') := by
  simp only [evT, evE, e, Res.bind, hl]
  rw [dset_eq he (fun k hk => dh_ne hk) rfl]
  rfl
theorem dset0 {v : Int} : setA (cel 0) (.int 0) (.int v) (dh nx h x y z) = some ((dh nx h x y z).set 0 (.lst [.int v, .int y, .int z])) := rfl
theorem dset1 {v : Int} : setA (cel 0) (.int 1) (.int v) (dh nx h x y z) = some ((dh nx h x y z).set 0 (.lst [.int x, .int v, .int z])) := rfl
theorem dset2 {v : Int} : setA (cel 0) (.int 2) (.int v) (dh nx h x y z) = some ((dh nx h x y z).set 0 (.lst [.int x, .int y, .int v])) := rfl
theorem look0 {a b : Option D} {r : Env} : look (a :: r) 0 = a := by unfold look; rfl
def rollT : C := (.or (.cmp .eq (.ix (.slot 0) (.cst (.int 2))) (.cst (.int 2))) (.and (.cmp .eq (.ix (.slot 0) (.cst (.int 2))) (.cst (.int 1))) (.cmp .gt (.ix (.slot 0) (.cst (.int 0))) (.cst (.int 0)))))
theorem roll_test (e : look ρ 0 = some (cel 0)) : evE P T rollT ρ (dh nx h x y z) = .ok (.bool ((z == 2) || ((z == 1) && decide (0 < x)))) (dh nx h x y z) := by
  have a1 : ∀ k : Int, evE P T (.cmp .eq (.ix (.slot 0) (.cst (.int 2))) (.cst (.int k))) ρ (dh nx h x y z) = .ok (.bool (z == k)) (dh nx h x y z) := fun k => by
    rw [evE, dix2 e, rb, evE, rb]; rfl
  have a2 : evE P T (.cmp .gt (.ix (.slot 0) (.cst (.int 0))) (.cst (.int 0))) ρ (dh nx h x y z) = .ok (.bool (decide (0 < x))) (dh nx h x y z) := by
    rw [evE, dix0 e, rb, evE, rb]; rfl
  unfold rollT
  rw [evE, a1 2, rb]
  cases q : (z == 2) with
  | true => rfl
  | false =>
    dsimp only
    rw [evE, a1 1, rb]
    cases q1 : (z == 1) with
    | true =>
      dsimp only
      rw [a2]; rfl
    | false => rfl
theorem fdiv_ok {i j : Int} {s : Hs} (h1 : 0 < j) (h2 : j < 1073741824) : bopE .fdiv (.int i) (.int j) s = .ok (.int (i / j)) s := by
  show (if (decide (0 < j) && decide (j < 1073741824)) = true then Res.ok (PyData.int (i / j)) s else Res.stuck) = _
  rw [if_pos]
  rw [decide_eq_true h1, decide_eq_true h2]; rfl
theorem mod_ok {i j : Int} {s : Hs} (h1 : 0 < j) : bopE .mod (.int i) (.int j) s = .ok (.int (i % j)) s := by
  show (if decide (0 < j) = true then Res.ok (PyData.int (i % j)) s else Res.stuck) = _
  rw [if_pos (decide_eq_true h1)]
theorem mul_ok {i j : Int} {s : Hs} (h1 : (decide (-(2 ^ 64) < j) && decide (j < 2 ^ 64)) = true) : bopE .mul (.int i) (.int j) s = .ok (.int (i * j)) s := by
  show (if (decide (-(2 ^ 64) < j) && decide (j < 2 ^ 64) || decide (-(2 ^ 64) < i) && decide (i < 2 ^ 64)) = true then Res.ok (PyData.int (i * j)) s else Res.stuck) = _
  rw [if_pos]
  rw [h1]; rfl
theorem roll_run {f : Nat} (hr : P.defs f = ⟨2, 3, rollC⟩) (n : Nat) (hm : 0 < m) (hm2 : m ≤ 1000000) :
    0 ≤ (rollR x y z m).1 ∧ (rollR x y z m).1 < m ∧ run P F (n + 1) f [cel 0, .int m] (dh nx h x y z) = .ok (.int (rollR x y z m).1) (dh nx h (rollR x y z m).2.1 (rollR x y z m).2.2.1 (rollR x y z m).2.2.2) := by
  unfold run
  rw [hr]
  dsimp only
  rw [if_pos ⟨rfl, by decide⟩]
  generalize run P F n = T
  have e0 : ∀ o : Option D, look [some (cel 0), some (PyData.int m), o] 0 = some (cel 0) := fun _ => rfl
  have e1 : ∀ o : Option D, look [some (cel 0), some (PyData.int m), o] 1 = some (.int m) := fun _ => rfl
  have s1 : ∀ (o : Option D) (s : Hs), evE P T (.slot 1) [some (cel 0), some (PyData.int m), o] s = .ok (.int m) s := fun o s => by rw [evE]; rfl
  have st : start0 (⟨2, 3, rollC⟩ : Def) [cel 0, .int m] = [some (cel 0), some (.int m), none] := rfl
  rw [st]
  unfold rollC
  rw [evS, evS]
  have tt := roll_test (P := P) (T := T) (nx := nx) (h := h) (x := x) (y := y) (z := z) (e0 none)
  unfold rollT at tt
  rw [tt]
  have r0 : ∀ i : Int, 0 ≤ i % m ∧ i % m < m := fun i => ⟨Int.emod_nonneg _ (by omega), Int.emod_lt_of_pos _ hm⟩
  cases q : ((z == 2) || ((z == 1) && decide (0 < x))) with
  | true =>
    have hR : rollR x y z m = (x % m, x / m, y, z) := by unfold rollR; rw [if_pos q]
    rw [hR]
    refine ⟨(r0 x).1, (r0 x).2, ?_⟩
    have b1 : evE P T (.bin .mod (.bcall .int (.cons (.ix (.slot 0) (.cst (.int 0))) .nil)) (.slot 1)) [some (cel 0), some (PyData.int m), none] (dh nx h x y z) = .ok (.int (x % m)) (dh nx h x y z) := by
      rw [evE, evE, evA, dix0 (e0 none), rb, evA, rb, rb, bint_v, rb, s1, rb]
      exact mod_ok hm
    have b2 : evE P T (.bin .fdiv (.ix (.slot 0) (.cst (.int 0))) (.slot 1)) [some (cel 0), some (PyData.int m), some (.int (x % m))] (dh nx h x y z) = .ok (.int (x / m)) (dh nx h x y z) := by
      rw [evE, dix0 (e0 _), rb, s1, rb]
      exact fdiv_ok hm (by omega)
    dsimp only
    rw [evS, evS, b1]
    dsimp only
    rw [evT, if_pos (show 2 < ([some (cel 0), some (PyData.int m), none] : Env).length from Nat.lt.base 2)]
    dsimp only
    rw [show ([some (cel 0), some (PyData.int m), none] : Env).set 2 (some (.int (x % m))) = [some (cel 0), some (PyData.int m), some (.int (x % m))] from rfl]
    rw [evS, evS, b2]
    dsimp only
    rw [dtsub (e0 _) dset0 rfl]
    dsimp only
    rw [evS, evS, evE]
    rfl
  | false =>
    have c1 : evS P T F (.asg (.tsub (.slot 0) (.cst (.int 2))) (.cst (.int 0))) [some (cel 0), some (PyData.int m), none] (dh nx h x y z) = .nx [some (cel 0), some (PyData.int m), none] (dh nx h x y 0) := by
      rw [evS, evE]
      dsimp only
      rw [dtsub (e0 none) dset2 rfl]
    have c2 : ∀ z : Int, evE P T (.bin .mod (.bcall .int (.cons (.bin .add (.bin .add (.bin .mul (.ix (.slot 0) (.cst (.int 0))) (.cst (.int 48271))) (.bin .mul (.ix (.slot 0) (.cst (.int 1))) (.cst (.int 69621)))) (.cst (.int 11))) .nil)) (.cst (.int 2147483647))) [some (cel 0), some (PyData.int m), none] (dh nx h x y z) = .ok (.int ((x * 48271 + y * 69621 + 11) % 2147483647)) (dh nx h x y z) := fun z => by
      have d1 : evE P T (.bin .mul (.ix (.slot 0) (.cst (.int 0))) (.cst (.int 48271))) [some (cel 0), some (PyData.int m), none] (dh nx h x y z) = .ok (.int (x * 48271)) (dh nx h x y z) := by
        rw [evE, dix0 (e0 none), rb, evE, rb]
        exact mul_ok (by decide)
      have d2 : evE P T (.bin .mul (.ix (.slot 0) (.cst (.int 1))) (.cst (.int 69621))) [some (cel 0), some (PyData.int m), none] (dh nx h x y z) = .ok (.int (y * 69621)) (dh nx h x y z) := by
        rw [evE, dix1 (e0 none), rb, evE, rb]
        exact mul_ok (by decide)
      have d3 : evE P T (.bin .add (.bin .add (.bin .mul (.ix (.slot 0) (.cst (.int 0))) (.cst (.int 48271))) (.bin .mul (.ix (.slot 0) (.cst (.int 1))) (.cst (.int 69621)))) (.cst (.int 11))) [some (cel 0), some (PyData.int m), none] (dh nx h x y z) = .ok (.int (x * 48271 + y * 69621 + 11)) (dh nx h x y z) := by
        rw [evE, evE, d1, rb, d2, rb]
        rw [show ∀ (i j : Int) (s : Hs), bopE .add (.int i) (.int j) s = .ok (.int (i + j)) s from fun _ _ _ => rfl, rb, evE, rb]; rfl
      rw [evE, evE, evA, d3, rb, evA, rb, rb, bint_v, rb, evE, rb]
      exact mod_ok (by decide)
    have c3 : ∀ x z : Int, evE P T (.bin .add (.ix (.slot 0) (.cst (.int 1))) (.cst (.int 1))) [some (cel 0), some (PyData.int m), none] (dh nx h x y z) = .ok (.int (y + 1)) (dh nx h x y z) := fun x z => by
      rw [evE, dix1 (e0 none), rb, evE, rb]; rfl
    have c4 : ∀ x y z : Int, evE P T (.bin .mod (.bcall .int (.cons (.bin .add (.bin .fdiv (.ix (.slot 0) (.cst (.int 0))) (.cst (.int 7))) (.ix (.slot 0) (.cst (.int 0)))) .nil)) (.slot 1)) [some (cel 0), some (PyData.int m), none] (dh nx h x y z) = .ok (.int ((x / 7 + x) % m)) (dh nx h x y z) := fun x y z => by
      have d1 : evE P T (.bin .fdiv (.ix (.slot 0) (.cst (.int 0))) (.cst (.int 7))) [some (cel 0), some (PyData.int m), none] (dh nx h x y z) = .ok (.int (x / 7)) (dh nx h x y z) := by
        rw [evE, dix0 (e0 none), rb, evE, rb]
        exact fdiv_ok (by decide) (by decide)
      have d2 : evE P T (.bin .add (.bin .fdiv (.ix (.slot 0) (.cst (.int 0))) (.cst (.int 7))) (.ix (.slot 0) (.cst (.int 0)))) [some (cel 0), some (PyData.int m), none] (dh nx h x y z) = .ok (.int (x / 7 + x)) (dh nx h x y z) := by
        rw [evE, d1, rb, dix0 (e0 none), rb]; rfl
      rw [evE, evE, evA, d2, rb, evA, rb, rb, bint_v, rb, s1, rb]
      exact mod_ok hm
    have hR : rollR x y z m = ((((x * 48271 + y * 69621 + 11) % 2147483647) / 7 + (x * 48271 + y * 69621 + 11) % 2147483647) % m, (x * 48271 + y * 69621 + 11) % 2147483647, y + 1, 0) := by unfold rollR; rw [if_neg (by rw [q]; exact Bool.false_ne_true)]
    rw [hR]
    refine ⟨(r0 _).1, (r0 _).2, ?_⟩
    dsimp only
    rw [show evS P T F .done [some (cel 0), some (PyData.int m), none] (dh nx h x y z) = .nx [some (cel 0), some (PyData.int m), none] (dh nx h x y z) by rw [evS]]
    dsimp only
    rw [evS, c1]
    dsimp only
    rw [evS, evS, c2]
    dsimp only
    rw [dtsub (e0 none) dset0 rfl]
    dsimp only
    rw [evS, evS, c3]
    dsimp only
    rw [dtsub (e0 none) dset1 rfl]
    dsimp only
    rw [evS, evS, c4]
end
theorem dice_run {f : Nat} (hd : P.defs f = ⟨1, 1, diceC⟩) (n : Nat) (x : Int) (s : Hs) : ∃ a b c : Int, run P F (n + 1) f [.int x] s = .ok (cel s.nx) (s.push (.lst [.int a, .int b, .int c])) := by
  unfold run
  rw [hd]
  dsimp only
  rw [if_pos ⟨rfl, by decide⟩]
  generalize run P F n = T
  rw [show start0 (⟨1, 1, diceC⟩ : Def) [.int x] = [some (.int x)] from rfl]
  have s0 : ∀ s : Hs, evE P T (.slot 0) [some (.int x)] s = .ok (.int x) s := fun s => by rw [evE]; rfl
  have t : evE P T (.cmp2 .lt .lt (.bin .sub (.cst (.int 0)) (.cst (.int 10))) (.slot 0) (.cst (.int 10))) [some (.int x)] s = .ok (.bool (decide (-10 < x) && decide (x < 10))) s := by
    rw [evE, evE, evE, rb, evE, rb, show bopE .sub (.int 0) (.int 10) s = .ok (.int (-10)) s from rfl, rb, s0, rb, show cmpE .lt (.int (-10)) (.int x) s = .ok (.bool (decide (-10 < x))) s from rfl, rb]
    cases q : decide (-10 < x) with
    | true =>
      dsimp only
      rw [evE, rb]
      rfl
    | false => rfl
  unfold diceC
  rw [evS, evS, t]
  cases q : (decide (-10 < x) && decide (x < 10)) with
  | true =>
    dsimp only
    rw [evS, evS, evE, evN, evA, evE, evA, s0, rb, evA, rb, rb, show biE .abs [.int x] s = .ok (.int (if x < 0 then -x else x)) s from rfl, rb, evA, evE, rb, evA, evE, rb, evA, rb, rb, rb, rb]
    exact ⟨_, _, _, rfl⟩
  | false =>
    dsimp only
    rw [show evS P T F .done [some (PyData.int x)] s = .nx [some (.int x)] s by rw [evS]]
    dsimp only
    have b1 : evE P T (.bin .add (.cst (.int 1)) (.bin .mod (.bcall .int (.cons (.slot 0) .nil)) (.cst (.int 1009)))) [some (.int x)] s = .ok (.int (1 + x % 1009)) s := by
      rw [evE, evE, rb, evE, evE, evA, s0, rb, evA, rb, rb, bint_v, rb, evE, rb, mod_ok (by decide), rb]; rfl
    have b2 : evE P T (.bcall .int (.cons (.cmp .ge (.slot 0) (.bin .pow (.cst (.int 10)) (.cst (.int 18)))) .nil)) [some (.int x)] s = .ok (.int (if decide (10 ^ 18 ≤ x) then 1 else 0)) s := by
      rw [evE, evA, evE, s0, rb, evE, evE, rb, evE, rb, show bopE .pow (.int 10) (.int 18) s = .ok (.int (10 ^ 18)) s from rfl, rb, show cmpE .ge (.int x) (.int (10 ^ 18)) s = .ok (.bool (decide (10 ^ 18 ≤ x))) s from rfl, rb, evA, rb, rb]; rfl
    rw [evS, evS, evE, evN, evA, s0, rb, evA, b1, rb, evA, b2, rb, evA, rb, rb, rb, rb]
    exact ⟨_, _, _, rfl⟩
theorem comp_one {item : D → Hs → Res (Option D)} {x : D} {f : Nat} {s : Hs} : compN item (f + 2) (.fix [x]) [] s = (item x s).bind fun y s1 => match y with | some d => .ok [d] s1 | none => .ok [] s1 := by
  unfold compN
  dsimp only [Cur.next]
  congr 1
theorem rounds_run {fr fd : Nat} (ho : P.defs fr = ⟨2, 4, roundsC fd⟩) (hd : P.defs fd = ⟨1, 1, diceC⟩) (n : Nat) (ns : List Int) : ∃ a b c : Int, run P F (n + 2) fr [scriptD ns, .int 1] s0 = .ok (.list [cel 0]) (dh 1 s0.h a b c) := by
  unfold run
  rw [ho]
  dsimp only
  rw [if_pos ⟨rfl, by decide⟩]
  rw [show start0 (⟨2, 4, roundsC fd⟩ : Def) [scriptD ns, .int 1] = [some (scriptD ns), some (.int 1), none, none] from rfl]
  have Dx := fun x => dice_run (P := P) (F := F) hd n x s0
  generalize run P F (n + 1) = T at Dx
  have cut : ∃ x : Int, ∃ l : List D, cutD (ns.map PyData.int) none (some 1) = l ∧ (l = [] ∨ l = [.int x]) := by
    cases ns with
    | nil => exact ⟨0, _, rfl, .inl rfl⟩
    | cons x r =>
      refine ⟨x, _, rfl, .inr ?_⟩
      unfold cutD
      have h1 : HT.sIx ((x :: r).map PyData.int).length 0 none = 0 := rfl
      have h2 : HT.sIx ((x :: r).map PyData.int).length ((x :: r).map PyData.int).length (some 1) = 1 := by
        rw [List.map_cons, List.length_cons]
        simp [HT.sIx]
      rw [h1, h2]
      rfl
  obtain ⟨x, l, hl, hx⟩ := cut
  have e1 : evE P T (.slice (.slot 0) .nil (.cons (.slot 1) .nil)) [some (scriptD ns), some (.int 1), none, none] s0 = .ok (.list l) s0 := by
    rw [evE, evE]
    show (Res.ok (scriptD ns) s0).bind _ = _
    rw [rb, evA, rb]
    dsimp only [optI]
    rw [evA, evE]
    show ((Res.ok (PyData.int 1) s0).bind _).bind _ = _
    rw [rb, evA, rb, rb]
    dsimp only [optI]
    show Res.ok (PyData.list (cutD (ns.map PyData.int) none (some 1))) s0 = _
    rw [hl]
  have go : ∀ (x : Int) (r : Env), r = [some (scriptD ns), some (.int 1), some (.list [.int x]), none] → ∃ a b c : Int, evE P T (.newT (.comp [3] (.tslot 3) (.ival (.slot 2)) (.cst (.bool true)) (.call fd (.cons (.slot 3) .nil)))) r s0 = .ok (.list [cel 0]) (dh 1 s0.h a b c) := by
    intro x r hr
    subst hr
    obtain ⟨a, b, c, hD⟩ := Dx x
    refine ⟨a, b, c, ?_⟩
    have hn : T fd [.int x] s0 = .ok (cel 0) (dh 1 s0.h a b c) := hD
    rw [evE, evN, evI, evE]
    show (Res.bind (Res.ok (Cur.fix [.int x]) s0) _).bind _ = _
    rw [rb]
    rw [show turnsN = 999998 + 2 from rfl, comp_one]
    rw [evG, if_pos (show 3 < (wipeD [some (scriptD ns), some (PyData.int 1), some (PyData.list [PyData.int x]), none] [3]).length from Nat.lt.base 3)]
    dsimp only
    rw [evE, rb]
    dsimp only
    rw [evE, evA, evE]
    show (((((Res.ok (PyData.int x) s0).bind _).bind _).bind _).nox.bind _).bind _ = _
    rw [rb, evA, rb, rb, hn, rb]
    rfl
  unfold roundsC
  rw [evS, evS, e1]
  dsimp only
  rw [evT, if_pos (show 2 < ([some (scriptD ns), some (PyData.int 1), none, none] : Env).length from (show 2 < 4 by decide))]
  dsimp only
  rw [show ([some (scriptD ns), some (PyData.int 1), none, none] : Env).set 2 (some (.list l)) = [some (scriptD ns), some (.int 1), some (.list l), none] from rfl]
  rcases hx with rfl | rfl
  · have t : evE P T (.cmp .eq (.slot 2) (.newT (.lst .nil))) [some (scriptD ns), some (.int 1), some (.list []), none] s0 = .ok (.bool true) s0 := by
      rw [evE, evE]
      show (Res.ok (PyData.list []) s0).bind _ = _
      rw [rb, evE, evN, evA, rb]; rfl
    have a : evE P T (.newT (.lst (.cons (.cst (.int 0)) .nil))) [some (scriptD ns), some (.int 1), some (.list []), none] s0 = .ok (.list [.int 0]) s0 := by
      rw [evE, evN, evA, evE, rb, evA, rb, rb]; rfl
    rw [evS, evS, t]
    dsimp only
    rw [evS, evS, a]
    dsimp only
    rw [evT, if_pos (show 2 < ([some (scriptD ns), some (PyData.int 1), some (.list []), none] : Env).length from (show 2 < 4 by decide))]
    dsimp only
    rw [show ([some (scriptD ns), some (PyData.int 1), some (.list []), none] : Env).set 2 (some (.list [.int 0])) = [some (scriptD ns), some (.int 1), some (.list [.int 0]), none] from rfl]
    obtain ⟨a, b, c, g⟩ := go 0 _ rfl
    refine ⟨a, b, c, ?_⟩
    rw [evS]
    dsimp only
    rw [evS, evS, g]
  · have t : evE P T (.cmp .eq (.slot 2) (.newT (.lst .nil))) [some (scriptD ns), some (.int 1), some (.list [.int x]), none] s0 = .ok (.bool false) s0 := by
      rw [evE, evE]
      show (Res.ok (PyData.list [.int x]) s0).bind _ = _
      rw [rb, evE, evN, evA, rb]; rfl
    rw [evS, evS, t]
    dsimp only
    obtain ⟨a, b, c, g⟩ := go x _ rfl
    refine ⟨a, b, c, ?_⟩
    rw [evS]
    dsimp only
    rw [evS, evS, g]
end
end Ev

set_option maxRecDepth 100000
namespace M33
open Ev PySem
-- 0 refilled ['marks', 'burst', 'rate']
def c0 : C := (.seq (.ret (.bin .add (.bcall .min (.cons (.slot 0) (.cons (.slot 1) .nil))) (.slot 2))) .done)
-- 1 most_over ['arrivals', 'rate', 'found', 'over', 'count']
def c1_b0 : C := (.seq (.asg (.tslot 3) (.bin .sub (.bin .add (.bcall .max (.cons (.slot 3) (.cons (.cst (.int 0)) .nil))) (.slot 4)) (.slot 1))) (.seq (.expr (.bmeth .append (.slot 2) (.cons (.slot 3) .nil))) .done))
def c1 : C := (.seq (.asg (.tslot 2) (.newC (.lst .nil))) (.seq (.asg (.tslot 3) (.cst (.int 0))) (.seq (.fors (.tslot 4) (.ival (.slot 0)) c1_b0) (.seq (.ret (.slot 2)) .done))))
-- 2 keeps ['arrivals', 'burst', 'rate', 'over']
def c2_m0 : C := (.comp [3] (.tslot 3) (.ival (.call 1 (.cons (.slot 0) (.cons (.slot 2) .nil)))) (.cst (.bool true)) (.cmp .le (.slot 3) (.slot 1)))
def c2 : C := (.seq (.ret (.bcall .all (.cons (.newT c2_m0) .nil))) .done)
-- 3 least_burst ['arrivals', 'rate']
def c3 : C := (.seq (.ret (.bcall .max (.cons (.bin .add (.newT (.lst (.cons (.cst (.int 0)) .nil))) (.call 1 (.cons (.slot 0) (.cons (.slot 1) .nil)))) .nil))) .done)
-- 4 shaped ['arrivals', 'burst', 'rate', 'marks', 'waiting', 'out', 'waits', 'count', 'sent']
def c4_b0 : C := (.seq (.asg (.tslot 3) (.call 0 (.cons (.slot 3) (.cons (.slot 1) (.cons (.slot 2) .nil))))) (.seq (.asg (.tslot 4) (.bin .add (.slot 4) (.slot 7))) (.seq (.asg (.tslot 8) (.bcall .max (.cons (.bcall .min (.cons (.slot 4) (.cons (.slot 3) .nil))) (.cons (.cst (.int 0)) .nil)))) (.seq (.asg (.tslot 3) (.bin .sub (.slot 3) (.slot 8))) (.seq (.asg (.tslot 4) (.bin .sub (.slot 4) (.slot 8))) (.seq (.expr (.bmeth .append (.slot 5) (.cons (.slot 8) .nil))) (.seq (.expr (.bmeth .append (.slot 6) (.cons (.slot 4) .nil))) .done)))))))
def c4 : C := (.seq (.asg (.tslot 3) (.slot 1)) (.seq (.asg (.tslot 4) (.cst (.int 0))) (.seq (.asg (.tslot 5) (.newC (.lst .nil))) (.seq (.asg (.tslot 6) (.newC (.lst .nil))) (.seq (.fors (.tslot 7) (.ival (.slot 0)) c4_b0) (.seq (.ret (.tup (.cons (.bcall .tuple (.cons (.slot 5) .nil)) (.cons (.bcall .tuple (.cons (.slot 6) .nil)) .nil)))) .done))))))
-- 5 brought ['row', 'slot']
def c5 : C := (.seq (.ret (.ife (.cmp .lt (.slot 1) (.bcall .len (.cons (.slot 0) .nil))) (.ix (.slot 0) (.slot 1)) (.cst (.int 0)))) .done)
-- 6 bucket_curve ['burst', 'rate', 'slots', 'size']
def c6_m0 : C := (.comp [3] (.tslot 3) (.irange (.cons (.cst (.int 1)) (.cons (.bin .add (.slot 2) (.cst (.int 1))) .nil))) (.cst (.bool true)) (.bin .add (.slot 0) (.bin .mul (.slot 1) (.slot 3))))
def c6 : C := (.seq (.ret (.bcall .tuple (.cons (.bin .add (.newT (.lst (.cons (.cst (.int 0)) .nil))) (.newT c6_m0)) .nil))) .done)
-- 7 folded ['one', 'other', 'sizes', 'size', 'part']
def c7_m0 : C := (.comp [4] (.tslot 4) (.irange (.cons (.bin .add (.slot 3) (.cst (.int 1))) .nil)) (.cst (.bool true)) (.bin .add (.ix (.slot 0) (.slot 4)) (.ix (.slot 1) (.bin .sub (.slot 3) (.slot 4)))))
def c7_m1 : C := (.comp [3] (.tslot 3) (.ival (.slot 2)) (.cst (.bool true)) (.bcall .min (.cons (.newT c7_m0) .nil)))
def c7 : C := (.seq (.asg (.tslot 2) (.two .rngv (.cons (.bcall .min (.cons (.bcall .len (.cons (.slot 0) .nil)) (.cons (.bcall .len (.cons (.slot 1) .nil)) .nil))) .nil))) (.seq (.ret (.bcall .tuple (.cons (.newT c7_m1) .nil))) .done))
-- 8 is_under ['row', 'curve', 'most', 'lets']
def c8_m0 : C := (.comp [2, 3] (.ttup (.cons (.tslot 2) (.cons (.tslot 3) .nil))) (.izip (.call 11 (.cons (.slot 0) .nil)) (.slot 1)) (.cst (.bool true)) (.cmp .le (.slot 2) (.slot 3)))
def c8 : C := (.seq (.ret (.bcall .all (.cons (.newT c8_m0) .nil))) .done)
-- 9 most_queue ['comes', 'serves', 'came', 'gone']
def c9_m0 : C := (.comp [2, 3] (.ttup (.cons (.tslot 2) (.cons (.tslot 3) .nil))) (.izip (.slot 0) (.slot 1)) (.cst (.bool true)) (.bin .sub (.slot 2) (.slot 3)))
def c9 : C := (.seq (.ret (.two .maxd (.cons (.newT c9_m0) (.cons (.cst (.int 0)) .nil)))) .done)
-- 10 in_slots_on_end ['row', 'size', 'found', 'first', 'last']
def c10_b0 : C := (.seq (.expr (.bmeth .append (.slot 2) (.cons (.bin .sub (.bin .add (.ix (.slot 2) (.neg (.cst (.int 1)))) (.slot 4)) (.slot 3)) .nil))) .done)
def c10 : C := (.seq (.asg (.tslot 2) (.newC (.lst (.cons (.bcall .sum (.cons (.slice (.slot 0) .nil (.cons (.slot 1) .nil)) .nil)) .nil)))) (.seq (.fors (.ttup (.cons (.tslot 3) (.cons (.tslot 4) .nil))) (.izip (.slot 0) (.slice (.slot 0) (.cons (.slot 1) .nil) .nil)) c10_b0) (.seq (.ret (.slot 2)) .done)))
-- 11 tightest ['row', 'size']
def c11_m0 : C := (.comp [1] (.tslot 1) (.irange (.cons (.bin .add (.bcall .len (.cons (.slot 0) .nil)) (.cst (.int 1))) .nil)) (.cst (.bool true)) (.bcall .max (.cons (.call 10 (.cons (.slot 0) (.cons (.slot 1) .nil))) .nil)))
def c11 : C := (.seq (.ret (.bcall .tuple (.cons (.newT c11_m0) .nil))) .done)
-- 12 served_by ['row', 'offers', 'waiting', 'out', 'waits', 'slot', 'sent']
def c12_b0 : C := (.seq (.asg (.tslot 2) (.bin .add (.slot 2) (.call 5 (.cons (.slot 0) (.cons (.slot 5) .nil))))) (.seq (.asg (.tslot 6) (.bcall .min (.cons (.slot 2) (.cons (.call 5 (.cons (.slot 1) (.cons (.slot 5) .nil))) .nil)))) (.seq (.asg (.tslot 2) (.bin .sub (.slot 2) (.slot 6))) (.seq (.expr (.bmeth .append (.slot 3) (.cons (.slot 6) .nil))) (.seq (.expr (.bmeth .append (.slot 4) (.cons (.slot 2) .nil))) .done)))))
def c12 : C := (.seq (.asg (.tslot 2) (.cst (.int 0))) (.seq (.asg (.tslot 3) (.newC (.lst .nil))) (.seq (.asg (.tslot 4) (.newC (.lst .nil))) (.seq (.fors (.tslot 5) (.irange (.cons (.bcall .max (.cons (.bcall .len (.cons (.slot 0) .nil)) (.cons (.bcall .len (.cons (.slot 1) .nil)) .nil))) .nil)) c12_b0) (.seq (.ret (.tup (.cons (.bcall .tuple (.cons (.slot 3) .nil)) (.cons (.bcall .tuple (.cons (.slot 4) .nil)) .nil)))) .done)))))
-- 13 surely ['offers', 'size']
def c13_m0 : C := (.comp [1] (.tslot 1) (.irange (.cons (.bin .add (.bcall .len (.cons (.slot 0) .nil)) (.cst (.int 1))) .nil)) (.cst (.bool true)) (.bcall .min (.cons (.call 10 (.cons (.slot 0) (.cons (.slot 1) .nil))) .nil)))
def c13 : C := (.seq (.ret (.bcall .tuple (.cons (.newT c13_m0) .nil))) .done)
-- 14 slots_of_cells ['row', '_', 'slot', 'count']
def c14_m0 : C := (.comp2 [2, 3, 1] (.ttup (.cons (.tslot 2) (.cons (.tslot 3) .nil))) (.ienum (.slot 0)) (.cst (.bool true)) (.tslot 1) (.irange (.cons (.slot 3) .nil)) (.cst (.bool true)) (.slot 2))
def c14 : C := (.seq (.ret (.newT c14_m0)) .done)
-- 15 cell_waits ['row', 'out', 'came', 'gone']
def c15_m0 : C := (.comp [2, 3] (.ttup (.cons (.tslot 2) (.cons (.tslot 3) .nil))) (.izip (.call 14 (.cons (.slot 0) .nil)) (.call 14 (.cons (.slot 1) .nil))) (.cst (.bool true)) (.bin .sub (.slot 3) (.slot 2)))
def c15 : C := (.seq (.ret (.bcall .tuple (.cons (.newT c15_m0) .nil))) .done)
-- 16 _law_dice ['cell']
def c16 : C := (.seq (.ifs (.cmp2 .lt .lt (.bin .sub (.cst (.int 0)) (.cst (.int 10))) (.slot 0) (.cst (.int 10))) (.seq (.ret (.newC (.lst (.cons (.bcall .abs (.cons (.slot 0) .nil)) (.cons (.cst (.int 0)) (.cons (.cst (.int 2)) .nil)))))) .done) .done) (.seq (.ret (.newC (.lst (.cons (.slot 0) (.cons (.bin .add (.cst (.int 1)) (.bin .mod (.bcall .int (.cons (.slot 0) .nil)) (.cst (.int 1009)))) (.cons (.bcall .int (.cons (.cmp .ge (.slot 0) (.bin .pow (.cst (.int 10)) (.cst (.int 18)))) .nil)) .nil)))))) .done))
-- 17 _law_roll ['dice', 'many', 'found']
def c17 : C := (.seq (.ifs (.or (.cmp .eq (.ix (.slot 0) (.cst (.int 2))) (.cst (.int 2))) (.and (.cmp .eq (.ix (.slot 0) (.cst (.int 2))) (.cst (.int 1))) (.cmp .gt (.ix (.slot 0) (.cst (.int 0))) (.cst (.int 0))))) (.seq (.asg (.tslot 2) (.bin .mod (.bcall .int (.cons (.ix (.slot 0) (.cst (.int 0))) .nil)) (.slot 1))) (.seq (.asg (.tsub (.slot 0) (.cst (.int 0))) (.bin .fdiv (.ix (.slot 0) (.cst (.int 0))) (.slot 1))) (.seq (.ret (.slot 2)) .done))) .done) (.seq (.asg (.tsub (.slot 0) (.cst (.int 2))) (.cst (.int 0))) (.seq (.asg (.tsub (.slot 0) (.cst (.int 0))) (.bin .mod (.bcall .int (.cons (.bin .add (.bin .add (.bin .mul (.ix (.slot 0) (.cst (.int 0))) (.cst (.int 48271))) (.bin .mul (.ix (.slot 0) (.cst (.int 1))) (.cst (.int 69621)))) (.cst (.int 11))) .nil)) (.cst (.int 2147483647)))) (.seq (.asg (.tsub (.slot 0) (.cst (.int 1))) (.bin .add (.ix (.slot 0) (.cst (.int 1))) (.cst (.int 1)))) (.seq (.ret (.bin .mod (.bcall .int (.cons (.bin .add (.bin .fdiv (.ix (.slot 0) (.cst (.int 0))) (.cst (.int 7))) (.ix (.slot 0) (.cst (.int 0)))) .nil)) (.slot 1))) .done)))))
-- 18 _law_rounds ['script', 'most', 'cells', 'cell']
def c18_m0 : C := (.comp [3] (.tslot 3) (.ival (.slot 2)) (.cst (.bool true)) (.call 16 (.cons (.slot 3) .nil)))
def c18 : C := (.seq (.asg (.tslot 2) (.slice (.slot 0) .nil (.cons (.slot 1) .nil))) (.seq (.ifs (.cmp .eq (.slot 2) (.newT (.lst .nil))) (.seq (.asg (.tslot 2) (.newT (.lst (.cons (.cst (.int 0)) .nil)))) .done) .done) (.seq (.ret (.newT c18_m0)) .done)))
-- 19 law ['script', 'dice', 'many', 'out', 'curve', 'offers', 'both', 'surely_both', 'start', 'row', 'burst', 'rate', 'first', 'waits_now', 'second', 'left', 'idle', 'turn', 'k', 'end', 'came', 'gone', 'least', 'part']
def c19_m0 : C := (.comp [18] (.tslot 18) (.irange (.cons (.slot 2) .nil)) (.cst (.bool true)) (.call 17 (.cons (.slot 1) (.cons (.cst (.int 5)) .nil))))
def c19_m1 : C := (.comp [18] (.tslot 18) (.irange (.cons (.bin .add (.slot 2) (.cst (.int 1))) .nil)) (.cmp .gt (.ix (.call 11 (.cons (.slot 3) .nil)) (.slot 18)) (.ix (.slot 4) (.slot 18))) (.slot 18))
def c19_m2 : C := (.comp [18] (.tslot 18) (.irange (.cons (.slot 2) .nil)) (.cst (.bool true)) (.call 17 (.cons (.slot 1) (.cons (.cst (.int 4)) .nil))))
def c19_m3 : C := (.comp [17] (.tslot 17) (.irange (.cons (.cst (.int 2)) .nil)) (.cst (.bool true)) (.newT c19_m2))
def c19_m4 : C := (.comp [18] (.tslot 18) (.irange (.cons (.slot 2) .nil)) (.cst (.bool true)) (.bin .add (.ix (.slot 13) (.slot 18)) (.ix (.slot 15) (.slot 18))))
def c19_m5 : C := (.comp [23] (.tslot 23) (.irange (.cons (.bin .sub (.bin .add (.slot 19) (.cst (.int 2))) (.slot 8)) .nil)) (.cst (.bool true)) (.bin .add (.bcall .sum (.cons (.slice (.slot 3) (.cons (.slot 8) .nil) (.cons (.bin .add (.slot 8) (.slot 23)) .nil)) .nil)) (.ix (.slot 7) (.bin .sub (.bin .sub (.bin .add (.slot 19) (.cst (.int 1))) (.slot 8)) (.slot 23)))))
def c19_b0 : C := (.seq (.asg (.tslot 20) (.bcall .sum (.cons (.slice (.slot 3) (.cons (.slot 8) .nil) (.cons (.bin .add (.slot 19) (.cst (.int 1))) .nil)) .nil))) (.seq (.asg (.tslot 21) (.bcall .sum (.cons (.slice (.slot 14) (.cons (.slot 8) .nil) (.cons (.bin .add (.slot 19) (.cst (.int 1))) .nil)) .nil))) (.seq (.asg (.tslot 22) (.xf .mn (.newT c19_m5) .nil)) (.seq (.ifs (.or (.cmp .lt (.slot 21) (.slot 22)) (.cmp .gt (.slot 21) (.slot 20))) (.seq (.ret (.cst (.bool false))) .done) .done) .done))))
def c19_b1 : C := (.seq (.asg (.tslot 16) (.or (.cmp .eq (.slot 8) (.cst (.int 0))) (.cmp .eq (.ix (.slot 6) (.bin .sub (.slot 8) (.cst (.int 1)))) (.cst (.int 0))))) (.seq (.ifs (.slot 16) (.seq (.fors (.tslot 19) (.irange (.cons (.slot 8) (.cons (.slot 2) .nil))) c19_b0) .done) .done) .done))
def c19_m6 : C := (.comp [18] (.tslot 18) (.ival (.call 15 (.cons (.slot 3) (.cons (.slot 14) .nil)))) (.cmp .lt (.slot 18) (.cst (.int 0))) (.slot 18))
def c19_b2 : C := (.seq (.asg (.tslot 2) (.bin .add (.cst (.int 1)) (.call 17 (.cons (.slot 1) (.cons (.cst (.int 8)) .nil))))) (.seq (.asg (.ttup (.cons (.tslot 9) (.cons (.tslot 10) (.cons (.tslot 11) .nil)))) (.tup (.cons (.newT c19_m0) (.cons (.call 17 (.cons (.slot 1) (.cons (.cst (.int 4)) .nil))) (.cons (.bin .add (.cst (.int 1)) (.call 17 (.cons (.slot 1) (.cons (.cst (.int 2)) .nil)))) .nil))))) (.seq (.asg (.tslot 3) (.ix (.call 4 (.cons (.slot 9) (.cons (.slot 10) (.cons (.slot 11) .nil)))) (.cst (.int 0)))) (.seq (.asg (.tslot 4) (.call 6 (.cons (.slot 10) (.cons (.slot 11) (.cons (.slot 2) .nil))))) (.seq (.ifs (.or (.not (.call 8 (.cons (.slot 3) (.cons (.slot 4) .nil)))) (.or (.cmp .ne (.call 8 (.cons (.slot 9) (.cons (.slot 4) .nil))) (.call 2 (.cons (.slot 9) (.cons (.slot 10) (.cons (.slot 11) .nil))))) (.cmp .ne (.newT c19_m1) (.newT (.lst .nil))))) (.seq (.ret (.cst (.bool false))) .done) .done) (.seq (.ifs (.not (.call 8 (.cons (.slot 9) (.cons (.call 6 (.cons (.call 3 (.cons (.slot 9) (.cons (.slot 11) .nil))) (.cons (.slot 11) (.cons (.slot 2) .nil)))) .nil)))) (.seq (.ret (.cst (.bool false))) .done) .done) (.seq (.asg (.tslot 5) (.newT c19_m3)) (.seq (.asg (.ttup (.cons (.tslot 12) (.cons (.tslot 13) .nil))) (.call 12 (.cons (.slot 3) (.cons (.ix (.slot 5) (.cst (.int 0))) .nil)))) (.seq (.asg (.ttup (.cons (.tslot 14) (.cons (.tslot 15) .nil))) (.call 12 (.cons (.slot 12) (.cons (.ix (.slot 5) (.cst (.int 1))) .nil)))) (.seq (.asg (.tslot 6) (.newT c19_m4)) (.seq (.asg (.tslot 7) (.call 7 (.cons (.call 13 (.cons (.ix (.slot 5) (.cst (.int 0))) .nil)) (.cons (.call 13 (.cons (.ix (.slot 5) (.cst (.int 1))) .nil)) .nil)))) (.seq (.ifs (.or (.cmp .gt (.xf .mx (.slot 13) .nil) (.call 9 (.cons (.slot 4) (.cons (.call 13 (.cons (.ix (.slot 5) (.cst (.int 0))) .nil)) .nil)))) (.cmp .gt (.xf .mx (.slot 6) .nil) (.call 9 (.cons (.slot 4) (.cons (.slot 7) .nil))))) (.seq (.ret (.cst (.bool false))) .done) .done) (.seq (.fors (.tslot 8) (.irange (.cons (.slot 2) .nil)) c19_b1) (.seq (.ifs (.cmp .ne (.newT c19_m6) (.newT (.lst .nil))) (.seq (.ret (.cst (.bool false))) .done) .done) .done))))))))))))))
def c19 : C := (.seq (.fors (.tslot 1) (.ival (.call 18 (.cons (.slot 0) (.cons (.cst (.int 1)) .nil)))) c19_b2) (.seq (.ret (.cst (.bool true))) .done))
def dl : List Def := [⟨3, 3, c0⟩, ⟨2, 5, c1⟩, ⟨3, 4, c2⟩, ⟨2, 2, c3⟩, ⟨3, 9, c4⟩, ⟨2, 2, c5⟩, ⟨3, 4, c6⟩, ⟨2, 5, c7⟩, ⟨2, 4, c8⟩, ⟨2, 4, c9⟩, ⟨2, 5, c10⟩, ⟨1, 2, c11⟩, ⟨2, 7, c12⟩, ⟨1, 2, c13⟩, ⟨1, 4, c14⟩, ⟨2, 4, c15⟩, ⟨1, 1, c16⟩, ⟨2, 3, c17⟩, ⟨2, 4, c18⟩, ⟨1, 24, c19⟩]
def ml : List (List (Nat × Nat)) := []
def il : List (Option Nat) := []
def P : Prog := { defs := fun i => dl.getD i ⟨0, 0, .brk⟩, meth := fun k m => (ml.getD k []).lookup m, init := fun k => (il.getD k none), fok := fun k f => Nat.blt f 0 && Nat.blt k 0, told := fun x => ([] : List (Option Str)).getD x none }
end M33

set_option linter.all false
set_option maxHeartbeats 4000000
namespace Cv
open Ev PySem
/-! sums of windows, the greatest and the least of them -/
def pre (l : List Int) (i : Nat) : Int := (l.take i).sum
def win (l : List Int) (z i : Nat) : Int := ((l.drop i).take z).sum
def wins (l : List Int) (z : Nat) : List Int := (List.range (l.length + 1 - z)).map (win l z)
def mxl : List Int → Int
  | [] => 0
  | n :: ns => maxI n ns
def mnl : List Int → Int
  | [] => 0
  | n :: ns => minI n ns
def tgz (l : List Int) (z : Nat) : Int := mxl (wins l z)
def srz (l : List Int) (z : Nat) : Int := mnl (wins l z)
def tg (l : List Int) : List Int := (List.range (l.length + 1)).map (tgz l)
def sr (l : List Int) : List Int := (List.range (l.length + 1)).map (srz l)
theorem maxI_ge : ∀ (l : List Int) (n : Int), (n ≤ maxI n l) ∧ (∀ x, x ∈ l → x ≤ maxI n l) ∧ (maxI n l = n ∨ maxI n l ∈ l)
  | [], n => by
    refine ⟨Int.le_refl _, fun x h => ?_, .inl rfl⟩
    cases h
  | m :: l, n => by
    have e : maxI n (m :: l) = maxI (if n < m then m else n) l := rfl
    rw [e]
    by_cases z : n < m
    · rw [if_pos z]
      obtain ⟨h1, h2, h3⟩ := maxI_ge l m
      refine ⟨by omega, fun x hx => ?_, ?_⟩
      · rcases List.mem_cons.mp hx with rfl | hx
        · exact h1
        · exact h2 x hx
      · rcases h3 with h3 | h3
        · exact .inr (by rw [h3]; exact List.mem_cons_self)
        · exact .inr (List.mem_cons_of_mem _ h3)
    · rw [if_neg z]
      obtain ⟨h1, h2, h3⟩ := maxI_ge l n
      refine ⟨h1, fun x hx => ?_, ?_⟩
      · rcases List.mem_cons.mp hx with rfl | hx
        · omega
        · exact h2 x hx
      · rcases h3 with h3 | h3
        · exact .inl h3
        · exact .inr (List.mem_cons_of_mem _ h3)
theorem minI_le : ∀ (l : List Int) (n : Int), (minI n l ≤ n) ∧ (∀ x, x ∈ l → minI n l ≤ x) ∧ (minI n l = n ∨ minI n l ∈ l)
  | [], n => by
    refine ⟨Int.le_refl _, fun x h => ?_, .inl rfl⟩
    cases h
  | m :: l, n => by
    have e : minI n (m :: l) = minI (if m < n then m else n) l := rfl
    rw [e]
    by_cases z : m < n
    · rw [if_pos z]
      obtain ⟨h1, h2, h3⟩ := minI_le l m
      refine ⟨by omega, fun x hx => ?_, ?_⟩
      · rcases List.mem_cons.mp hx with rfl | hx
        · exact h1
        · exact h2 x hx
      · rcases h3 with h3 | h3
        · exact .inr (by rw [h3]; exact List.mem_cons_self)
        · exact .inr (List.mem_cons_of_mem _ h3)
    · rw [if_neg z]
      obtain ⟨h1, h2, h3⟩ := minI_le l n
      refine ⟨h1, fun x hx => ?_, ?_⟩
      · rcases List.mem_cons.mp hx with rfl | hx
        · omega
        · exact h2 x hx
      · rcases h3 with h3 | h3
        · exact .inl h3
        · exact .inr (List.mem_cons_of_mem _ h3)
theorem mxl_ge {l : List Int} {x : Int} (h : x ∈ l) : x ≤ mxl l := by
  cases l with
  | nil => cases h
  | cons n l =>
    obtain ⟨h1, h2, _⟩ := maxI_ge l n
    rcases List.mem_cons.mp h with rfl | h
    · exact h1
    · exact h2 x h
theorem mxl_mem {l : List Int} (h : l ≠ []) : mxl l ∈ l := by
  cases l with
  | nil => exact absurd rfl h
  | cons n l =>
    obtain ⟨_, _, h3⟩ := maxI_ge l n
    rcases h3 with h3 | h3
    · show maxI n l ∈ _; rw [h3]; exact List.mem_cons_self
    · exact List.mem_cons_of_mem _ h3
theorem mnl_le {l : List Int} {x : Int} (h : x ∈ l) : mnl l ≤ x := by
  cases l with
  | nil => cases h
  | cons n l =>
    obtain ⟨h1, h2, _⟩ := minI_le l n
    rcases List.mem_cons.mp h with rfl | h
    · exact h1
    · exact h2 x h
theorem mnl_mem {l : List Int} (h : l ≠ []) : mnl l ∈ l := by
  cases l with
  | nil => exact absurd rfl h
  | cons n l =>
    obtain ⟨_, _, h3⟩ := minI_le l n
    rcases h3 with h3 | h3
    · show minI n l ∈ _; rw [h3]; exact List.mem_cons_self
    · exact List.mem_cons_of_mem _ h3
theorem pre_0 {l : List Int} : pre l 0 = 0 := rfl
theorem pre_s {l : List Int} {i : Nat} (h : i < l.length) : pre l (i + 1) = pre l i + l.getD i 0 := by
  unfold pre
  have e : l.take (i + 1) = l.take i ++ [l.getD i 0] := by
    rw [List.take_add_one, List.getElem?_eq_getElem h]
    simp [List.getD_eq_getElem?_getD, List.getElem?_eq_getElem h]
  rw [e, List.sum_append]
  simp
theorem win_pre {l : List Int} {z i : Nat} : win l z i = pre l (i + z) - pre l i := by
  unfold win pre
  rw [List.take_add, List.sum_append]
  omega
theorem wins_mem {l : List Int} {z i : Nat} (h : i + z ≤ l.length) : win l z i ∈ wins l z := List.mem_map.mpr ⟨i, List.mem_range.mpr (by omega), rfl⟩
theorem wins_of {l : List Int} {z : Nat} {x : Int} (hz : z ≤ l.length) (h : x ∈ wins l z) : ∃ i, i + z ≤ l.length ∧ x = win l z i := by
  obtain ⟨i, hi, rfl⟩ := List.mem_map.mp h
  have := List.mem_range.mp hi
  exact ⟨i, by omega, rfl⟩
theorem wins_ne {l : List Int} {z : Nat} (hz : z ≤ l.length) : wins l z ≠ [] := fun e => by
  have := wins_mem (l := l) (z := z) (i := 0) (by omega)
  rw [e] at this
  cases this
theorem tgz_ge {l : List Int} {z i : Nat} (h : i + z ≤ l.length) : pre l (i + z) - pre l i ≤ tgz l z := by
  rw [← win_pre]; exact mxl_ge (wins_mem h)
theorem srz_le {l : List Int} {z i : Nat} (h : i + z ≤ l.length) : srz l z ≤ pre l (i + z) - pre l i := by
  rw [← win_pre]; exact mnl_le (wins_mem h)
theorem tgz_at {l : List Int} {z : Nat} (hz : z ≤ l.length) : ∃ i, i + z ≤ l.length ∧ tgz l z = pre l (i + z) - pre l i := by
  obtain ⟨i, h1, h2⟩ := wins_of hz (mxl_mem (wins_ne hz))
  exact ⟨i, h1, by rw [← win_pre]; exact h2⟩
theorem srz_at {l : List Int} {z : Nat} (hz : z ≤ l.length) : ∃ i, i + z ≤ l.length ∧ srz l z = pre l (i + z) - pre l i := by
  obtain ⟨i, h1, h2⟩ := wins_of hz (mnl_mem (wins_ne hz))
  exact ⟨i, h1, by rw [← win_pre]; exact h2⟩
def Nn (l : List Int) : Prop := ∀ i, 0 ≤ l.getD i 0
theorem pre_mono {l : List Int} (hn : Nn l) {i : Nat} : ∀ {j : Nat}, i ≤ j → j ≤ l.length → pre l i ≤ pre l j
  | 0, h, _ => by rw [show i = 0 by omega]; exact Int.le_refl _
  | j + 1, h, hj => by
    by_cases z : i = j + 1
    · rw [z]; exact Int.le_refl _
    · have h1 := pre_mono hn (i := i) (j := j) (by omega) (by omega)
      have h2 := pre_s (l := l) (i := j) (by omega)
      have h3 := hn j
      omega
theorem tgz_0 {l : List Int} : tgz l 0 = 0 := by
  obtain ⟨i, h1, h2⟩ := tgz_at (l := l) (z := 0) (by omega)
  rw [h2, Nat.add_zero]; omega
theorem srz_0 {l : List Int} : srz l 0 = 0 := by
  obtain ⟨i, h1, h2⟩ := srz_at (l := l) (z := 0) (by omega)
  rw [h2, Nat.add_zero]; omega
theorem tgz_mono {l : List Int} (hn : Nn l) {z : Nat} (h : z + 1 ≤ l.length) : tgz l z ≤ tgz l (z + 1) := by
  obtain ⟨i, h1, h2⟩ := tgz_at (l := l) (z := z) (by omega)
  rw [h2]
  by_cases q : i + (z + 1) ≤ l.length
  · have a := tgz_ge (l := l) (z := z + 1) (i := i) q
    have b := pre_mono hn (i := i + z) (j := i + (z + 1)) (by omega) q
    omega
  · obtain ⟨j, rfl⟩ : ∃ j, i = j + 1 := ⟨i - 1, by omega⟩
    have a := tgz_ge (l := l) (z := z + 1) (i := j) (by omega)
    have b := pre_mono hn (i := j) (j := j + 1) (by omega) (by omega)
    rw [show j + (z + 1) = j + 1 + z by omega] at a
    omega
theorem srz_mono1 {l : List Int} (hn : Nn l) {z : Nat} (h : z + 1 ≤ l.length) : srz l z ≤ srz l (z + 1) := by
  obtain ⟨i, h1, h2⟩ := srz_at (l := l) (z := z + 1) h
  rw [h2]
  have a := srz_le (l := l) (z := z) (i := i) (by omega)
  have b := pre_mono hn (i := i + z) (j := i + (z + 1)) (by omega) h1
  omega
theorem srz_mono {l : List Int} (hn : Nn l) {i : Nat} : ∀ {j : Nat}, i ≤ j → j ≤ l.length → srz l i ≤ srz l j
  | 0, h, _ => by rw [show i = 0 by omega]; exact Int.le_refl _
  | j + 1, h, hj => by
    by_cases z : i = j + 1
    · rw [z]; exact Int.le_refl _
    · exact Int.le_trans (srz_mono hn (i := i) (j := j) (by omega) (by omega)) (srz_mono1 hn hj)
theorem tgz_nn {l : List Int} (hn : Nn l) : ∀ {z : Nat}, z ≤ l.length → 0 ≤ tgz l z
  | 0, _ => by rw [tgz_0]; exact Int.le_refl _
  | z + 1, h => Int.le_trans (tgz_nn hn (by omega)) (tgz_mono hn h)
/-! a server: what has gone by a slot -/
def gone (r o : List Int) : Nat → Int
  | 0 => 0
  | i + 1 => if gone r o i + o.getD i 0 < pre r (i + 1) then gone r o i + o.getD i 0 else pre r (i + 1)
theorem gone_le {r o : List Int} : ∀ i, gone r o i ≤ pre r i
  | 0 => Int.le_refl _
  | i + 1 => by
    unfold gone
    split <;> omega
theorem gone_at {r o : List Int} (h : r.length = o.length) : ∀ t, t ≤ r.length → ∃ b, b ≤ t ∧ gone r o t = pre r b + (pre o t - pre o b)
  | 0, _ => ⟨0, Nat.le_refl _, by simp [gone, pre]⟩
  | t + 1, ht => by
    obtain ⟨b, h1, h2⟩ := gone_at h t (by omega)
    have p := pre_s (l := o) (i := t) (by omega)
    unfold gone
    split
    · exact ⟨b, by omega, by omega⟩
    · exact ⟨t + 1, Nat.le_refl _, by omega⟩
theorem gone_mono1 {r o : List Int} (hr : Nn r) (ho : Nn o) {t : Nat} (ht : t < r.length) : gone r o t ≤ gone r o (t + 1) := by
  have a := gone_le (r := r) (o := o) t
  have b := ho t
  have c := pre_s (l := r) (i := t) ht
  have d := hr t
  rw [gone]
  split <;> omega
theorem gone_mono {r o : List Int} (hr : Nn r) (ho : Nn o) {i : Nat} : ∀ {j : Nat}, i ≤ j → j ≤ r.length → gone r o i ≤ gone r o j
  | 0, h, _ => by rw [show i = 0 by omega]; exact Int.le_refl _
  | j + 1, h, hj => by
    by_cases z : i = j + 1
    · rw [z]; exact Int.le_refl _
    · exact Int.le_trans (gone_mono hr ho (i := i) (j := j) (by omega) (by omega)) (gone_mono1 hr ho hj)
def outL (r o : List Int) : List Int := (List.range r.length).map fun i => gone r o (i + 1) - gone r o i
def wtL (r o : List Int) : List Int := (List.range r.length).map fun i => pre r (i + 1) - gone r o (i + 1)
/-- what waits is never more than the curves tell -/
theorem wait_le {r o : List Int} (h : r.length = o.length) {t : Nat} (ht : t ≤ r.length) : ∃ z, z ≤ t ∧ pre r t - gone r o t ≤ tgz r z - srz o z := by
  obtain ⟨b, h1, h2⟩ := gone_at h t ht
  refine ⟨t - b, by omega, ?_⟩
  have a := tgz_ge (l := r) (z := t - b) (i := b) (by omega)
  have c := srz_le (l := o) (z := t - b) (i := b) (by omega)
  rw [show b + (t - b) = t by omega] at a c
  omega
/-! cells one by one -/
def cells : Nat → List Int → List Nat
  | _, [] => []
  | k, x :: t => List.replicate x.toNat k ++ cells (k + 1) t
theorem pre_cons {x : Int} {t : List Int} {j : Nat} : pre (x :: t) (j + 1) = x + pre t j := by
  unfold pre
  rw [List.take_succ_cons, List.sum_cons]
theorem cells_at : ∀ {l : List Int} {k c v : Nat}, (∀ x, x ∈ l → 0 ≤ x) → (cells k l)[c]? = some v → ∃ j, v = k + j ∧ j < l.length ∧ pre l j ≤ c ∧ (c : Int) < pre l (j + 1)
  | [], k, c, v, _, h => by cases h
  | x :: t, k, c, v, hn, h => by
    have hx := hn x List.mem_cons_self
    unfold cells at h
    by_cases q : c < x.toNat
    · rw [List.getElem?_append_left (by rw [List.length_replicate]; exact q), List.getElem?_replicate, if_pos q] at h
      cases h
      exact ⟨0, rfl, by simp, by rw [pre_0]; omega, by rw [pre_cons, pre_0]; omega⟩
    · rw [List.getElem?_append_right (by rw [List.length_replicate]; omega), List.length_replicate] at h
      obtain ⟨j, h1, h2, h3, h4⟩ := cells_at (fun y hy => hn y (List.mem_cons_of_mem _ hy)) h
      exact ⟨j + 1, by omega, by simp; omega, by rw [pre_cons]; omega, by rw [pre_cons]; omega⟩
theorem pre_out {r o : List Int} : ∀ t, t ≤ r.length → pre (outL r o) t = gone r o t
  | 0, _ => rfl
  | t + 1, h => by
    have hl : (outL r o).length = r.length := by simp [outL]
    rw [pre_s (by omega), pre_out t (by omega)]
    have e : (outL r o).getD t 0 = gone r o (t + 1) - gone r o t := by
      rw [List.getD_eq_getElem?_getD]
      simp [outL, List.getElem?_range (show t < r.length by omega)]
    rw [e]; omega
theorem Nn.mem {l : List Int} (h : Nn l) : ∀ x, x ∈ l → 0 ≤ x := fun x hx => by
  obtain ⟨i, hi, rfl⟩ := List.getElem_of_mem hx
  have := h i
  rwa [List.getD_eq_getElem?_getD, List.getElem?_eq_getElem hi] at this
theorem Nn.of {l : List Int} (h : ∀ x, x ∈ l → 0 ≤ x) : Nn l := fun i => by
  rw [List.getD_eq_getElem?_getD]
  cases e : l[i]? with
  | none => exact Int.le_refl _
  | some x => exact h x (List.mem_of_getElem? e)
theorem out_nn {r o : List Int} (hr : Nn r) (ho : Nn o) : ∀ x, x ∈ outL r o → 0 ≤ x := fun x hx => by
  obtain ⟨i, hi, rfl⟩ := List.mem_map.mp hx
  have := gone_mono1 hr ho (List.mem_range.mp hi)
  omega
/-- cells go no sooner than they come -/
theorem cell_nn {r o : List Int} (h : r.length = o.length) (hr : Nn r) (ho : Nn o) {c a g : Nat} (h1 : (cells 0 r)[c]? = some a) (h2 : (cells 0 (outL r o))[c]? = some g) : a ≤ g := by
  obtain ⟨i, rfl, b1, b2, b3⟩ := cells_at hr.mem h1
  obtain ⟨j, rfl, c1, c2, c3⟩ := cells_at (out_nn hr ho) h2
  have hl : (outL r o).length = r.length := by simp [outL]
  rw [pre_out _ (by omega)] at c2 c3
  by_cases q : i ≤ j
  · omega
  · have x1 := gone_le (r := r) (o := o) (j + 1)
    have x2 := pre_mono hr (i := j + 1) (j := i) (by omega) (by omega)
    omega
/-- cells wait no longer than the curves tell -/
theorem cell_le {r o : List Int} (h : r.length = o.length) (hr : Nn r) (ho : Nn o) {d c a g : Nat} (hd : ∀ z, z ≤ r.length → ∃ y, z ≤ y ∧ y ≤ z + d ∧ y ≤ r.length ∧ tgz r z ≤ srz o y) (h1 : (cells 0 r)[c]? = some a) (h2 : (cells 0 (outL r o))[c]? = some g) : g ≤ a + d := by
  obtain ⟨i, rfl, b1, b2, b3⟩ := cells_at hr.mem h1
  obtain ⟨j, rfl, c1, c2, c3⟩ := cells_at (out_nn hr ho) h2
  have hl : (outL r o).length = r.length := by simp [outL]
  rw [pre_out _ (by omega)] at c2 c3
  rw [Nat.zero_add, Nat.zero_add]
  by_cases q : j ≤ i + d
  · exact q
  · exfalso
    have x1 := gone_mono hr ho (i := i + d + 1) (j := j) (by omega) (by omega)
    obtain ⟨b, y1, y2⟩ := gone_at h (i + d + 1) (by omega)
    by_cases w : i + 1 ≤ b
    · have z1 := pre_mono hr (i := i + 1) (j := b) w (by omega)
      have z2 := pre_mono ho (i := b) (j := i + d + 1) y1 (by omega)
      omega
    · obtain ⟨y, u1, u2, u3, u4⟩ := hd (i + 1 - b) (by omega)
      have t1 := tgz_ge (l := r) (z := i + 1 - b) (i := b) (by omega)
      rw [show b + (i + 1 - b) = i + 1 by omega] at t1
      have t2 := srz_mono ho (i := y) (j := i + d + 1 - b) (by omega) (by omega)
      have t3 := srz_le (l := o) (z := i + d + 1 - b) (i := b) (by omega)
      rw [show b + (i + d + 1 - b) = i + d + 1 by omega] at t3
      omega
/-! from a slot at which nothing waits -/
theorem gone_from {r o : List Int} (h : r.length = o.length) {s : Nat} (hs : gone r o s = pre r s) : ∀ t, s ≤ t → t ≤ r.length → ∃ b, s ≤ b ∧ b ≤ t ∧ gone r o t = pre r b + (pre o t - pre o b)
  | 0, h0, _ => ⟨0, h0, Nat.le_refl _, by simp [gone, pre]⟩
  | t + 1, h0, ht => by
    by_cases q : s = t + 1
    · subst q; exact ⟨t + 1, Nat.le_refl _, Nat.le_refl _, by omega⟩
    · obtain ⟨b, h1, h2, h3⟩ := gone_from h hs t (by omega) (by omega)
      have p := pre_s (l := o) (i := t) (by omega)
      unfold gone
      split
      · exact ⟨b, h1, by omega, by omega⟩
      · exact ⟨t + 1, h0, Nat.le_refl _, by omega⟩
/-- cells of what never comes sooner -/
theorem cell_ge {r q : List Int} (h : q.length = r.length) (hr : Nn r) (hq : Nn q) (hl : ∀ t, t ≤ r.length → pre q t ≤ pre r t) {c a g : Nat} (h1 : (cells 0 r)[c]? = some a) (h2 : (cells 0 q)[c]? = some g) : a ≤ g := by
  obtain ⟨i, rfl, b1, b2, b3⟩ := cells_at hr.mem h1
  obtain ⟨j, rfl, c1, c2, c3⟩ := cells_at hq.mem h2
  by_cases w : i ≤ j
  · omega
  · have x1 := hl (j + 1) (by omega)
    have x2 := pre_mono hr (i := j + 1) (j := i) (by omega) (by omega)
    omega
/-! two servers, one behind the other -/
def fold2 (a b : List Int) (z : Nat) : Int := mnl ((List.range (z + 1)).map fun p => srz a p + srz b (z - p))
theorem fold2_le {a b : List Int} {z p : Nat} (h : p ≤ z) : fold2 a b z ≤ srz a p + srz b (z - p) := mnl_le (List.mem_map.mpr ⟨p, List.mem_range.mpr (by omega), rfl⟩)
/-- what has gone behind both, from a slot at which nothing waits -/
theorem two_from {r o1 o2 : List Int} (h1 : r.length = o1.length) (h2 : r.length = o2.length) {s : Nat} (hs1 : gone r o1 s = pre r s) (hs2 : gone (outL r o1) o2 s = pre (outL r o1) s) {t : Nat} (hst : s ≤ t) (ht : t ≤ r.length) :
    ∃ b, s ≤ b ∧ b ≤ t ∧ pre r b + fold2 o1 o2 (t - b) ≤ gone (outL r o1) o2 t := by
  have hl : (outL r o1).length = r.length := by simp [outL]
  obtain ⟨b2, a1, a2, a3⟩ := gone_from (r := outL r o1) (o := o2) (by omega) hs2 t hst (by omega)
  rw [pre_out b2 (by omega)] at a3
  obtain ⟨b1, c1, c2, c3⟩ := gone_from h1 hs1 b2 a1 (by omega)
  refine ⟨b1, c1, by omega, ?_⟩
  have x1 := srz_le (l := o1) (z := b2 - b1) (i := b1) (by omega)
  have x2 := srz_le (l := o2) (z := t - b2) (i := b2) (by omega)
  have x3 := fold2_le (a := o1) (b := o2) (z := t - b1) (p := b2 - b1) (by omega)
  rw [show b1 + (b2 - b1) = b2 by omega] at x1
  rw [show b2 + (t - b2) = t by omega] at x2
  rw [show t - b1 - (b2 - b1) = t - b2 by omega] at x3
  omega
end Cv
set_option maxRecDepth 20000
namespace Bk
open Ev PySem
def mxz (o : Int) : Int := if o < 0 then 0 else o
theorem mxz_max (o : Int) : mxz o = max o 0 := by unfold mxz; split <;> omega
/-- how far a stream is over its rate, slot by slot -/
def ovs (r : Int) : Int → List Int → List Int
  | _, [] => []
  | o, c :: t => (mxz o + c - r) :: ovs r (mxz o + c - r) t
theorem ovs_len (r : Int) : ∀ (l : List Int) (o : Int), (ovs r o l).length = l.length
  | [], _ => rfl
  | c :: t, o => by show (ovs r _ t).length + 1 = _; rw [ovs_len r t, List.length_cons]
/-- in any slots on end no more than burst and rate -/
def K (l : List Int) (b r : Int) : Prop := ∀ i n : Nat, i + n ≤ l.length → 1 ≤ n → ((l.drop i).take n).sum ≤ b + r * n
theorem ovs_iff (b r : Int) : ∀ (l : List Int) (o : Int), (∀ x, x ∈ ovs r o l → x ≤ b) ↔ (K l b r ∧ ∀ n : Nat, 1 ≤ n → n ≤ l.length → mxz o + (l.take n).sum ≤ b + r * n)
  | [], o => by
    refine ⟨fun _ => ⟨fun i n h1 h2 => ?_, fun n h1 h2 => ?_⟩, fun _ x hx => by simp [ovs] at hx⟩
    · simp at h1; omega
    · simp at h2; omega
  | c :: t, o => by
    have ih := ovs_iff b r t (mxz o + c - r)
    constructor
    · intro h
      have h0 : mxz o + c - r ≤ b := h _ List.mem_cons_self
      obtain ⟨k1, k2⟩ := ih.mp fun x hx => h x (List.mem_cons_of_mem _ hx)
      have pre : ∀ n : Nat, 1 ≤ n → n ≤ (c :: t).length → mxz o + ((c :: t).take n).sum ≤ b + r * n := by
        intro n h1 h2
        cases n with
        | zero => omega
        | succ n =>
          rw [List.take_succ_cons, List.sum_cons]
          cases n with
          | zero => simp; omega
          | succ n =>
            have := k2 (n + 1) (by omega) (by simp at h2; omega)
            rw [mxz_max] at this
            have e : r * ((n + 1 + 1 : Nat) : Int) = r * ((n + 1 : Nat) : Int) + r := by push_cast; rw [Int.mul_add, Int.mul_one]
            rw [e]
            omega
      refine ⟨fun i n h1 h2 => ?_, pre⟩
      cases i with
      | zero =>
        have := pre n h2 (by simpa using h1)
        rw [mxz_max] at this
        rw [List.drop_zero]
        omega
      | succ i =>
        rw [List.drop_succ_cons]
        exact k1 i n (by simp at h1; omega) h2
    · rintro ⟨k1, k2⟩
      have h0 := k2 1 (by omega) (by simp)
      simp at h0
      have hz := mxz_max o
      refine fun x hx => ?_
      rcases List.mem_cons.mp hx with rfl | hx
      · omega
      · refine ih.mpr ⟨fun i n h1 h2 => ?_, fun n h1 h2 => ?_⟩ x hx
        · have := k1 (i + 1) n (by simp; omega) h2
          rwa [List.drop_succ_cons] at this
        · have e : r * ((n + 1 : Nat) : Int) = r * (n : Int) + r := by push_cast; rw [Int.mul_add, Int.mul_one]
          have a := k2 (n + 1) (by omega) (by simp; omega)
          rw [List.take_succ_cons, List.sum_cons, e] at a
          have b' := k1 1 n (by simp; omega) h1
          rw [List.drop_succ_cons, List.drop_zero] at b'
          rw [mxz_max]
          omega
theorem ovs_K {b r : Int} {l : List Int} : (∀ x, x ∈ ovs r 0 l → x ≤ b) ↔ K l b r := by
  rw [ovs_iff]
  refine ⟨fun h => h.1, fun h => ⟨h, fun n h1 h2 => ?_⟩⟩
  have := h 0 n (by omega) h1
  rw [List.drop_zero] at this
  rw [show mxz 0 = 0 from rfl]
  omega
theorem ovs_append (r : Int) : ∀ (l m : List Int) (o : Int), ∃ o', ovs r o (l ++ m) = ovs r o l ++ ovs r o' m
  | [], m, o => ⟨o, rfl⟩
  | c :: t, m, o => by
    obtain ⟨o', h⟩ := ovs_append r t m (mxz o + c - r)
    exact ⟨o', by show _ :: ovs r _ (t ++ m) = _; rw [h]; rfl⟩
/-! a bucket -/
def rfl' (m b r : Int) : Int := (if b < m then b else m) + r
theorem rfl_eq (o b r : Int) : rfl' (b - o) b r = b - mxz o + r := by unfold rfl' mxz; split <;> split <;> omega
def tkn (b r : Int) : Int → List Int → List Bool
  | _, [] => []
  | m, c :: t => if c ≤ rfl' m b r then true :: tkn b r (rfl' m b r - c) t else false :: tkn b r (rfl' m b r) t
def kpt (b r : Int) : Int → List Int → List Int
  | _, [] => []
  | m, c :: t => if c ≤ rfl' m b r then c :: kpt b r (rfl' m b r - c) t else 0 :: kpt b r (rfl' m b r) t
theorem tkn_len (b r : Int) : ∀ (l : List Int) (m : Int), (tkn b r m l).length = l.length
  | [], _ => rfl
  | c :: t, m => by unfold tkn; split <;> rw [List.length_cons, List.length_cons, tkn_len]
theorem kpt_len (b r : Int) : ∀ (l : List Int) (m : Int), (kpt b r m l).length = l.length
  | [], _ => rfl
  | c :: t, m => by unfold kpt; split <;> rw [List.length_cons, List.length_cons, kpt_len]
theorem kpt_keeps {b r : Int} (hb : 0 ≤ b) (hr : 0 ≤ r) : ∀ (l : List Int) (o : Int), o ≤ b → ∀ x, x ∈ ovs r o (kpt b r (b - o) l) → x ≤ b
  | [], o, _, x, hx => by simp [kpt, ovs] at hx
  | c :: t, o, ho, x, hx => by
    have e := rfl_eq o b r
    unfold kpt at hx
    have hz := mxz_max o
    by_cases h : c ≤ rfl' (b - o) b r
    · rw [if_pos h] at hx
      rcases List.mem_cons.mp hx with rfl | hx
      · omega
      · refine kpt_keeps hb hr t (mxz o + c - r) (by omega) x ?_
        rw [show b - (mxz o + c - r) = rfl' (b - o) b r - c by omega]
        exact hx
    · rw [if_neg h] at hx
      rcases List.mem_cons.mp hx with rfl | hx
      · omega
      · refine kpt_keeps hb hr t (mxz o + 0 - r) (by omega) x ?_
        rw [show b - (mxz o + 0 - r) = rfl' (b - o) b r by omega]
        exact hx
theorem tkn_all {b r : Int} : ∀ (l : List Int) (o : Int), (∀ x, x ∈ tkn b r (b - o) l → x = true) ↔ ∀ x, x ∈ ovs r o l → x ≤ b
  | [], o => by simp [tkn, ovs]
  | c :: t, o => by
    have e := rfl_eq o b r
    unfold tkn
    by_cases h : c ≤ rfl' (b - o) b r
    · rw [if_pos h]
      have ih := tkn_all (b := b) (r := r) t (mxz o + c - r)
      rw [show b - (mxz o + c - r) = rfl' (b - o) b r - c by omega] at ih
      constructor
      · intro q x hx
        rcases List.mem_cons.mp hx with rfl | hx
        · omega
        · exact ih.mp (fun y hy => q y (List.mem_cons_of_mem _ hy)) x hx
      · intro q x hx
        rcases List.mem_cons.mp hx with rfl | hx
        · rfl
        · exact ih.mpr (fun y hy => q y (List.mem_cons_of_mem _ hy)) x hx
    · rw [if_neg h]
      constructor
      · intro q
        have := q false List.mem_cons_self
        cases this
      · intro q
        have := q _ List.mem_cons_self
        omega
theorem tkn_row {b r : Int} : ∀ (l : List Int) (m : Int), (∀ x, x ∈ tkn b r m l → x = true) → kpt b r m l = l
  | [], m, _ => rfl
  | c :: t, m, h => by
    unfold tkn at h
    unfold kpt
    by_cases q : c ≤ rfl' m b r
    · rw [if_pos q] at h ⊢
      rw [tkn_row t _ fun x hx => h x (List.mem_cons_of_mem _ hx)]
    · rw [if_neg q] at h
      have := h false List.mem_cons_self
      cases this
theorem tkn_no {b r : Int} : ∀ (l : List Int) (o : Int) (k : Nat) (c : Int), (tkn b r (b - o) l)[k]? = some false → l[k]? = some c → ¬ ∀ x, x ∈ ovs r o ((kpt b r (b - o) l).take k ++ [c]) → x ≤ b
  | [], o, k, c, h, _ => by simp [tkn] at h
  | d :: t, o, k, c, h, hl => by
    have e := rfl_eq o b r
    unfold tkn at h
    unfold kpt
    by_cases q : d ≤ rfl' (b - o) b r
    · rw [if_pos q] at h ⊢
      cases k with
      | zero => simp at h
      | succ k =>
        rw [List.getElem?_cons_succ] at h hl
        rw [show rfl' (b - o) b r - d = b - (mxz o + d - r) by omega] at h ⊢
        have ih := tkn_no t (mxz o + d - r) k c h hl
        intro a
        refine ih fun x hx => a x ?_
        rw [List.take_succ_cons]
        exact List.mem_cons_of_mem _ hx
    · rw [if_neg q] at h ⊢
      cases k with
      | zero =>
        simp at hl
        subst hl
        intro a
        have := a (mxz o + d - r) (by simp [ovs])
        omega
      | succ k =>
        rw [List.getElem?_cons_succ] at h hl
        rw [show rfl' (b - o) b r = b - (mxz o + 0 - r) by omega] at h ⊢
        have ih := tkn_no t (mxz o + 0 - r) k c h hl
        intro a
        refine ih fun x hx => a x ?_
        rw [List.take_succ_cons]
        exact List.mem_cons_of_mem _ hx
theorem kpt_at {b r : Int} : ∀ (l : List Int) (m : Int) (k : Nat), (kpt b r m l).getD k 0 = l.getD k 0 * (if (tkn b r m l).getD k false then 1 else 0)
  | [], m, k => by simp [kpt, tkn]
  | c :: t, m, k => by
    unfold kpt tkn
    by_cases q : c ≤ rfl' m b r
    · rw [if_pos q, if_pos q]
      cases k with
      | zero => simp
      | succ k => simpa using kpt_at t _ k
    · rw [if_neg q, if_neg q]
      cases k with
      | zero => simp
      | succ k => simpa using kpt_at t _ k
/-! a shaper: what goes out, what waits -/
def snt (m1 w1 : Int) : Int := mxz (if m1 < w1 then m1 else w1)
def shp (b r : Int) : Int → Int → List Int → List Int × List Int
  | _, _, [] => ([], [])
  | m, w, c :: t => (snt (rfl' m b r) (w + c) :: (shp b r (rfl' m b r - snt (rfl' m b r) (w + c)) (w + c - snt (rfl' m b r) (w + c)) t).1,
      (w + c - snt (rfl' m b r) (w + c)) :: (shp b r (rfl' m b r - snt (rfl' m b r) (w + c)) (w + c - snt (rfl' m b r) (w + c)) t).2)
theorem shp_len (b r : Int) : ∀ (l : List Int) (m w : Int), (shp b r m w l).1.length = l.length ∧ (shp b r m w l).2.length = l.length
  | [], _, _ => ⟨rfl, rfl⟩
  | c :: t, m, w => by
    obtain ⟨h1, h2⟩ := shp_len b r t (rfl' m b r - snt (rfl' m b r) (w + c)) (w + c - snt (rfl' m b r) (w + c))
    exact ⟨by show _ + 1 = _; rw [h1, List.length_cons], by show _ + 1 = _; rw [h2, List.length_cons]⟩
theorem snt_eq (m w : Int) : snt m w = max (min w m) 0 := by unfold snt; rw [mxz_max]; split <;> omega
section
variable {b r : Int} (hb : 0 ≤ b) (hr : 0 ≤ r)
include hb hr
theorem shp_keeps : ∀ (l : List Int) (o w : Int), o ≤ b → ∀ x, x ∈ ovs r o (shp b r (b - o) w l).1 → x ≤ b
  | [], o, w, _, x, hx => by simp [shp, ovs] at hx
  | c :: t, o, w, ho, x, hx => by
    have e := rfl_eq o b r
    have hz := mxz_max o
    have hs := snt_eq (rfl' (b - o) b r) (w + c)
    rcases List.mem_cons.mp hx with rfl | hx
    · omega
    · refine shp_keeps t (mxz o + snt (rfl' (b - o) b r) (w + c) - r) (w + c - snt (rfl' (b - o) b r) (w + c)) (by omega) x ?_
      rw [show b - (mxz o + snt (rfl' (b - o) b r) (w + c) - r) = rfl' (b - o) b r - snt (rfl' (b - o) b r) (w + c) by omega]
      exact hx
theorem shp_at : ∀ (l : List Int) (o w : Int), o ≤ b → 0 ≤ w → (∀ x, x ∈ l → 0 ≤ x) → ∀ k, k < l.length →
    ((shp b r (b - o) w l).1.take (k + 1)).sum + (shp b r (b - o) w l).2.getD k 0 = w + (l.take (k + 1)).sum ∧ 0 ≤ (shp b r (b - o) w l).2.getD k 0 ∧ 0 ≤ (shp b r (b - o) w l).1.getD k 0 ∧
    (0 < (shp b r (b - o) w l).2.getD k 0 → ¬ ∀ x, x ∈ ovs r o ((shp b r (b - o) w l).1.take k ++ [(shp b r (b - o) w l).1.getD k 0 + 1]) → x ≤ b)
  | [], o, w, _, _, _, k, hk => by simp at hk
  | c :: t, o, w, ho, hw, hl, k, hk => by
    have e := rfl_eq o b r
    have hz := mxz_max o
    have hs := snt_eq (rfl' (b - o) b r) (w + c)
    have hc := hl c List.mem_cons_self
    have E : shp b r (b - o) w (c :: t) = (snt (rfl' (b - o) b r) (w + c) :: (shp b r (rfl' (b - o) b r - snt (rfl' (b - o) b r) (w + c)) (w + c - snt (rfl' (b - o) b r) (w + c)) t).1,
      (w + c - snt (rfl' (b - o) b r) (w + c)) :: (shp b r (rfl' (b - o) b r - snt (rfl' (b - o) b r) (w + c)) (w + c - snt (rfl' (b - o) b r) (w + c)) t).2) := rfl
    rw [E]
    generalize snt (rfl' (b - o) b r) (w + c) = S at *
    cases k with
    | zero =>
      simp only [Nat.zero_add, List.take_succ_cons, List.take_zero, List.sum_cons, List.sum_nil, List.getD_cons_zero, List.nil_append]
      refine ⟨by omega, by omega, by omega, fun h a => ?_⟩
      have := a (mxz o + (S + 1) - r) (by simp [ovs])
      omega
    | succ k =>
      rw [show rfl' (b - o) b r - S = b - (mxz o + S - r) by omega]
      obtain ⟨h1, h2, h3, h4⟩ := shp_at t (mxz o + S - r) (w + c - S) (by omega) (by omega) (fun x hx => hl x (List.mem_cons_of_mem _ hx)) k (by simp at hk; omega)
      simp only [List.take_succ_cons, List.sum_cons, List.getD_cons_succ]
      refine ⟨by omega, h2, h3, fun h a => h4 h fun x hx => a x ?_⟩
      exact List.mem_cons_of_mem _ hx
theorem shp_same : ∀ (l : List Int) (o : Int), (∀ x, x ∈ l → 0 ≤ x) → (∀ x, x ∈ ovs r o l → x ≤ b) → (shp b r (b - o) 0 l).1 = l
  | [], o, _, _ => rfl
  | c :: t, o, hl, h => by
    have e := rfl_eq o b r
    have h0 : mxz o + c - r ≤ b := h _ List.mem_cons_self
    have hc := hl c List.mem_cons_self
    have hz := mxz_max o
    have hs := snt_eq (rfl' (b - o) b r) (0 + c)
    have hs' : snt (rfl' (b - o) b r) (0 + c) = c := by omega
    show snt (rfl' (b - o) b r) (0 + c) :: (shp b r (rfl' (b - o) b r - snt (rfl' (b - o) b r) (0 + c)) (0 + c - snt (rfl' (b - o) b r) (0 + c)) t).1 = _
    rw [hs', show rfl' (b - o) b r - c = b - (mxz o + c - r) by omega, show (0 : Int) + c - c = 0 by omega, shp_same t _ (fun x hx => hl x (List.mem_cons_of_mem _ hx)) fun x hx => h x (List.mem_cons_of_mem _ hx)]
end
/-! two streams together -/
theorem sum_zip : ∀ (x y : List Int), x.length = y.length → (List.zipWith (· + ·) x y).sum = x.sum + y.sum
  | [], [], _ => rfl
  | a :: x, c :: y, h => by
    rw [List.zipWith_cons_cons, List.sum_cons, List.sum_cons, List.sum_cons, sum_zip x y (by simpa using h)]
    omega
  | [], _ :: _, h => by simp at h
  | _ :: _, [], h => by simp at h
theorem K_add {x y : List Int} {b1 r1 b2 r2 : Int} (h : x.length = y.length) (h1 : K x b1 r1) (h2 : K y b2 r2) : K (List.zipWith (· + ·) x y) (b1 + b2) (r1 + r2) := by
  intro i n hi hn
  have hl : (List.zipWith (· + ·) x y).length = x.length := by rw [List.length_zipWith, h, Nat.min_self]
  rw [hl] at hi
  have a := h1 i n hi hn
  have c := h2 i n (by omega) hn
  rw [List.drop_zipWith, List.take_zipWith, sum_zip _ _ (by simp [List.length_take, List.length_drop]; omega), Int.add_mul]
  omega
/-! the least burst -/
theorem maxI_le : ∀ (l : List Int) (m b : Int), maxI m l ≤ b ↔ m ≤ b ∧ ∀ x, x ∈ l → x ≤ b
  | [], m, b => by simp [maxI]
  | x :: l, m, b => by
    show maxI (if m < x then x else m) l ≤ b ↔ _
    rw [maxI_le l]
    constructor
    · rintro ⟨h1, h2⟩
      refine ⟨by split at h1 <;> omega, fun y hy => ?_⟩
      rcases List.mem_cons.mp hy with rfl | hy
      · split at h1 <;> omega
      · exact h2 y hy
    · rintro ⟨h1, h2⟩
      have := h2 x List.mem_cons_self
      exact ⟨by split <;> omega, fun y hy => h2 y (List.mem_cons_of_mem _ hy)⟩
def least (r : Int) (l : List Int) : Int := maxI 0 (ovs r 0 l)
theorem least_K {r : Int} {l : List Int} {b : Int} (hb : 0 ≤ b) : least r l ≤ b ↔ K l b r := by
  unfold least
  rw [maxI_le, ovs_K]
  exact ⟨fun h => h.2, fun h => ⟨hb, h⟩⟩
theorem least_0 {r : Int} {l : List Int} : 0 ≤ least r l := ((maxI_le _ _ _).mp (Int.le_refl _)).1
theorem K_sum {r : Int} (hr : 0 ≤ r) {l : List Int} (hl : ∀ x, x ∈ l → 0 ≤ x) : K l l.sum r := by
  have hs : ∀ (l : List Int), (∀ x, x ∈ l → 0 ≤ x) → 0 ≤ l.sum := by
    intro l
    induction l with
    | nil => simp
    | cons c t ih =>
      intro h
      have := h c List.mem_cons_self
      have := ih fun x hx => h x (List.mem_cons_of_mem _ hx)
      rw [List.sum_cons]; omega
  intro i n h1 h2
  have e : l.sum = (l.take i).sum + (((l.drop i).take n).sum + ((l.drop i).drop n).sum) := by
    rw [← List.sum_append, List.take_append_drop, ← List.sum_append, List.take_append_drop]
  have a := hs (l.take i) fun x hx => hl x (List.mem_of_mem_take hx)
  have c := hs ((l.drop i).drop n) fun x hx => hl x (List.mem_of_mem_drop (List.mem_of_mem_drop hx))
  have d : 0 ≤ r * (n : Int) := Int.mul_nonneg hr (by omega)
  omega
theorem least_sum {r : Int} (hr : 0 ≤ r) {l : List Int} (hl : ∀ x, x ∈ l → 0 ≤ x) : least r l ≤ l.sum := by
  have hs : 0 ≤ l.sum := by
    induction l with
    | nil => simp
    | cons c t ih =>
      have := hl c List.mem_cons_self
      have := ih fun x hx => hl x (List.mem_cons_of_mem _ hx)
      rw [List.sum_cons]; omega
  exact (least_K hs).mpr (K_sum hr hl)
end Bk

set_option linter.all false
set_option maxHeartbeats 4000000
set_option maxRecDepth 20000
namespace M33
open Ev PySem Cv
variable {k : Nat} {s : Hs}
/-- a list or a tuple of ints -/
inductive Row : D → List Int → Prop
  | l (x : List Int) : Row (.list (iL x)) x
  | t (x : List Int) : Row (.tuple (iL x)) x
theorem Row.len {d : D} {l : List Int} (h : Row d l) : biE .len [d] s = .ok (.int (l.length : Int)) s := by
  cases h with
  | l => rw [len_lst, List.length_map]
  | t =>
    show Res.ok (PyData.int ((iL l).length : Int)) s = _
    rw [List.length_map]
theorem iL_get {l : List Int} {i : Nat} (h : i < l.length) : (iL l)[i]? = some (.int (l.getD i 0)) := by
  rw [List.getElem?_map, List.getD_eq_getElem?_getD, List.getElem?_eq_getElem h]; rfl
theorem Row.ix {d : D} {l : List Int} (R : Row d l) {i : Nat} (h : i < l.length) : ixA d (.int (i : Int)) s = .ok (.int (l.getD i 0)) s := by
  cases R with
  | l => exact ix_lst (iL_get h)
  | t => exact ix_tup (iL_get h)
theorem Row.lo {d : D} {l : List Int} (R : Row d l) (z : Nat) : ∃ v, sliceE d (some (z : Int)) none s = .ok v s ∧ Row v (l.drop z) ∧ zipE d v s = .ok (.fix (zipL (iL l) (iL (l.drop z)))) s := by
  cases R with
  | l =>
    refine ⟨.list (iL (l.drop z)), ?_, .l _, rfl⟩
    rw [slice_lst, cut_lo, ← List.map_drop]
  | t =>
    refine ⟨.tuple (iL (l.drop z)), ?_, .t _, rfl⟩
    rw [slice_tup, cut_lo, ← List.map_drop]
theorem Row.sum {d : D} {l : List Int} (R : Row d l) : biE .sum [d] s = .ok (.int l.sum) s := by
  cases R with
  | l =>
    show (match (lstD (.list (iL l)) s).bind intsD with | some l => Res.ok (PyData.int l.sum) s | none => .stuck) = _
    rw [show (lstD (.list (iL l)) s).bind intsD = intsD (iL l) from rfl, intsD_iL]
  | t =>
    show (match intsD (iL l) with | some l => Res.ok (PyData.int l.sum) s | none => .stuck) = _
    rw [intsD_iL]
theorem Row.hi {d : D} {l : List Int} (R : Row d l) (z : Nat) : ∃ v, sliceE d none (some (z : Int)) s = .ok v s ∧ Row v (l.take z) := by
  cases R with
  | l =>
    refine ⟨.list (iL (l.take z)), ?_, .l _⟩
    rw [slice_lst, cut_hi (by omega), Int.toNat_natCast, ← List.map_take]
  | t =>
    refine ⟨.tuple (iL (l.take z)), ?_, .t _⟩
    rw [slice_tup, cut_hi (by omega), Int.toNat_natCast, ← List.map_take]
theorem Row.mid {d : D} {l : List Int} (R : Row d l) {i z : Nat} (h : i + z ≤ l.length) : ∃ v, sliceE d (some (i : Int)) (some ((i : Int) + (z : Int))) s = .ok v s ∧ Row v ((l.drop i).take z) := by
  have c : ∀ {α : Type} (x : List α), x.length = l.length → cutD x (some (i : Int)) (some ((i : Int) + (z : Int))) = (x.drop i).take z := fun x hx => by
    have := cut_2 (l := x) (i := i) (j := i + z) (by omega) (by omega)
    rw [show ((i + z : Nat) : Int) = (i : Int) + (z : Int) by omega, show i + z - i = z by omega] at this
    exact this
  cases R with
  | l =>
    refine ⟨.list (iL ((l.drop i).take z)), ?_, .l _⟩
    rw [slice_lst, c _ (by rw [List.length_map]), ← List.map_drop, ← List.map_take]
  | t =>
    refine ⟨.tuple (iL ((l.drop i).take z)), ?_, .t _⟩
    rw [slice_tup, c _ (by rw [List.length_map]), ← List.map_drop, ← List.map_take]
theorem zip_get : ∀ (a b : List Int) (i : Nat) (x : D), (zipL (iL a) (iL b))[i]? = some x → i < a.length ∧ i < b.length ∧ x = .tuple [.int (a.getD i 0), .int (b.getD i 0)]
  | [], b, i, x, h => by cases b <;> cases h
  | _ :: _, [], i, x, h => by cases h
  | p :: a, q :: b, 0, x, h => by
    have h : some (PyData.tuple [.int p, .int q]) = some x := h
    cases h
    exact ⟨by simp, by simp, rfl⟩
  | p :: a, q :: b, i + 1, x, h => by
    obtain ⟨h1, h2, h3⟩ := zip_get a b i x h
    exact ⟨by simp; omega, by simp; omega, h3⟩
theorem zip_len : ∀ (a b : List Int), b.length ≤ a.length → (zipL (iL a) (iL b)).length = b.length
  | [], [], _ => rfl
  | [], _ :: _, h => absurd h (by simp)
  | _ :: _, [], _ => rfl
  | p :: a, q :: b, h => by
    show (zipL (iL a) (iL b)).length + 1 = b.length + 1
    rw [zip_len a b (by simpa using h)]
/-! greatest and least of a cell's or a list's ints -/
theorem max_cel {n : Nat} {l : List Int} (hn : s.h n = .lst (iL l)) (h : l ≠ []) : biE .max [cel n] s = .ok (.int (mxl l)) s := by
  show (match (lstD (cel n) s).bind intsD with | some (n :: ns) => Res.ok (PyData.int (maxI n ns)) s | _ => .stuck) = _
  rw [lst_some hn]
  rw [show (some (iL l)).bind intsD = intsD (iL l) from rfl, intsD_iL]
  cases l with
  | nil => exact absurd rfl h
  | cons a l => rfl
theorem min_cel {n : Nat} {l : List Int} (hn : s.h n = .lst (iL l)) (h : l ≠ []) : biE .min [cel n] s = .ok (.int (mnl l)) s := by
  show (match (lstD (cel n) s).bind intsD with | some (n :: ns) => Res.ok (PyData.int (minI n ns)) s | _ => .stuck) = _
  rw [lst_some hn]
  rw [show (some (iL l)).bind intsD = intsD (iL l) from rfl, intsD_iL]
  cases l with
  | nil => exact absurd rfl h
  | cons a l => rfl
theorem max_lst {l : List Int} (h : l ≠ []) : biE .max [.list (iL l)] s = .ok (.int (mxl l)) s := by
  show (match (lstD (.list (iL l)) s).bind intsD with | some (n :: ns) => Res.ok (PyData.int (maxI n ns)) s | _ => .stuck) = _
  rw [show (lstD (.list (iL l)) s).bind intsD = intsD (iL l) from rfl, intsD_iL]
  cases l with
  | nil => exact absurd rfl h
  | cons a l => rfl
theorem min_lst {l : List Int} (h : l ≠ []) : biE .min [.list (iL l)] s = .ok (.int (mnl l)) s := by
  show (match (lstD (.list (iL l)) s).bind intsD with | some (n :: ns) => Res.ok (PyData.int (minI n ns)) s | _ => .stuck) = _
  rw [show (lstD (.list (iL l)) s).bind intsD = intsD (iL l) from rfl, intsD_iL]
  cases l with
  | nil => exact absurd rfl h
  | cons a l => rfl
theorem xmx_row {d : D} {l : List Int} (R : Row d l) (h : l ≠ []) : xE .mx d [] s = .ok (.int (mxl l)) s := by
  have e : (seqD d s).bind intsD = some l := by cases R <;> exact intsD_iL _
  show (match (seqD d s).bind intsD with | some (n :: ns) => Res.ok (PyData.int (maxI n ns)) s | _ => _) = _
  rw [e]
  cases l with
  | nil => exact absurd rfl h
  | cons a l => rfl
theorem xmn_row {d : D} {l : List Int} (R : Row d l) (h : l ≠ []) : xE .mn d [] s = .ok (.int (mnl l)) s := by
  have e : (seqD d s).bind intsD = some l := by cases R <;> exact intsD_iL _
  show (match (seqD d s).bind intsD with | some (n :: ns) => Res.ok (PyData.int (minI n ns)) s | _ => _) = _
  rw [e]
  cases l with
  | nil => exact absurd rfl h
  | cons a l => rfl
/-! in_slots_on_end -/
theorem isl_loop (T : Nat → List D → Hs → Res D) (d : D) (l : List Int) (z f : Nat) (hz : z ≤ l.length) (hl : l.length < 900) (s : Hs) (hf : s.h f = .lst (iL [win l z 0])) :
    ∃ ρ' s', forN (fturn P T 100000 (.ttup (.cons (.tslot 3) (.cons (.tslot 4) .nil))) c10_b0) turnsN (.fix (zipL (iL l) (iL (l.drop z)))) [some d, some (.int (z : Int)), some (cel f), none, none] s = .nx ρ' s' ∧ look ρ' 2 = some (cel f) ∧
      s'.h f = .lst (iL (wins l z)) ∧ s'.nx = s.nx ∧ ∀ m, m ≠ f → s'.h m = s.h m := by
  have ln : (zipL (iL l) (iL (l.drop z))).length = l.length - z := by rw [zip_len _ _ (by rw [List.length_drop]; omega), List.length_drop]
  obtain ⟨ρ', s', e, v3, v4, e2, e3, e4, e5⟩ := for_rel (turn := fturn P T 100000 (.ttup (.cons (.tslot 3) (.cons (.tslot 4) .nil))) c10_b0) (fun i ρ t => ∃ v3 v4, ρ = [some d, some (.int (z : Int)), some (cel f), v3, v4] ∧ t.h f = .lst (iL ((List.range (i + 1)).map (win l z))) ∧ t.nx = s.nx ∧ ∀ m, m ≠ f → t.h m = s.h m)
    (zipL (iL l) (iL (l.drop z))) turnsN 0 [some d, some (.int (z : Int)), some (cel f), none, none] s (by rw [ln]; show _ < 1000000; omega) ⟨none, none, rfl, hf, rfl, fun _ _ => rfl⟩ (fun j x ρ t hx hr => by
      obtain ⟨v3, v4, rfl, h1, h2, h3⟩ := hr
      obtain ⟨x1, x2, rfl⟩ := zip_get _ _ _ _ hx
      rw [List.length_drop] at x2
      rw [Nat.zero_add] at h1
      have eb : (l.drop z).getD j 0 = l.getD (j + z) 0 := by rw [List.getD_eq_getElem?_getD, List.getD_eq_getElem?_getD, List.getElem?_drop, Nat.add_comm]
      rw [eb]
      have ew : win l z j + l.getD (j + z) 0 - l.getD j 0 = win l z (j + 1) := by
        rw [win_pre, win_pre, show j + 1 + z = j + z + 1 by omega, pre_s (l := l) (i := j + z) (by omega), pre_s (l := l) (i := j) x1]
        omega
      have lst : iL ((List.range (j + 1)).map (win l z)) = iL ((List.range j).map (win l z)) ++ [.int (win l z j)] := by rw [List.range_succ, List.map_append]; simp [iL]
      have la : ixA (cel f) (.int (-1)) t = .ok (.int (win l z j)) t := ix_last (by rw [h1, lst])
      have ap := app_cel (s := t) (d := .int (win l z (j + 1))) h1 (by rw [List.length_map, List.length_map, List.length_range]; omega)
      have lf := lst_is h1
      generalize hA : l.getD j 0 = A at ew ⊢
      generalize hB : l.getD (j + z) 0 = B at ew ⊢
      have g : evE P T (.bmeth .append (.slot 2) (.cons (.bin .sub (.bin .add (.ix (.slot 2) (.neg (.cst (.int 1)))) (.slot 4)) (.slot 3)) .nil)) [some d, some (.int (z : Int)), some (cel f), some (.int A), some (.int B)] t = .ok .none (t.set f (.lst (iL ((List.range (j + 1)).map (win l z)) ++ [.int (win l z (j + 1))]))) := by
        simp only [evE, evA, bnd_ok, look_z, look_s, lf, if_true, neg_1, la, add_i, sub_i, ew, ap]
      refine ⟨_, t.set f (.lst (iL ((List.range (j + 1)).map (win l z)) ++ [.int (win l z (j + 1))])), (seq_nx (expr_e g)).trans done_nx, some (.int A), some (.int B), rfl, ?_, h2, fun m hm => (set_of hm).trans (h3 m hm)⟩
      rw [set_at, List.range_succ (n := 0 + j + 1), List.map_append, show 0 + j + 1 = j + 1 by omega]
      simp [iL])
  refine ⟨ρ', s', e, by rw [e2]; rfl, ?_, e4, e5⟩
  rw [e3, ln]
  unfold wins
  rw [show 0 + (l.length - z) + 1 = l.length + 1 - z by omega]
theorem isl_at {d : D} {l : List Int} {z : Nat} (R : Row d l) (hz : z ≤ l.length) (hl : l.length < 900) : ∃ s', Ev.run P 100000 (k + 1) 10 [d, .int (z : Int)] s = .ok (cel s.nx) s' ∧ s'.h s.nx = .lst (iL (wins l z)) ∧ s.nx < s'.nx ∧ Fr s s' := by
  generalize hT : Ev.run P 100000 k = T
  obtain ⟨v, v1, v2⟩ := R.hi (s := s) z
  have sm := v2.sum (s := s)
  obtain ⟨ρ', s', e1, e0, e2, e3, e4⟩ := isl_loop T d l z s.nx hz hl (s.push (.lst [.int (win l z 0)])) push_at
  refine ⟨s', run_ret (d := ⟨2, 5, c10⟩) rfl rfl ?_, e2, by rw [e3, push_nx]; omega, ⟨by rw [e3, push_nx]; omega, fun m hm => (e4 m (by omega)).trans (push_of (by omega))⟩⟩
  rw [hT]
  show evS P T 100000 c10 [some d, some (.int (z : Int)), none, none, none] s = _
  have sm : biE .sum [v] s = .ok (.int (win l z 0)) s := sm
  unfold c10
  refine (seq_nx (asg_i (d := cel s.nx) (s1 := s.push (.lst [.int (win l z 0)])) ?_ rfl)).trans ?_
  · simp only [evE, evN, evA, bnd_ok, look_z, look_s, optI, v1, sm, List.length_cons, List.length_nil]
    rfl
  obtain ⟨w, w1, w2, w3⟩ := R.lo (s := s.push (.lst [.int (win l z 0)])) z
  refine (seq_nx (ρ1 := ρ') (s1 := s') ?_).trans (seq_ret (ret_e (by rw [evE, e0])))
  have I : evI P T (.izip (.slot 0) (.slice (.slot 0) (.cons (.slot 1) .nil) .nil)) [some d, some (.int (z : Int)), some (cel s.nx), none, none] (s.push (.lst [.int (win l z 0)])) = .ok (.fix (zipL (iL l) (iL (l.drop z)))) (s.push (.lst [.int (win l z 0)])) := by
    simp only [evI, evE, evA, bnd_ok, look_z, look_s, optI, w1, w3]
  exact (fors_ok I).trans e1
/-! tightest, surely -/
theorem tg_comp (T : Nat → List D → Hs → Res D) (d : D) (l : List Int) (hl : l.length < 900) (b : Bi) (hb : ∀ (n : Nat) (x : List Int) (t : Hs), t.h n = .lst (iL x) → x ≠ [] → biE b [cel n] t = .ok (.int (if b = .max then mxl x else mnl x)) t)
    (hR : Row d l) (hT : ∀ (z : Nat) (t : Hs), z ≤ l.length → ∃ t', T 10 [d, .int (z : Int)] t = .ok (cel t.nx) t' ∧ t'.h t.nx = .lst (iL (wins l z)) ∧ t.nx < t'.nx ∧ Fr t t') :
    ∃ s', evN P T (.comp [1] (.tslot 1) (.irange (.cons (.bin .add (.bcall .len (.cons (.slot 0) .nil)) (.cst (.int 1))) .nil)) (.cst (.bool true)) (.bcall b (.cons (.call 10 (.cons (.slot 0) (.cons (.slot 1) .nil))) .nil))) [some d, none] s =
      .ok (iL ((List.range (l.length + 1)).map fun z => if b = .max then mxl (wins l z) else mnl (wins l z))) s' ∧ Fr s s' := by
  have ln := hR.len (s := s)
  have I : evI P T (.irange (.cons (.bin .add (.bcall .len (.cons (.slot 0) .nil)) (.cst (.int 1))) .nil)) [some d, none] s = .ok (.fix ((List.range (l.length + 1)).map fun (j : Nat) => .int (j : Int))) s := by
    refine irange_n ?_ (by omega)
    simp only [evA, evE, bnd_ok, look_z, ln, add_i]
    rfl
  obtain ⟨acc', s', e, e1, e2⟩ := comp_rel (item := itemF P T [1] (.tslot 1) (.cst (.bool true)) (.bcall b (.cons (.call 10 (.cons (.slot 0) (.cons (.slot 1) .nil))) .nil)) [some d, none]) (fun i t acc => acc = iL ((List.range i).map fun z => if b = .max then mxl (wins l z) else mnl (wins l z)) ∧ Fr s t)
    ((List.range (l.length + 1)).map fun (j : Nat) => .int (j : Int)) turnsN 0 [] s (by rw [List.length_map, List.length_range]; show _ < 1000000; omega) (by rw [List.length_map, List.length_range, List.length_nil]; omega) ⟨rfl, Fr.refl⟩ (fun j x t acc hx hr => by
      obtain ⟨rfl, h2⟩ := hr
      have hj := (List.getElem?_eq_some_iff.mp hx).1
      rw [List.length_map, List.length_range] at hj
      rw [List.getElem?_map, List.getElem?_range hj] at hx
      cases hx
      obtain ⟨t', e1, e2, e3, e4⟩ := hT j t (by omega)
      have m := hb _ _ t' e2 (wins_ne (by omega))
      refine ⟨.int (if b = .max then mxl (wins l j) else mnl (wins l j)), t', ?_, ?_, h2.trans e4⟩
      · refine item_yes (ρ1 := [some d, some (.int (j : Int))]) rfl (by simp only [evE]) ?_
        simp only [evE, evA, bnd_ok, look_z, look_s, e1, m]
      · rw [Nat.zero_add, List.range_succ, List.map_append]
        simp [iL])
  refine ⟨s', ?_, e2⟩
  rw [comp_eq I, e, e1, List.length_map, List.length_range, Nat.zero_add]
theorem tg_at {d : D} {l : List Int} (R : Row d l) (hl : l.length < 900) : ∃ s', Ev.run P 100000 (k + 2) 11 [d] s = .ok (.tuple (iL (tg l))) s' ∧ Fr s s' := by
  have hI := fun (z : Nat) (t : Hs) (hz : z ≤ l.length) => isl_at (k := k) (s := t) R hz hl
  generalize hT : Ev.run P 100000 (k + 1) = T at hI
  obtain ⟨s', e, F⟩ := tg_comp (s := s) T d l hl .max (fun n x t h1 h2 => by rw [if_pos rfl]; exact max_cel h1 h2) R hI
  refine ⟨s', run_ret (d := ⟨1, 2, c11⟩) rfl rfl ?_, F⟩
  rw [hT]
  show evS P T 100000 c11 [some d, none] s = _
  have e : evN P T c11_m0 [some d, none] s = .ok (iL (tg l)) s' := by
    refine e.trans ?_
    unfold tg
    congr 3
  unfold c11
  refine seq_ret (ret_e ?_)
  simp only [evE, evA, bnd_ok, e, tup_lst]
theorem sr_at {d : D} {l : List Int} (R : Row d l) (hl : l.length < 900) : ∃ s', Ev.run P 100000 (k + 2) 13 [d] s = .ok (.tuple (iL (sr l))) s' ∧ Fr s s' := by
  have hI := fun (z : Nat) (t : Hs) (hz : z ≤ l.length) => isl_at (k := k) (s := t) R hz hl
  generalize hT : Ev.run P 100000 (k + 1) = T at hI
  obtain ⟨s', e, F⟩ := tg_comp (s := s) T d l hl .min (fun n x t h1 h2 => by rw [if_neg (by decide)]; exact min_cel h1 h2) R hI
  refine ⟨s', run_ret (d := ⟨1, 2, c13⟩) rfl rfl ?_, F⟩
  rw [hT]
  show evS P T 100000 c13 [some d, none] s = _
  have e : evN P T c13_m0 [some d, none] s = .ok (iL (sr l)) s' := by
    refine e.trans ?_
    unfold sr
    congr 3
  unfold c13
  refine seq_ret (ret_e ?_)
  simp only [evE, evA, bnd_ok, e, tup_lst]
end M33

set_option linter.all false
set_option maxHeartbeats 4000000
set_option maxRecDepth 20000
namespace M33
open Ev PySem Cv
variable {k : Nat} {s : Hs}
/-! lists of pairs; building over them -/
def pD (p : Int × Int) : D := .tuple [.int p.1, .int p.2]
theorem zip_map : ∀ a b : List Int, zipL (iL a) (iL b) = (a.zip b).map pD
  | [], b => by cases b <;> rfl
  | _ :: _, [] => rfl
  | x :: a, y :: b => by
    show PyData.tuple [.int x, .int y] :: zipL (iL a) (iL b) = _
    rw [zip_map a b]; rfl
theorem comp_enc {α : Type} {item : D → Hs → Res (Option D)} {enc f : α → D} : ∀ (L : List α) (m : Nat) (acc : List D), (∀ a, a ∈ L → item (enc a) s = .ok (some (f a)) s) → L.length < m → acc.length + L.length < 1000000 →
    compN item m (.fix (L.map enc)) acc s = .ok (acc ++ L.map f) s
  | [], 0, acc, _, h, _ => absurd h (by simp)
  | [], m + 1, acc, _, _, _ => by
    unfold compN
    simp only [Cur.next, List.map_nil, List.append_nil]
  | x :: l, 0, acc, _, h, _ => absurd h (by simp)
  | x :: l, m + 1, acc, h, hm, ha => by
    simp only [List.length_cons] at hm ha
    rw [List.map_cons]
    unfold compN
    simp only [Cur.next, h x List.mem_cons_self, bnd_ok]
    rw [show small acc.length = true from Nat.blt_eq.mpr (by omega), if_pos rfl, comp_enc l m _ (fun y hy => h y (List.mem_cons_of_mem _ hy)) (by omega) (by rw [List.length_append, List.length_singleton]; omega)]
    simp only [List.map_cons, List.append_assoc, List.singleton_append]
theorem comp_of {α : Type} {T : Nat → List D → Hs → Res D} {own : List Nat} {tg it cond e : C} {ρ : Ev.Env} {s1 : Hs} {L : List α} {enc f : α → D} (h : evI P T it ρ s = .ok (.fix (L.map enc)) s1) (hi : ∀ a, a ∈ L → itemF P T own tg cond e ρ (enc a) s1 = .ok (some (f a)) s1) (hl : L.length < 900000) :
    evN P T (.comp own tg it cond e) ρ s = .ok (L.map f) s1 := by
  rw [comp_eq h, comp_enc L turnsN [] hi (by show _ < 1000000; omega) (by rw [List.length_nil]; omega), List.nil_append]
theorem iL_map {α : Type} {L : List α} {f : α → Int} : (L.map fun a => PyData.int (f a)) = iL (L.map f) := by rw [iL, List.map_map]; rfl
theorem zip_le {a b : List Int} : (a.zip b).length ≤ a.length := by rw [List.length_zip]; omega
theorem tg_len {l : List Int} : (tg l).length = l.length + 1 := by simp [tg]
theorem sr_len {l : List Int} : (sr l).length = l.length + 1 := by simp [sr]
/-! is_under -/
def und (l c : List Int) : Bool := ((tg l).zip c).all fun p => decide (p.1 ≤ p.2)
theorem bools_of : ∀ l : List Bool, boolsD (l.map PyData.bool) = some l := fun l => by
  induction l with
  | nil => rfl
  | cons i l ih => show (boolsD (l.map PyData.bool)).map (i :: ·) = _; rw [ih]; rfl
theorem all_lst {l : List Bool} : biE .all [.list (l.map PyData.bool)] s = .ok (.bool (l.all id)) s := by
  show (match (lstD (.list (l.map PyData.bool)) s).bind boolsD with | some l => Res.ok (PyData.bool (l.all id)) s | none => .stuck) = _
  rw [show (lstD (.list (l.map PyData.bool)) s).bind boolsD = boolsD (l.map PyData.bool) from rfl, bools_of]
theorem any_lst {l : List Bool} : biE .any [.list (l.map PyData.bool)] s = .ok (.bool (l.any id)) s := by
  show (match (lstD (.list (l.map PyData.bool)) s).bind boolsD with | some l => Res.ok (PyData.bool (l.any id)) s | none => .stuck) = _
  rw [show (lstD (.list (l.map PyData.bool)) s).bind boolsD = boolsD (l.map PyData.bool) from rfl, bools_of]
theorem zip_t {a b : List Int} : zipE (.tuple (iL a)) (.tuple (iL b)) s = .ok (.fix ((a.zip b).map pD)) s := by rw [← zip_map]; rfl
theorem under_at {d : D} {l c : List Int} (R : Row d l) (hl : l.length < 900) : ∃ s', Ev.run P 100000 (k + 3) 8 [d, .tuple (iL c)] s = .ok (.bool (und l c)) s' ∧ Fr s s' := by
  obtain ⟨s', e1, e2⟩ := tg_at (k := k) (s := s) R hl
  refine ⟨s', run_ret (d := ⟨2, 4, c8⟩) rfl rfl ?_, e2⟩
  generalize Ev.run P 100000 (k + 2) = T at e1
  show evS P T 100000 c8 [some d, some (.tuple (iL c)), none, none] s = _
  have q : evN P T c8_m0 [some d, some (.tuple (iL c)), none, none] s = .ok (((tg l).zip c).map fun p => PyData.bool (decide (p.1 ≤ p.2))) s' := by
    refine comp_of (enc := pD) ?_ (fun p _ => ?_) (by have := zip_le (a := tg l) (b := c); rw [tg_len] at this; omega)
    · simp only [evI, evE, evA, bnd_ok, look_z, look_s, e1, zip_t]
    · refine item_yes (ρ1 := [some d, some (.tuple (iL c)), some (.int p.1), some (.int p.2)]) rfl (by simp only [evE]) ?_
      simp only [evE, bnd_ok, look_z, look_s, le_i]
  have a : biE .all [.list (((tg l).zip c).map fun p => PyData.bool (decide (p.1 ≤ p.2)))] s' = .ok (.bool (und l c)) s' := by
    have z := all_lst (s := s') (l := ((tg l).zip c).map fun p => decide (p.1 ≤ p.2))
    rw [List.map_map] at z
    refine z.trans ?_
    unfold und
    rw [List.all_map]
    rfl
  unfold c8
  refine seq_ret (ret_e ?_)
  simp only [evE, evA, q, bnd_ok, a]
/-! most_queue -/
def dif (a b : List Int) : List Int := (a.zip b).map fun p => p.1 - p.2
theorem queue_at {a b : List Int} (ha : a.length < 900) (h : dif a b ≠ []) : Ev.run P 100000 (k + 1) 9 [.tuple (iL a), .tuple (iL b)] s = .ok (.int (mxl (dif a b))) s := by
  refine run_ret (d := ⟨2, 4, c9⟩) rfl rfl ?_
  generalize Ev.run P 100000 k = T
  show evS P T 100000 c9 [some (.tuple (iL a)), some (.tuple (iL b)), none, none] s = _
  have q : evN P T c9_m0 [some (.tuple (iL a)), some (.tuple (iL b)), none, none] s = .ok (iL (dif a b)) s := by
    rw [dif, ← iL_map]
    refine comp_of (enc := pD) ?_ (fun p _ => ?_) (by have := zip_le (a := a) (b := b); omega)
    · simp only [evI, evE, evA, bnd_ok, look_z, look_s, zip_t]
    · refine item_yes (ρ1 := [some (.tuple (iL a)), some (.tuple (iL b)), some (.int p.1), some (.int p.2)]) rfl (by simp only [evE]) ?_
      simp only [evE, bnd_ok, look_z, look_s, sub_i]
  have m : twoE .maxd [.list (iL (dif a b)), .int 0] s = .ok (.int (mxl (dif a b))) s := by
    show (match (seqD (.list (iL (dif a b))) s).bind intsD with | some ns => Res.ok (defI true (.int 0) ns) s | none => .stuck) = _
    rw [show (seqD (.list (iL (dif a b))) s).bind intsD = intsD (iL (dif a b)) from rfl, intsD_iL]
    cases hd : dif a b with
    | nil => exact absurd hd h
    | cons x y => rfl
  unfold c9
  refine seq_ret (ret_e ?_)
  simp only [evE, evA, q, bnd_ok, m]
/-! folded -/
def fold1 (a b : List Int) (z : Nat) : List Int := (List.range (z + 1)).map fun p => a.getD p 0 + b.getD (z - p) 0
def fold (a b : List Int) : List Int := (List.range (min a.length b.length)).map fun z => mnl (fold1 a b z)
theorem fold1_ne {a b : List Int} {z : Nat} : fold1 a b z ≠ [] := fun e => by
  have := congrArg List.length e
  simp [fold1] at this
theorem fold_at {d e : D} {a b : List Int} (R : Row d a) (R2 : Row e b) (ha : a.length < 900) (hb : b.length < 900) : Ev.run P 100000 (k + 1) 7 [d, e] s = .ok (.tuple (iL (fold a b))) s := by
  refine run_ret (d := ⟨2, 5, c7⟩) rfl rfl ?_
  generalize Ev.run P 100000 k = T
  show evS P T 100000 c7 [some d, some e, none, none, none] s = _
  have l1 := R.len (s := s)
  have l2 := R2.len (s := s)
  have mn : biE .min [.int (a.length : Int), .int (b.length : Int)] s = .ok (.int ((min a.length b.length : Nat) : Int)) s := by
    show Res.ok (PyData.int (if (b.length : Int) < (a.length : Int) then (b.length : Int) else (a.length : Int))) s = _
    congr 2
    split <;> omega
  have inner : ∀ z : Nat, z < min a.length b.length → evE P T (.bcall .min (.cons (.newT c7_m0) .nil)) [some d, some e, some (rngD 0 ((min a.length b.length : Nat) : Int)), some (.int (z : Int)), none] s = .ok (.int (mnl (fold1 a b z))) s := fun z hz => by
    have q : evN P T c7_m0 [some d, some e, some (rngD 0 ((min a.length b.length : Nat) : Int)), some (.int (z : Int)), none] s = .ok (iL (fold1 a b z)) s := by
      rw [fold1, ← iL_map]
      refine comp_of (enc := fun (p : Nat) => PyData.int (p : Int)) (irange_n (n := z + 1) ?_ (by omega)) (fun p hp => ?_) (by rw [List.length_range]; omega)
      · simp only [evA, evE, bnd_ok, look_z, look_s, add_i]; rfl
      · have hp := List.mem_range.mp hp
        refine item_yes (ρ1 := [some d, some e, some (rngD 0 ((min a.length b.length : Nat) : Int)), some (.int (z : Int)), some (.int (p : Int))]) rfl (by simp only [evE]) ?_
        have i1 := R.ix (s := s) (i := p) (by omega)
        have i2 := R2.ix (s := s) (i := z - p) (by omega)
        rw [show ((z - p : Nat) : Int) = (z : Int) - (p : Int) by omega] at i2
        simp only [evE, bnd_ok, look_z, look_s, sub_i, i1, i2, add_i]
    have m := min_lst (s := s) (fold1_ne (a := a) (b := b) (z := z))
    simp only [evE, evA, q, bnd_ok, m]
  have q : evN P T c7_m1 [some d, some e, some (rngD 0 ((min a.length b.length : Nat) : Int)), none, none] s = .ok (iL (fold a b)) s := by
    rw [fold, ← iL_map]
    refine comp_of (enc := fun (p : Nat) => PyData.int (p : Int)) (L := List.range (min a.length b.length)) ?_ (fun z hz => ?_) (by rw [List.length_range]; omega)
    · rw [evI, evE, look_s, look_s, look_z]
      dsimp only
      rw [bnd_ok]
      show (if (okI 0 && okI ((min a.length b.length : Nat) : Int)) = true then Res.ok (Cur.fix (rangeL 0 ((min a.length b.length : Nat) : Int))) s else .stuck) = _
      rw [okI_n (by omega), show okI 0 = true from rfl, range_n]
      rfl
    · have hz := List.mem_range.mp hz
      exact item_yes (ρ1 := [some d, some e, some (rngD 0 ((min a.length b.length : Nat) : Int)), some (.int (z : Int)), none]) rfl (by simp only [evE]) (inner z hz)
  have two : ∀ n : Int, twoE .rngv [.int n] s = .ok (rngD 0 n) s := fun _ => rfl
  unfold c7
  refine (seq_nx (asg_i (d := rngD 0 ((min a.length b.length : Nat) : Int)) (s1 := s) ?_ rfl)).trans ?_
  · simp only [evE, evA, bnd_ok, look_z, look_s, l1, l2, mn, two]
  · refine seq_ret (ret_e ?_)
    show evE P T _ [some d, some e, some (rngD 0 ((min a.length b.length : Nat) : Int)), none, none] s = _
    simp only [evE, evA, bnd_ok, q, tup_lst]
/-! brought, served_by -/
theorem brought_at {d : D} {l : List Int} (R : Row d l) {i : Nat} (h : i < l.length) : Ev.run P 100000 (k + 1) 5 [d, .int (i : Int)] s = .ok (.int (l.getD i 0)) s := by
  refine run_ret (d := ⟨2, 2, c5⟩) rfl rfl ?_
  generalize Ev.run P 100000 k = T
  show evS P T 100000 c5 [some d, some (.int (i : Int))] s = _
  have ln := R.len (s := s)
  have ix := R.ix (s := s) h
  have c : decide ((i : Int) < (l.length : Int)) = true := decide_eq_true (by omega)
  unfold c5
  refine seq_ret (ret_e ?_)
  simp only [evE, evA, bnd_ok, look_z, look_s, ln, lt_i, c, ix]
def fO (r o : List Int) (i : Nat) : Int := gone r o (i + 1) - gone r o i
def fW (r o : List Int) (i : Nat) : Int := pre r (i + 1) - gone r o (i + 1)
theorem srv_loop (T : Nat → List D → Hs → Res D) {d e : D} {r o : List Int} (R : Row d r) (R2 : Row e o) (h : r.length = o.length) (hl : r.length < 900) (f g : Nat) (hfg : f ≠ g) (s : Hs) (hf : s.h f = .lst []) (hg : s.h g = .lst [])
    (hT : ∀ (x : D) (l : List Int) (i : Nat) (t : Hs), Row x l → i < l.length → T 5 [x, .int (i : Int)] t = .ok (.int (l.getD i 0)) t) :
    ∃ ρ' s', forN (fturn P T 100000 (.tslot 5) c12_b0) turnsN (.fix ((List.range r.length).map fun (j : Nat) => .int (j : Int))) [some d, some e, some (.int 0), some (cel f), some (cel g), none, none] s = .nx ρ' s' ∧ look ρ' 3 = some (cel f) ∧ look ρ' 4 = some (cel g) ∧
      s'.h f = .lst (iL (outL r o)) ∧ s'.h g = .lst (iL (wtL r o)) ∧ s'.nx = s.nx ∧ ∀ m, m ≠ f → m ≠ g → s'.h m = s.h m := by
  obtain ⟨ρ', s', e0, v5, v6, e1, e2, e3, e4, e5⟩ := for_rel (turn := fturn P T 100000 (.tslot 5) c12_b0) (fun i ρ t => ∃ v5 v6, ρ = [some d, some e, some (.int (pre r i - gone r o i)), some (cel f), some (cel g), v5, v6] ∧ t.h f = .lst (iL ((List.range i).map (fO r o))) ∧ t.h g = .lst (iL ((List.range i).map (fW r o))) ∧ t.nx = s.nx ∧ ∀ m, m ≠ f → m ≠ g → t.h m = s.h m)
    ((List.range r.length).map fun (j : Nat) => .int (j : Int)) turnsN 0 [some d, some e, some (.int 0), some (cel f), some (cel g), none, none] s (by rw [List.length_map, List.length_range]; show _ < 1000000; omega) ⟨none, none, by simp [pre, gone], hf, hg, rfl, fun _ _ _ => rfl⟩ (fun j x ρ t hx hr => by
      obtain ⟨v5, v6, rfl, h1, h2, h3, h4⟩ := hr
      have hj := (List.getElem?_eq_some_iff.mp hx).1
      rw [List.length_map, List.length_range] at hj
      rw [List.getElem?_map, List.getElem?_range hj] at hx
      cases hx
      rw [Nat.zero_add] at h1 h2 ⊢
      have b1 := hT d r j t R hj
      have b2 := hT e o j t R2 (by omega)
      have p := pre_s hj
      have w1 : pre r j - gone r o j + r.getD j 0 = pre r (j + 1) - gone r o j := by omega
      have w2 : (if o.getD j 0 < pre r (j + 1) - gone r o j then o.getD j 0 else pre r (j + 1) - gone r o j) = fO r o j := by
        unfold fO
        rw [gone]
        split <;> split <;> omega
      have w3 : pre r (j + 1) - gone r o j - fO r o j = fW r o j := by unfold fO fW; omega
      have mn : biE .min [.int (pre r (j + 1) - gone r o j), .int (o.getD j 0)] t = .ok (.int (fO r o j)) t := by
        show Res.ok (PyData.int (if o.getD j 0 < pre r (j + 1) - gone r o j then o.getD j 0 else pre r (j + 1) - gone r o j)) t = _
        rw [w2]
      have lf := lst_is h1
      have ap := app_cel (s := t) (d := .int (fO r o j)) h1 (by rw [List.length_map, List.length_map, List.length_range]; omega)
      generalize ht1 : t.set f (.lst (iL ((List.range j).map (fO r o)) ++ [.int (fO r o j)])) = t1 at ap
      have g1 : t1.h g = .lst (iL ((List.range j).map (fW r o))) := by rw [← ht1, set_of (fun z => hfg z.symm)]; exact h2
      have lg := lst_is g1
      have ap2 := app_cel (s := t1) (d := .int (fW r o j)) g1 (by rw [List.length_map, List.length_map, List.length_range]; omega)
      generalize hA : pre r j - gone r o j = A at w1 ⊢
      generalize hB : pre r (j + 1) - gone r o j = B at w1 w3 mn
      generalize hO : fO r o j = O at w3 mn ap ht1
      generalize hW : fW r o j = W at w3 ap2
      have s1 : evS P T 100000 (.asg (.tslot 2) (.bin .add (.slot 2) (.call 5 (.cons (.slot 0) (.cons (.slot 5) .nil))))) [some d, some e, some (.int A), some (cel f), some (cel g), some (.int (j : Int)), v6] t = .nx [some d, some e, some (.int B), some (cel f), some (cel g), some (.int (j : Int)), v6] t :=
        asg_i (d := .int B) (by simp only [evE, evA, bnd_ok, look_z, look_s, b1, add_i, w1]) rfl
      have s2 : evS P T 100000 (.asg (.tslot 6) (.bcall .min (.cons (.slot 2) (.cons (.call 5 (.cons (.slot 1) (.cons (.slot 5) .nil))) .nil)))) [some d, some e, some (.int B), some (cel f), some (cel g), some (.int (j : Int)), v6] t = .nx [some d, some e, some (.int B), some (cel f), some (cel g), some (.int (j : Int)), some (.int O)] t :=
        asg_i (d := .int O) (by simp only [evE, evA, bnd_ok, look_z, look_s, b2, mn]) rfl
      have s3 : evS P T 100000 (.asg (.tslot 2) (.bin .sub (.slot 2) (.slot 6))) [some d, some e, some (.int B), some (cel f), some (cel g), some (.int (j : Int)), some (.int O)] t = .nx [some d, some e, some (.int W), some (cel f), some (cel g), some (.int (j : Int)), some (.int O)] t :=
        asg_i (d := .int W) (by simp only [evE, evA, bnd_ok, look_z, look_s, sub_i, w3]) rfl
      have s4 : evS P T 100000 (.expr (.bmeth .append (.slot 3) (.cons (.slot 6) .nil))) [some d, some e, some (.int W), some (cel f), some (cel g), some (.int (j : Int)), some (.int O)] t = .nx [some d, some e, some (.int W), some (cel f), some (cel g), some (.int (j : Int)), some (.int O)] t1 :=
        expr_e (d := .none) (by simp only [evE, evA, bnd_ok, look_z, look_s, lf, if_true, ap])
      have s5 : evS P T 100000 (.expr (.bmeth .append (.slot 4) (.cons (.slot 2) .nil))) [some d, some e, some (.int W), some (cel f), some (cel g), some (.int (j : Int)), some (.int O)] t1 = .nx [some d, some e, some (.int W), some (cel f), some (cel g), some (.int (j : Int)), some (.int O)] (t1.set g (.lst (iL ((List.range j).map (fW r o)) ++ [.int W]))) :=
        expr_e (d := .none) (by simp only [evE, evA, bnd_ok, look_z, look_s, lg, if_true, ap2])
      refine ⟨[some d, some e, some (.int W), some (cel f), some (cel g), some (.int (j : Int)), some (.int O)], t1.set g (.lst (iL ((List.range j).map (fW r o)) ++ [.int W])), ?_, some (.int (j : Int)), some (.int O), ?_, ?_, ?_, ?_, ?_⟩
      · show evS P T 100000 c12_b0 [some d, some e, some (.int A), some (cel f), some (cel g), some (.int (j : Int)), v6] t = _
        unfold c12_b0
        exact (seq_nx s1).trans ((seq_nx s2).trans ((seq_nx s3).trans ((seq_nx s4).trans ((seq_nx s5).trans done_nx))))
      · rw [← hW]; rfl
      · rw [set_of hfg, ← ht1, set_at, List.range_succ, List.map_append, ← hO]
        simp [iL]
      · rw [set_at, List.range_succ, List.map_append, ← hW]
        simp [iL]
      · rw [← ht1]; exact h3
      · intro m hm1 hm2
        rw [set_of hm2, ← ht1, set_of hm1]
        exact h4 m hm1 hm2)
  rw [Nat.zero_add, List.length_map, List.length_range] at e2 e3
  exact ⟨ρ', s', e0, by rw [e1]; rfl, by rw [e1]; rfl, e2, e3, e4, e5⟩
theorem serve_at {d e : D} {r o : List Int} (R : Row d r) (R2 : Row e o) (h : r.length = o.length) (hl : r.length < 900) : ∃ s', Ev.run P 100000 (k + 2) 12 [d, e] s = .ok (.tuple [.tuple (iL (outL r o)), .tuple (iL (wtL r o))]) s' ∧ Fr s s' := by
  have hB := fun (x : D) (l : List Int) (i : Nat) (t : Hs) (Rx : Row x l) (hi : i < l.length) => brought_at (k := k) (s := t) Rx hi
  generalize hT : Ev.run P 100000 (k + 1) = T at hB
  have l1 := R.len (s := (s.push (.lst [])).push (.lst []))
  have l2 := R2.len (s := (s.push (.lst [])).push (.lst []))
  obtain ⟨ρ', s', e0, q3, q4, e2, e3, e4, e5⟩ := srv_loop T R R2 h hl s.nx (s.nx + 1) (by omega) ((s.push (.lst [])).push (.lst [])) ((push_of (by rw [push_nx]; omega)).trans push_at) (by exact push_at) hB
  refine ⟨s', run_ret (d := ⟨2, 7, c12⟩) rfl rfl ?_, ⟨by rw [e4, push_nx, push_nx]; omega, fun m hm => (e5 m (by omega) (by omega)).trans ((push_of (by rw [push_nx]; omega)).trans (push_of (by omega)))⟩⟩
  rw [hT]
  show evS P T 100000 c12 [some d, some e, none, none, none, none, none] s = _
  have mx : biE .max [.int (r.length : Int), .int (o.length : Int)] ((s.push (.lst [])).push (.lst [])) = .ok (.int (r.length : Int)) ((s.push (.lst [])).push (.lst [])) := by
    show Res.ok (PyData.int (if (r.length : Int) < (o.length : Int) then (o.length : Int) else (r.length : Int))) _ = _
    rw [if_neg (by omega)]
  unfold c12
  refine (seq_nx (asg_i (d := .int 0) (s1 := s) (by simp only [evE]) rfl)).trans ?_
  refine (seq_nx (asg_i (d := cel s.nx) (s1 := s.push (.lst [])) (by simp only [evE, evN, evA, bnd_ok, List.length_nil, small_z, if_true]) rfl)).trans ?_
  refine (seq_nx (asg_i (d := cel (s.nx + 1)) (s1 := (s.push (.lst [])).push (.lst [])) (by simp only [evE, evN, evA, bnd_ok, List.length_nil, small_z, if_true, push_nx]) rfl)).trans ?_
  have I : evI P T (.irange (.cons (.bcall .max (.cons (.bcall .len (.cons (.slot 0) .nil)) (.cons (.bcall .len (.cons (.slot 1) .nil)) .nil))) .nil)) [some d, some e, some (.int 0), some (cel s.nx), some (cel (s.nx + 1)), none, none] ((s.push (.lst [])).push (.lst [])) = .ok (.fix ((List.range r.length).map fun (j : Nat) => .int (j : Int))) ((s.push (.lst [])).push (.lst [])) :=
    irange_n (by simp only [evE, evA, bnd_ok, look_z, look_s, l1, l2, mx]) (by omega)
  refine (seq_nx (ρ1 := ρ') (s1 := s') ((fors_ok I).trans e0)).trans (seq_ret (ret_e ?_))
  have t1 := tup_cel e2
  have t2 := tup_cel e3
  simp only [evE, evA, bnd_ok, q3, q4, t1, t2]
  rfl
/-! cells one by one -/
theorem cells_in (T : Nat → List D → Hs → Res D) (d : D) (v i : Int) (n : Nat) (acc : List D) (hn : n < 1000) (ha : acc.length < 900000) :
    compN (fun y s5 => match evG (.tslot 1) y (wipeD [some d, none, some (.int v), some (.int i)] (tgs (.tslot 1))) s5 with
      | some ρ2 => (evE P T (.cst (.bool true)) ρ2 s5).bind fun b2 s6 => match b2 with
        | .bool true => (evE P T (.slot 2) ρ2 s6).bind fun d s7 => .ok (some d) s7
        | .bool false => .ok none s6
        | _ => .stuck
      | none => .stuck) turnsN (.fix ((List.range n).map fun (j : Nat) => .int (j : Int))) acc s = .ok (acc ++ List.replicate n (.int v)) s := by
  rw [comp_enc (s := s) (enc := fun (j : Nat) => PyData.int (j : Int)) (f := fun _ => PyData.int v) (List.range n) turnsN acc (fun j _ => ?_) (by rw [List.length_range]; show _ < 1000000; omega) (by rw [List.length_range]; omega)]
  · rw [List.map_const', List.length_range]
  · show ((evE P T (.cst (.bool true)) [some d, some (.int (j : Int)), some (.int v), some (.int i)] s).bind _) = _
    rw [evE, bnd_ok]
    dsimp only
    show ((evE P T (.slot 2) [some d, some (.int (j : Int)), some (.int v), some (.int i)] s).bind _) = _
    simp only [evE, bnd_ok, look_z, look_s]
theorem cells_loop (T : Nat → List D → Hs → Res D) (d : D) (item : D → List D → Hs → Res (List D)) (hi : ∀ (v x : Int) (acc : List D), 0 ≤ x → x < 1000 → acc.length < 900000 → item (.tuple [.int v, .int x]) acc s = .ok (acc ++ List.replicate x.toNat (.int v)) s) :
    ∀ (l : List Int) (m j : Nat) (acc : List D), l.length < m → (∀ x, x ∈ l → 0 ≤ x ∧ x < 1000) → acc.length + 1000 * l.length < 900000 → comp2N item m (.fix (enumL j (iL l))) acc s = .ok (acc ++ iL ((cells j l).map fun (v : Nat) => (v : Int))) s
  | [], 0, j, acc, h, _, _ => absurd h (by simp)
  | [], m + 1, j, acc, _, _, _ => by
    unfold comp2N
    simp [enumL, Cur.next, cells]
  | x :: l, 0, j, acc, h, _, _ => absurd h (by simp)
  | x :: l, m + 1, j, acc, hm, hx, ha => by
    simp only [List.length_cons] at hm ha
    obtain ⟨x0, x1⟩ := hx x List.mem_cons_self
    have e := hi (j : Nat) x acc x0 x1 (by omega)
    unfold comp2N
    rw [show iL (x :: l) = .int x :: iL l from rfl, enumL]
    simp only [Cur.next]
    rw [e, bnd_ok, cells_loop T d item hi l m (j + 1) _ (by omega) (fun y hy => hx y (List.mem_cons_of_mem _ hy)) (by rw [List.length_append, List.length_replicate]; omega)]
    rw [cells, List.map_append, List.map_replicate]
    simp [iL]
theorem cells_at' {d : D} {l : List Int} (R : Row d l) (hx : ∀ x, x ∈ l → 0 ≤ x ∧ x < 1000) (hl : l.length < 800) : Ev.run P 100000 (k + 1) 14 [d] s = .ok (.list (iL ((cells 0 l).map fun (v : Nat) => (v : Int)))) s := by
  refine run_ret (d := ⟨1, 4, c14⟩) rfl rfl ?_
  generalize Ev.run P 100000 k = T
  show evS P T 100000 c14 [some d, none, none, none] s = _
  have en : enumE d s = .ok (.fix (enumL 0 (iL l))) s := by cases R <;> rfl
  have I : evI P T (.ienum (.slot 0)) [some d, none, none, none] s = .ok (.fix (enumL 0 (iL l))) s := by simp only [evI, evE, bnd_ok, look_z, en]
  have q : evN P T c14_m0 [some d, none, none, none] s = .ok (iL ((cells 0 l).map fun (v : Nat) => (v : Int))) s := by
    unfold c14_m0
    rw [evN, I, bnd_ok]
    rw [cells_loop T d _ (fun v x acc x0 x1 ha => ?_) l turnsN 0 [] (by show _ < 1000000; omega) hx (by simp; omega)]
    · rfl
    · show (((evE P T (.cst (.bool true)) [some d, none, some (.int v), some (.int x)] s).bind _).nox) = _
      rw [evE, bnd_ok]
      dsimp only
      have I2 : evI P T (.irange (.cons (.slot 3) .nil)) [some d, none, some (.int v), some (.int x)] s = .ok (.fix ((List.range x.toNat).map fun (j : Nat) => .int (j : Int))) s := by
        have ex : x = (x.toNat : Int) := by omega
        refine irange_n ?_ (by omega)
        rw [← ex]
        simp only [evE, evA, bnd_ok, look_z, look_s]
      rw [show ((List.set (wipeD [some d, none, none, none] [2, 3, 1]) 2 (some (PyData.int v))).set 3 (some (PyData.int x))) = [some d, none, some (.int v), some (.int x)] from rfl]
      rw [I2, bnd_ok]
      exact congrArg Res.nox (cells_in T d v x x.toNat acc (by omega) ha)
  unfold c14
  refine seq_ret (ret_e ?_)
  simp only [evE, bnd_ok, q]
def cw (r o : List Int) : List Int := (((cells 0 r).map fun (v : Nat) => (v : Int)).zip ((cells 0 o).map fun (v : Nat) => (v : Int))).map fun p => p.2 - p.1
theorem cells_len : ∀ {l : List Int} {j : Nat}, (∀ x, x ∈ l → 0 ≤ x ∧ x < 1000) → (cells j l).length ≤ 1000 * l.length
  | [], _, _ => by simp [cells]
  | x :: l, j, h => by
    have a := h x List.mem_cons_self
    have b := cells_len (l := l) (j := j + 1) fun y hy => h y (List.mem_cons_of_mem _ hy)
    rw [cells, List.length_append, List.length_replicate, List.length_cons]
    omega
theorem cw_at {d e : D} {r o : List Int} (R : Row d r) (R2 : Row e o) (hr : ∀ x, x ∈ r → 0 ≤ x ∧ x < 1000) (ho : ∀ x, x ∈ o → 0 ≤ x ∧ x < 1000) (lr : r.length < 800) (lo : o.length < 800) : Ev.run P 100000 (k + 2) 15 [d, e] s = .ok (.tuple (iL (cw r o))) s := by
  have e1 := cells_at' (k := k) (s := s) R hr lr
  have e2 := cells_at' (k := k) (s := s) R2 ho lo
  refine run_ret (d := ⟨2, 4, c15⟩) rfl rfl ?_
  generalize Ev.run P 100000 (k + 1) = T at e1 e2
  show evS P T 100000 c15 [some d, some e, none, none] s = _
  have q : evN P T c15_m0 [some d, some e, none, none] s = .ok (iL (cw r o)) s := by
    rw [cw, ← iL_map]
    refine comp_of (enc := pD) ?_ (fun p _ => ?_) (by have := zip_le (a := (cells 0 r).map fun (v : Nat) => (v : Int)) (b := (cells 0 o).map fun (v : Nat) => (v : Int)); have := cells_len (j := 0) hr; rw [List.length_map] at *; omega)
    · have z : zipE (.list (iL ((cells 0 r).map fun (v : Nat) => (v : Int)))) (.list (iL ((cells 0 o).map fun (v : Nat) => (v : Int)))) s = .ok (.fix ((((cells 0 r).map fun (v : Nat) => (v : Int)).zip ((cells 0 o).map fun (v : Nat) => (v : Int))).map pD)) s := by rw [← zip_map]; rfl
      simp only [evI, evE, evA, bnd_ok, look_z, look_s, e1, e2, z]
    · refine item_yes (ρ1 := [some d, some e, some (.int p.1), some (.int p.2)]) rfl (by simp only [evE]) ?_
      simp only [evE, bnd_ok, look_z, look_s, sub_i]
  unfold c15
  refine seq_ret (ret_e ?_)
  simp only [evE, evA, bnd_ok, q, tup_lst]
end M33

set_option linter.all false
set_option maxHeartbeats 4000000
set_option maxRecDepth 20000
namespace M33
open Ev PySem Bk
variable {k : Nat} {s : Hs}
/-! buckets -/
theorem small_1 : small 1 = true := rfl
theorem small_2 : small 2 = true := rfl
theorem small_3 : small 3 = true := rfl
theorem min_ii {i j : Int} : biE .min [.int i, .int j] s = .ok (.int (if j < i then j else i)) s := rfl
theorem max_ii {i j : Int} : biE .max [.int i, .int j] s = .ok (.int (if i < j then j else i)) s := rfl
theorem refill_at {m b r : Int} : Ev.run P 100000 (k + 1) 0 [.int m, .int b, .int r] s = .ok (.int (rfl' m b r)) s := by
  refine run_ret (d := ⟨3, 3, c0⟩) rfl rfl ?_
  generalize Ev.run P 100000 k = T
  show evS P T 100000 c0 [some (.int m), some (.int b), some (.int r)] s = _
  unfold c0
  refine seq_ret (ret_e ?_)
  simp only [evE, evA, bnd_ok, look_z, look_s, min_ii, add_i]
  rfl
theorem over_loop (T : Nat → List D → Hs → Res D) (A : D) (r : Int) (f : Nat) : ∀ (l : List Int) (m : Nat) (o : Int) (acc : List Int) (v : Option D) (s : Hs), l.length < m → acc.length + l.length < 1000 → s.h f = .lst (iL acc) →
    ∃ o' v' s', forN (fturn P T 100000 (.tslot 4) c1_b0) m (.fix (iL l)) [some A, some (.int r), some (cel f), some (.int o), v] s = .nx [some A, some (.int r), some (cel f), some (.int o'), v'] s' ∧ s'.h f = .lst (iL (acc ++ ovs r o l)) ∧ s'.nx = s.nx ∧ ∀ m, m ≠ f → s'.h m = s.h m
  | l, 0, o, acc, v, s, h, _, _ => absurd h (by simp)
  | [], m + 1, o, acc, v, s, _, _, hf => ⟨o, v, s, rfl, by rw [show ovs r o [] = [] from rfl, List.append_nil]; exact hf, rfl, fun _ _ => rfl⟩
  | c :: t, m + 1, o, acc, v, s, hm, ha, hf => by
    simp only [List.length_cons] at hm ha
    have ap := app_cel (d := .int (mxz o + c - r)) hf (by rw [List.length_map]; omega)
    obtain ⟨o', v', s', e1, e2, e3, e4⟩ := over_loop T A r f t m (mxz o + c - r) (acc ++ [mxz o + c - r]) (some (.int c)) (s.set f (.lst (iL acc ++ [.int (mxz o + c - r)]))) (by omega) (by rw [List.length_append, List.length_singleton]; omega) (by rw [set_at]; simp [iL])
    refine ⟨o', v', s', ?_, by rw [e2, List.append_assoc]; rfl, e3, fun m hm => (e4 m hm).trans (set_of hm)⟩
    rw [← e1]
    have lf := lst_is hf
    have g1 : evE P T (.bin .sub (.bin .add (.bcall .max (.cons (.slot 3) (.cons (.cst (.int 0)) .nil))) (.slot 4)) (.slot 1)) [some A, some (.int r), some (cel f), some (.int o), some (.int c)] s = .ok (.int (mxz o + c - r)) s := by
      simp only [evE, evA, bnd_ok, look_z, look_s, max_ii, add_i, sub_i]
      rfl
    have g2 : evE P T (.bmeth .append (.slot 2) (.cons (.slot 3) .nil)) [some A, some (.int r), some (cel f), some (.int (mxz o + c - r)), some (.int c)] s = .ok .none (s.set f (.lst (iL acc ++ [.int (mxz o + c - r)]))) := by
      simp only [evE, evA, bnd_ok, look_z, look_s, lf, if_true, ap]
    have b : evS P T 100000 c1_b0 [some A, some (.int r), some (cel f), some (.int o), some (.int c)] s = .nx [some A, some (.int r), some (cel f), some (.int (mxz o + c - r)), some (.int c)] (s.set f (.lst (iL acc ++ [.int (mxz o + c - r)]))) := by
      unfold c1_b0
      refine (seq_nx (asg_i g1 rfl)).trans ?_
      exact (seq_nx (expr_e g2)).trans done_nx
    show (match fturn P T 100000 (.tslot 4) c1_b0 (.int c) [some A, some (.int r), some (cel f), some (.int o), v] s with
      | .nx ρ1 s1 => forN (fturn P T 100000 (.tslot 4) c1_b0) m (.fix (iL t)) ρ1 s1
      | .cont ρ1 s1 => forN (fturn P T 100000 (.tslot 4) c1_b0) m (.fix (iL t)) ρ1 s1
      | .brk ρ1 s1 => .nx ρ1 s1
      | .ret d s1 => .ret d s1
      | .exc e ρ1 s1 => .exc e ρ1 s1
      | .stuck => .stuck) = _
    rw [show fturn P T 100000 (.tslot 4) c1_b0 (.int c) [some A, some (.int r), some (cel f), some (.int o), v] s = evS P T 100000 c1_b0 [some A, some (.int r), some (cel f), some (.int o), some (.int c)] s from rfl, b]
theorem over_at {l : List Int} {r : Int} (hl : l.length < 900) : ∃ s', Ev.run P 100000 (k + 1) 1 [.list (iL l), .int r] s = .ok (cel s.nx) s' ∧ s'.h s.nx = .lst (iL (ovs r 0 l)) ∧ s.nx < s'.nx ∧ Fr s s' := by
  generalize hT : Ev.run P 100000 k = T
  obtain ⟨o', v', s', e1, e2, e3, e4⟩ := over_loop T (.list (iL l)) r s.nx l turnsN 0 [] none (s.push (.lst [])) (by show _ < 1000000; omega) (by simp; omega) push_at
  refine ⟨s', run_ret (d := ⟨2, 5, c1⟩) rfl rfl ?_, e2, by rw [e3, push_nx]; omega, ⟨by rw [e3, push_nx]; omega, fun m hm => (e4 m (by omega)).trans (push_of (by omega))⟩⟩
  rw [hT]
  show evS P T 100000 c1 [some (.list (iL l)), some (.int r), none, none, none] s = _
  unfold c1
  refine (seq_nx (asg_i (d := cel s.nx) (s1 := s.push (.lst [])) (by simp only [evE, evN, evA, bnd_ok, List.length_nil, small_z, if_true]) rfl)).trans ?_
  refine (seq_nx (asg_i (d := .int 0) (s1 := s.push (.lst [])) (by simp only [evE]) rfl)).trans ?_
  refine (seq_nx (ρ1 := [some (.list (iL l)), some (.int r), some (cel s.nx), some (.int o'), v']) (s1 := s') ?_).trans (seq_ret (ret_e (by simp only [evE, look_z, look_s])))
  have I : evI P T (.ival (.slot 0)) [some (.list (iL l)), some (.int r), some (cel s.nx), some (.int 0), none] (s.push (.lst [])) = .ok (.fix (iL l)) (s.push (.lst [])) := by simp only [evI, evE, bnd_ok, look_z, val_lst]
  exact (fors_ok I).trans e1
def kB (l : List Int) (b r : Int) : Bool := (ovs r 0 l).all fun x => decide (x ≤ b)
theorem kB_iff {l : List Int} {b r : Int} : kB l b r = true ↔ K l b r := by
  rw [← ovs_K]
  unfold kB
  rw [List.all_eq_true]
  simp
theorem keeps_at {l : List Int} {b r : Int} (hl : l.length < 900) : ∃ s', Ev.run P 100000 (k + 2) 2 [.list (iL l), .int b, .int r] s = .ok (.bool (kB l b r)) s' ∧ Fr s s' := by
  obtain ⟨s', e1, e2, e3, e4⟩ := over_at (k := k) (s := s) (l := l) (r := r) hl
  refine ⟨s', run_ret (d := ⟨3, 4, c2⟩) rfl rfl ?_, e4⟩
  generalize Ev.run P 100000 (k + 1) = T at e1
  show evS P T 100000 c2 [some (.list (iL l)), some (.int b), some (.int r), none] s = _
  have q : evN P T c2_m0 [some (.list (iL l)), some (.int b), some (.int r), none] s = .ok ((ovs r 0 l).map fun x => .bool (decide (x ≤ b))) s' := by
    unfold c2_m0
    have I : evI P T (.ival (.call 1 (.cons (.slot 0) (.cons (.slot 2) .nil)))) [some (.list (iL l)), some (.int b), some (.int r), none] s = .ok (.live s.nx 0) s' := by
      simp only [evI, evE, evA, bnd_ok, look_z, look_s, e1, val_cel e2]
    rw [comp_eq I, ← comp_eq (s := s') (it := .ival (.cst (cel s.nx))) (by simp only [evI, evE, bnd_ok, val_cel e2])]
    refine comp_all (enc := PyData.int) (fun x => .bool (decide (x ≤ b))) (c := .live s.nx 0) (by simp only [evI, evE, bnd_ok, val_cel e2]) (.live e2) (fun x _ => ?_) (by rw [ovs_len]; omega)
    refine item_yes (ρ1 := [some (.list (iL l)), some (.int b), some (.int r), some (.int x)]) rfl (by simp only [evE]) ?_
    simp only [evE, bnd_ok, look_z, look_s, le_i]
  unfold c2
  refine seq_ret (ret_e ?_)
  have a : biE .all [.list ((ovs r 0 l).map fun x => PyData.bool (decide (x ≤ b)))] s' = .ok (.bool (kB l b r)) s' := by
    have z := all_lst (s := s') (l := (ovs r 0 l).map fun x => decide (x ≤ b))
    rw [List.map_map] at z
    refine z.trans ?_
    unfold kB
    rw [List.all_map]
    rfl
  simp only [evE, evA, q, bnd_ok, a]
theorem ints_lst {l : List Int} : (lstD (.list (iL l)) s).bind intsD = some l := by
  show intsD (iL l) = _
  exact intsD_iL l
theorem least_at {l : List Int} {r : Int} (hl : l.length < 900) : ∃ s', Ev.run P 100000 (k + 2) 3 [.list (iL l), .int r] s = .ok (.int (least r l)) s' ∧ Fr s s' := by
  obtain ⟨s', e1, e2, e3, e4⟩ := over_at (k := k) (s := s) (l := l) (r := r) hl
  refine ⟨s', run_ret (d := ⟨2, 2, c3⟩) rfl rfl ?_, e4⟩
  generalize Ev.run P 100000 (k + 1) = T at e1
  show evS P T 100000 c3 [some (.list (iL l)), some (.int r)] s = _
  have ad : bopE .add (.list [.int 0]) (cel s.nx) s' = .ok (.list (iL (0 :: ovs r 0 l))) s' := by
    show (match lstD (.list [.int 0]) s', lstD (cel s.nx) s' with
      | some x, some y => if Nat.ble (x.length + y.length) 1000000 then Res.ok (PyData.list (x ++ y)) s' else .stuck
      | _, _ => .stuck) = _
    rw [lst_some e2]
    show (if Nat.ble ([PyData.int 0].length + (iL (ovs r 0 l)).length) 1000000 = true then Res.ok (PyData.list ([PyData.int 0] ++ iL (ovs r 0 l))) s' else .stuck) = _
    rw [if_pos (Nat.ble_eq_true_of_le (by rw [List.length_map, ovs_len]; simp; omega))]
    rfl
  have mx' : biE .max [.list (iL (0 :: ovs r 0 l))] s' = .ok (.int (least r l)) s' := by
    show (match (lstD (.list (iL (0 :: ovs r 0 l))) s').bind intsD with | some (n :: ns) => Res.ok (PyData.int (maxI n ns)) s' | _ => .stuck) = _
    rw [ints_lst]
    rfl
  unfold c3
  refine seq_ret (ret_e ?_)
  simp only [evE, evA, evN, bnd_ok, look_z, look_s, e1, List.length_cons, List.length_nil, Nat.reduceAdd, small_1, if_true, ad, mx']
theorem shp_loop (T : Nat → List D → Hs → Res D) (A : D) (b r : Int) (f g : Nat) (hfg : f ≠ g) (hT : ∀ (m : Int) (s : Hs), T 0 [.int m, .int b, .int r] s = .ok (.int (rfl' m b r)) s) :
    ∀ (l : List Int) (n : Nat) (m w : Int) (a1 a2 : List Int) (v u : Option D) (s : Hs), l.length < n → a1.length + l.length < 1000 → a2.length + l.length < 1000 → s.h f = .lst (iL a1) → s.h g = .lst (iL a2) →
    ∃ m' w' v' u' s', forN (fturn P T 100000 (.tslot 7) c4_b0) n (.fix (iL l)) [some A, some (.int b), some (.int r), some (.int m), some (.int w), some (cel f), some (cel g), v, u] s =
      .nx [some A, some (.int b), some (.int r), some (.int m'), some (.int w'), some (cel f), some (cel g), v', u'] s' ∧ s'.h f = .lst (iL (a1 ++ (shp b r m w l).1)) ∧ s'.h g = .lst (iL (a2 ++ (shp b r m w l).2)) ∧ s'.nx = s.nx ∧ ∀ m, m ≠ f → m ≠ g → s'.h m = s.h m
  | l, 0, m, w, a1, a2, v, u, s, h, _, _, _, _ => absurd h (by simp)
  | [], n + 1, m, w, a1, a2, v, u, s, _, _, _, hf, hg => ⟨m, w, v, u, s, rfl, by rw [show (shp b r m w []).1 = [] from rfl, List.append_nil]; exact hf, by rw [show (shp b r m w []).2 = [] from rfl, List.append_nil]; exact hg, rfl, fun _ _ _ => rfl⟩
  | c :: t, n + 1, m, w, a1, a2, v, u, s, hn, h1, h2, hf, hg => by
    simp only [List.length_cons] at hn h1 h2
    have E : shp b r m w (c :: t) = (snt (rfl' m b r) (w + c) :: (shp b r (rfl' m b r - snt (rfl' m b r) (w + c)) (w + c - snt (rfl' m b r) (w + c)) t).1,
      (w + c - snt (rfl' m b r) (w + c)) :: (shp b r (rfl' m b r - snt (rfl' m b r) (w + c)) (w + c - snt (rfl' m b r) (w + c)) t).2) := rfl
    rw [E]
    have hS : snt (rfl' m b r) (w + c) = mxz (if rfl' m b r < w + c then rfl' m b r else w + c) := rfl
    have e0 := hT m s
    generalize snt (rfl' m b r) (w + c) = S at *
    generalize rfl' m b r = M at *
    have ap1 := app_cel (d := .int S) hf (by rw [List.length_map]; omega)
    have lf := lst_is hf
    generalize hs1 : s.set f (.lst (iL a1 ++ [.int S])) = s1 at ap1
    have hg1 : s1.h g = .lst (iL a2) := by rw [← hs1, set_of hfg.symm]; exact hg
    have hf1 : s1.h f = .lst (iL (a1 ++ [S])) := by rw [← hs1, set_at]; simp [iL]
    have ap2 := app_cel (d := .int (w + c - S)) hg1 (by rw [List.length_map]; omega)
    have lg := lst_is hg1
    generalize hs2 : s1.set g (.lst (iL a2 ++ [.int (w + c - S)])) = s2 at ap2
    have hg2 : s2.h g = .lst (iL (a2 ++ [w + c - S])) := by rw [← hs2, set_at]; simp [iL]
    have hf2 : s2.h f = .lst (iL (a1 ++ [S])) := by rw [← hs2, set_of hfg]; exact hf1
    obtain ⟨m', w', v', u', s', e1, e2, e3, e4, e5⟩ := shp_loop T A b r f g hfg hT t n (M - S) (w + c - S) (a1 ++ [S]) (a2 ++ [w + c - S]) (some (.int c)) (some (.int S)) s2 (by omega) (by rw [List.length_append, List.length_singleton]; omega) (by rw [List.length_append, List.length_singleton]; omega) hf2 hg2
    refine ⟨m', w', v', u', s', ?_, by rw [e2, List.append_assoc]; rfl, by rw [e3, List.append_assoc]; rfl, by rw [e4, ← hs2, ← hs1]; rfl, fun m h1 h2 => by rw [e5 m h1 h2, ← hs2, set_of h2, ← hs1, set_of h1]⟩
    rw [← e1]
    have b1 : evS P T 100000 c4_b0 [some A, some (.int b), some (.int r), some (.int m), some (.int w), some (cel f), some (cel g), some (.int c), u] s = .nx [some A, some (.int b), some (.int r), some (.int (M - S)), some (.int (w + c - S)), some (cel f), some (cel g), some (.int c), some (.int S)] s2 := by
      unfold c4_b0
      refine (seq_nx (asg_i (d := .int M) (s1 := s) (by simp only [evE, evA, bnd_ok, look_z, look_s, e0]) rfl)).trans ?_
      refine (seq_nx (asg_i (d := .int (w + c)) (s1 := s) (by simp only [List.set_cons_succ, List.set_cons_zero, evE, evA, bnd_ok, look_z, look_s, add_i]) rfl)).trans ?_
      refine (seq_nx (asg_i (d := .int S) (s1 := s) (by
        simp only [List.set_cons_succ, List.set_cons_zero, evE, evA, bnd_ok, look_z, look_s, min_ii, max_ii]
        rw [hS]; rfl) rfl)).trans ?_
      refine (seq_nx (asg_i (d := .int (M - S)) (s1 := s) (by simp only [List.set_cons_succ, List.set_cons_zero, evE, evA, bnd_ok, look_z, look_s, sub_i]) rfl)).trans ?_
      refine (seq_nx (asg_i (d := .int (w + c - S)) (s1 := s) (by simp only [List.set_cons_succ, List.set_cons_zero, evE, evA, bnd_ok, look_z, look_s, sub_i]) rfl)).trans ?_
      refine (seq_nx (expr_e (d := .none) (s1 := s1) (by simp only [List.set_cons_succ, List.set_cons_zero, evE, evA, bnd_ok, look_z, look_s, lf, if_true, ap1]))).trans ?_
      refine (seq_nx (expr_e (d := .none) (s1 := s2) (by simp only [List.set_cons_succ, List.set_cons_zero, evE, evA, bnd_ok, look_z, look_s, lg, if_true, ap2]))).trans ?_
      exact done_nx
    show (match fturn P T 100000 (.tslot 7) c4_b0 (.int c) [some A, some (.int b), some (.int r), some (.int m), some (.int w), some (cel f), some (cel g), v, u] s with
      | .nx ρ1 s1 => forN (fturn P T 100000 (.tslot 7) c4_b0) n (.fix (iL t)) ρ1 s1
      | .cont ρ1 s1 => forN (fturn P T 100000 (.tslot 7) c4_b0) n (.fix (iL t)) ρ1 s1
      | .brk ρ1 s1 => .nx ρ1 s1
      | .ret d s1 => .ret d s1
      | .exc e ρ1 s1 => .exc e ρ1 s1
      | .stuck => .stuck) = _
    rw [show fturn P T 100000 (.tslot 7) c4_b0 (.int c) [some A, some (.int b), some (.int r), some (.int m), some (.int w), some (cel f), some (cel g), v, u] s = evS P T 100000 c4_b0 [some A, some (.int b), some (.int r), some (.int m), some (.int w), some (cel f), some (cel g), some (.int c), u] s from rfl, b1]
theorem shaped_at {l : List Int} {b r : Int} (hl : l.length < 900) : ∃ s', Ev.run P 100000 (k + 2) 4 [.list (iL l), .int b, .int r] s = .ok (.tuple [.tuple (iL (shp b r b 0 l).1), .tuple (iL (shp b r b 0 l).2)]) s' ∧ Fr s s' := by
  have hT : ∀ (m : Int) (s : Hs), Ev.run P 100000 (k + 1) 0 [.int m, .int b, .int r] s = .ok (.int (rfl' m b r)) s := fun m s => refill_at
  generalize hq : Ev.run P 100000 (k + 1) = T at hT
  let s2 := (s.push (.lst [])).push (.lst [])
  obtain ⟨m', w', v', u', s', e1, e2, e3, e4, e5⟩ := shp_loop T (.list (iL l)) b r s.nx (s.nx + 1) (by omega) hT l turnsN b 0 [] [] none none s2 (by show _ < 1000000; omega) (by simp; omega) (by simp; omega) ((push_of (by rw [push_nx]; omega)).trans push_at) push_at
  refine ⟨s', run_ret (d := ⟨3, 9, c4⟩) rfl rfl ?_, ⟨by rw [e4]; show s.nx ≤ s.nx + 1 + 1; omega, fun m hm => (e5 m (by omega) (by omega)).trans ((push_of (by rw [push_nx]; omega)).trans (push_of (by omega)))⟩⟩
  rw [hq]
  show evS P T 100000 c4 [some (.list (iL l)), some (.int b), some (.int r), none, none, none, none, none, none] s = _
  unfold c4
  refine (seq_nx (asg_i (d := .int b) (s1 := s) (by simp only [evE, look_z, look_s]) rfl)).trans ?_
  refine (seq_nx (asg_i (d := .int 0) (s1 := s) (by simp only [evE]) rfl)).trans ?_
  refine (seq_nx (asg_i (d := cel s.nx) (s1 := s.push (.lst [])) (by simp only [evE, evN, evA, bnd_ok, List.length_nil, small_z, if_true]) rfl)).trans ?_
  refine (seq_nx (asg_i (d := cel (s.nx + 1)) (s1 := s2) (by simp only [evE, evN, evA, bnd_ok, List.length_nil, small_z, if_true]; rfl) rfl)).trans ?_
  have I : evI P T (.ival (.slot 0)) [some (.list (iL l)), some (.int b), some (.int r), some (.int b), some (.int 0), some (cel s.nx), some (cel (s.nx + 1)), none, none] s2 = .ok (.fix (iL l)) s2 := by simp only [evI, evE, bnd_ok, look_z, val_lst]
  refine (seq_nx ((fors_ok I).trans e1)).trans (seq_ret (ret_e ?_))
  have t1 := tup_cel e2
  have t2 := tup_cel e3
  simp only [evE, evA, bnd_ok, look_z, look_s, t1, t2, List.length_cons, List.length_nil, Nat.reduceAdd, small_2, if_true]
  rfl
end M33

set_option linter.all false
set_option maxHeartbeats 4000000
set_option maxRecDepth 20000
namespace M33
open Ev PySem Cv Bk
variable {k : Nat} {s : Hs} {o : Nat → Option D} {d : D}
/-! the law's names -/
def en (o : Nat → Option D) : Ev.Env := [o 0, o 1, o 2, o 3, o 4, o 5, o 6, o 7, o 8, o 9, o 10, o 11, o 12, o 13, o 14, o 15, o 16, o 17, o 18, o 19, o 20, o 21, o 22, o 23]
def up (o : Nat → Option D) (i : Nat) (d : D) : Nat → Option D := fun j => if j = i then some d else o j
theorem up_at {i : Nat} : up o i d i = some d := if_pos rfl
theorem up_of {i j : Nat} (h : j ≠ i) : up o i d j = o j := if_neg h
theorem l0 : look (en o) 0 = o 0 := rfl
theorem l1 : look (en o) 1 = o 1 := rfl
theorem l2 : look (en o) 2 = o 2 := rfl
theorem l3 : look (en o) 3 = o 3 := rfl
theorem l4 : look (en o) 4 = o 4 := rfl
theorem l5 : look (en o) 5 = o 5 := rfl
theorem l6 : look (en o) 6 = o 6 := rfl
theorem l7 : look (en o) 7 = o 7 := rfl
theorem l8 : look (en o) 8 = o 8 := rfl
theorem l9 : look (en o) 9 = o 9 := rfl
theorem l10 : look (en o) 10 = o 10 := rfl
theorem l11 : look (en o) 11 = o 11 := rfl
theorem l12 : look (en o) 12 = o 12 := rfl
theorem l13 : look (en o) 13 = o 13 := rfl
theorem l14 : look (en o) 14 = o 14 := rfl
theorem l15 : look (en o) 15 = o 15 := rfl
theorem l16 : look (en o) 16 = o 16 := rfl
theorem l17 : look (en o) 17 = o 17 := rfl
theorem l18 : look (en o) 18 = o 18 := rfl
theorem l19 : look (en o) 19 = o 19 := rfl
theorem l20 : look (en o) 20 = o 20 := rfl
theorem l21 : look (en o) 21 = o 21 := rfl
theorem l22 : look (en o) 22 = o 22 := rfl
theorem l23 : look (en o) 23 = o 23 := rfl
theorem en_set : ∀ i, i < 24 → (en o).set i (some d) = en (up o i d)
  | 0, _ => rfl
  | 1, _ => rfl
  | 2, _ => rfl
  | 3, _ => rfl
  | 4, _ => rfl
  | 5, _ => rfl
  | 6, _ => rfl
  | 7, _ => rfl
  | 8, _ => rfl
  | 9, _ => rfl
  | 10, _ => rfl
  | 11, _ => rfl
  | 12, _ => rfl
  | 13, _ => rfl
  | 14, _ => rfl
  | 15, _ => rfl
  | 16, _ => rfl
  | 17, _ => rfl
  | 18, _ => rfl
  | 19, _ => rfl
  | 20, _ => rfl
  | 21, _ => rfl
  | 22, _ => rfl
  | 23, _ => rfl
  | i + 24, h => absurd h (by omega)
theorem asgE {T : Nat → List D → Hs → Res D} {i : Nat} {e : C} {s1 : Hs} (h : evE P T e (en o) s = .ok d s1) (hi : i < 24) : evS P T 100000 (.asg (.tslot i) e) (en o) s = .nx (en (up o i d)) s1 := by
  rw [asg_i h (Nat.blt_eq.mpr hi), en_set i hi]
theorem asgE2 {T : Nat → List D → Hs → Res D} {i j : Nat} {e : C} {x y : D} {s1 : Hs} (h : evE P T e (en o) s = .ok (.tuple [x, y]) s1) (hi : i < 24) (hj : j < 24) : evS P T 100000 (.asg (.ttup (.cons (.tslot i) (.cons (.tslot j) .nil))) e) (en o) s = .nx (en (up (up o i x) j y)) s1 := by
  rw [asg_2 h (Nat.blt_eq.mpr hi) (Nat.blt_eq.mpr hj), en_set i hi, en_set j hj]
theorem asgE3 {T : Nat → List D → Hs → Res D} {i j l : Nat} {e : C} {x y z : D} {s1 : Hs} (h : evE P T e (en o) s = .ok (.tuple [x, y, z]) s1) (hi : i < 24) (hj : j < 24) (hl : l < 24) : evS P T 100000 (.asg (.ttup (.cons (.tslot i) (.cons (.tslot j) (.cons (.tslot l) .nil)))) e) (en o) s = .nx (en (up (up (up o i x) j y) l z)) s1 := by
  rw [asg_3 h (Nat.blt_eq.mpr hi) (Nat.blt_eq.mpr hj) (Nat.blt_eq.mpr hl), en_set i hi, en_set j hj, en_set l hl]
theorem xf_run {T : Nat → List D → Hs → Res D} {ρ : Ev.Env} {w : Xt} {c : C} {s1 : Hs} (h : evE P T c ρ s = .ok d s1) (hp : xPre w d s1 = true) : evE P T (.xf w c .nil) ρ s = xE w d [] s1 := by
  rw [evE, h, bnd_ok, if_pos hp, evA, bnd_ok]
theorem tg_get {l : List Int} {z : Nat} (h : z ≤ l.length) : (tg l).getD z 0 = tgz l z := by
  rw [List.getD_eq_getElem?_getD, tg, List.getElem?_map, List.getElem?_range (by omega)]; rfl
theorem sr_get {l : List Int} {z : Nat} (h : z ≤ l.length) : (sr l).getD z 0 = srz l z := by
  rw [List.getD_eq_getElem?_getD, sr, List.getElem?_map, List.getElem?_range (by omega)]; rfl
/-! draws -/
def DiceAt (s : Hs) : Prop := 0 < s.nx ∧ ∃ x y z : Int, s.h 0 = .lst [.int x, .int y, .int z]
theorem DiceAt.fr {s s' : Hs} (h : DiceAt s) (F : Fr s s') : DiceAt s' := let ⟨p, x, y, z, q⟩ := h; ⟨Nat.lt_of_lt_of_le p F.n, x, y, z, (F.k 0 p).trans q⟩
def Rolls (T : Nat → List D → Hs → Res D) : Prop := ∀ {s : Hs}, DiceAt s → ∀ m : Nat, 0 < m → m ≤ 1000000 → ∃ (r : Nat) (s' : Hs), T 17 [cel 0, .int (m : Int)] s = .ok (.int (r : Int)) s' ∧ r < m ∧ DiceAt s'
theorem rolls (n : Nat) : Rolls (Ev.run P 100000 (n + 1)) := fun {s} Di m h1 h2 => by
  obtain ⟨p, x, y, z, q⟩ := Di
  have e := dh_of q
  obtain ⟨r1, r2, r3⟩ := roll_run (P := P) (F := 100000) (nx := s.nx) (h := s.h) (x := x) (y := y) (z := z) (m := (m : Int)) (f := 17) rfl n (by omega) (by omega)
  rw [← e] at r3
  refine ⟨(rollR x y z m).1.toNat, dh s.nx s.h (rollR x y z m).2.1 (rollR x y z m).2.2.1 (rollR x y z m).2.2.2, ?_, by omega, p, (rollR x y z m).2.1, (rollR x y z m).2.2.1, (rollR x y z m).2.2.2, rfl⟩
  rw [r3, Int.toNat_of_nonneg r1]
/-- a row drawn -/
theorem row_at {T : Nat → List D → Hs → Res D} (RR : Rolls T) {n v : Nat} {C1 : C} (hC : C1 = .comp [18] (.tslot 18) (.irange (.cons (.slot 2) .nil)) (.cst (.bool true)) (.call 17 (.cons (.slot 1) (.cons (.cst (.int (v : Int))) .nil)))) (hv : 0 < v ∧ v < 1000) (D0 : DiceAt s) (h1 : o 1 = some (cel 0)) (h2 : o 2 = some (.int (n : Int))) (hn : n ≤ 8) :
    ∃ l s', evE P T (.newT C1) (en o) s = .ok (.list (iL l)) s' ∧ l.length = n ∧ (∀ x, x ∈ l → 0 ≤ x ∧ x < 1000) ∧ DiceAt s' := by
  subst hC
  have I : evI P T (.irange (.cons (.slot 2) .nil)) (en o) s = .ok (.fix ((List.range n).map fun (i : Nat) => .int (i : Int))) s := irange_n (by simp only [evA, evE, bnd_ok, l2, h2]) (by omega)
  obtain ⟨acc, s', e, l, e1, e2, e3, e4⟩ := comp_rel (item := itemF P T [18] (.tslot 18) (.cst (.bool true)) (.call 17 (.cons (.slot 1) (.cons (.cst (.int (v : Int))) .nil))) (en o)) (fun i s' acc => ∃ l : List Int, acc = iL l ∧ l.length = i ∧ (∀ x, x ∈ l → 0 ≤ x ∧ x < 1000) ∧ DiceAt s') ((List.range n).map fun (i : Nat) => .int (i : Int)) turnsN 0 [] s
    (by rw [List.length_map, List.length_range]; show _ < 1000000; omega) (by rw [List.length_map, List.length_range]; simp; omega) ⟨[], rfl, rfl, by simp, D0⟩ (fun j d s2 acc hj hR => by
      obtain ⟨l, q1, q2, q3, D⟩ := hR
      have hj' : j < n := by have := (List.getElem?_eq_some_iff.mp hj).1; simpa using this
      rw [List.getElem?_map, List.getElem?_range hj'] at hj
      cases hj
      obtain ⟨a, s3, ea, ha, D3⟩ := RR D v (by omega) (by omega)
      refine ⟨.int (a : Int), s3, ?_, l ++ [(a : Int)], by rw [q1]; simp [iL], by rw [List.length_append, q2, List.length_singleton], fun x hx => ?_, D3⟩
      · refine item_yes (ρ1 := en (up o 18 (.int (j : Int)))) rfl (by simp only [evE]) ?_
        have h1' : up o 18 (.int (j : Int)) 1 = some (cel 0) := (up_of (by decide)).trans h1
        simp only [evE, evA, bnd_ok, l1, h1', ea]
      · rcases List.mem_append.mp hx with hx | hx
        · exact q3 x hx
        · rw [List.mem_singleton.mp hx]; omega)
  rw [List.length_map, List.length_range, Nat.zero_add] at e2
  refine ⟨l, s', ?_, e2, e3, e4⟩
  rw [evE, comp_eq I, e, e1, bnd_ok]
theorem ne_int {x : Int} : cmpE .ne (.int x) (.int x) s = .ok (.bool false) s := same_ne (m := 0) .int (by omega)
theorem ne_bl {x : Bool} : cmpE .ne (.bool x) (.bool x) s = .ok (.bool false) s := same_ne (m := 0) .bool (by omega)
theorem ne_nl : cmpE .ne (.list []) (.list []) s = .ok (.bool false) s := same_ne (m := 1) (.lst fun x h => by cases h) (by omega)
def iff (t : C) : C := .ifs t (.seq (.ret (.cst (.bool false))) .done) .done
theorem iff_f {T : Nat → List D → Hs → Res D} {t : C} {ρ : Ev.Env} {s1 : Hs} (h : evE P T t ρ s = .ok (.bool false) s1) : evS P T 100000 (iff t) ρ s = .nx ρ s1 := (ifs_f h).trans done_nx
/-! the curve of a bucket -/
def crv (b r : Int) (n : Nat) : List Int := 0 :: (List.range n).map fun j => b + r * ((1 + j : Nat) : Int)
theorem crv_len {b r : Int} {n : Nat} : (crv b r n).length = n + 1 := by simp [crv]
theorem crv_get {b r : Int} {n z : Nat} (h : z < n) : (crv b r n).getD (z + 1) 0 = b + r * ((1 + z : Nat) : Int) := by
  rw [List.getD_eq_getElem?_getD, crv, List.getElem?_cons_succ, List.getElem?_map, List.getElem?_range h]; rfl
theorem nat_bd {z : Nat} (h : z < 1000) : -(2 ^ 64) < (z : Int) ∧ (z : Int) < 2 ^ 64 := by
  have h1 : (0 : Int) ≤ (z : Int) := by omega
  have h2 : (z : Int) < 1000 := by omega
  exact ⟨Int.lt_of_lt_of_le (by decide) h1, Int.lt_trans h2 (by decide)⟩
theorem mul_z {r : Int} {z : Nat} (h : z < 1000) : bopE .mul (.int r) (.int (z : Int)) s = .ok (.int (r * (z : Int))) s := mul_i (nat_bd h)
theorem crv_item {T : Nat → List D → Hs → Res D} {b r : Int} {N : D} {z : Nat} (h : z < 1000) : evE P T (.bin .add (.slot 0) (.bin .mul (.slot 1) (.slot 3))) [some (.int b), some (.int r), some N, some (.int (z : Int))] s = .ok (.int (b + r * (z : Int))) s := by
  have e0 : evE P T (.slot 0) [some (.int b), some (.int r), some N, some (.int (z : Int))] s = .ok (.int b) s := by simp only [evE, look_z]
  have e1 : evE P T (.slot 1) [some (.int b), some (.int r), some N, some (.int (z : Int))] s = .ok (.int r) s := by simp only [evE, look_z, look_s]
  have e3 : evE P T (.slot 3) [some (.int b), some (.int r), some N, some (.int (z : Int))] s = .ok (.int (z : Int)) s := by simp only [evE, look_z, look_s]
  exact (bin_run (o := .add) e0 ((bin_run (o := .mul) e1 e3).trans (mul_z h))).trans add_i
theorem crv_comp {T : Nat → List D → Hs → Res D} {b r : Int} {n : Nat} (hn : n < 900) : evN P T c6_m0 [some (.int b), some (.int r), some (.int (n : Int)), none] s = .ok (iL ((List.range n).map fun j => b + r * ((1 + j : Nat) : Int))) s := by
  rw [← iL_map]
  refine comp_of (L := List.range n) (enc := fun (j : Nat) => PyData.int ((1 + j : Nat) : Int)) (irange_2 (i := 1) (n := n + 1) ?_ (by omega) (by omega)) (fun j hj => ?_) (by rw [List.length_range]; omega)
  · simp only [evA, evE, bnd_ok, look_z, look_s, add_i]; rfl
  · have hj := List.mem_range.mp hj
    exact item_yes (ρ1 := [some (.int b), some (.int r), some (.int (n : Int)), some (.int ((1 + j : Nat) : Int))]) rfl (by simp only [evE]) (crv_item (by omega))
theorem crv_at {b r : Int} {n : Nat} (hn : n < 900) : Ev.run P 100000 (k + 1) 6 [.int b, .int r, .int (n : Int)] s = .ok (.tuple (iL (crv b r n))) s := by
  refine run_ret (d := ⟨3, 4, c6⟩) rfl rfl ?_
  generalize Ev.run P 100000 k = T
  show evS P T 100000 c6 [some (.int b), some (.int r), some (.int (n : Int)), none] s = _
  have q := crv_comp (T := T) (s := s) (b := b) (r := r) hn
  have u1 : evE P T (.newT (.lst (.cons (.cst (.int 0)) .nil))) [some (.int b), some (.int r), some (.int (n : Int)), none] s = .ok (.list (iL [0])) s := by simp only [evE, evN, evA, bnd_ok, List.length_cons, List.length_nil]; rfl
  have u2 : evE P T (.newT c6_m0) [some (.int b), some (.int r), some (.int (n : Int)), none] s = .ok (.list (iL ((List.range n).map fun j => b + r * ((1 + j : Nat) : Int)))) s := by rw [evE, q, bnd_ok]
  have e : iL [0] ++ iL ((List.range n).map fun j => b + r * ((1 + j : Nat) : Int)) = iL (crv b r n) := by unfold crv; simp [iL]
  have ll : (iL ((List.range n).map fun j => b + r * ((1 + j : Nat) : Int))).length ≤ 900 := by rw [List.length_map, List.length_map, List.length_range]; omega
  generalize iL ((List.range n).map fun j => b + r * ((1 + j : Nat) : Int)) = L at u2 e ll
  have u3 := (bin_run (o := .add) u1 u2).trans (add_l (by rw [List.length_map, List.length_singleton]; omega))
  rw [e] at u3
  unfold c6
  refine seq_ret (ret_e ((bcall_run (a1_run u3)).trans ?_))
  rw [tup_lst]
/-- under the curve just where a bucket keeps it -/
theorem und_K {l : List Int} {b r : Int} : und l (crv b r l.length) = true ↔ K l b r := by
  unfold und
  rw [List.all_eq_true]
  constructor
  · intro h i m hm h1
    obtain ⟨z, rfl⟩ : ∃ z, m = z + 1 := ⟨m - 1, by omega⟩
    have e1 : (tg l)[z + 1]? = some (tgz l (z + 1)) := by rw [tg, List.getElem?_map, List.getElem?_range (by omega)]; rfl
    have e2 : (crv b r l.length)[z + 1]? = some (b + r * ((1 + z : Nat) : Int)) := by rw [crv, List.getElem?_cons_succ, List.getElem?_map, List.getElem?_range (by omega)]; rfl
    have q := h (tgz l (z + 1), b + r * ((1 + z : Nat) : Int)) (List.mem_of_getElem? (i := z + 1) (List.getElem?_zip_eq_some.mpr ⟨e1, e2⟩))
    have q := of_decide_eq_true q
    have w := tgz_ge (l := l) (z := z + 1) (i := i) hm
    rw [← win_pre] at w
    have w : ((l.drop i).take (z + 1)).sum ≤ tgz l (z + 1) := w
    rw [show ((z + 1 : Nat) : Int) = ((1 + z : Nat) : Int) by omega]
    exact Int.le_trans w q
  · intro h p hp
    obtain ⟨i, hi⟩ := List.getElem?_of_mem hp
    rw [List.getElem?_zip_eq_some] at hi
    obtain ⟨e1, e2⟩ := hi
    have il := (List.getElem?_eq_some_iff.mp e1).1
    rw [tg_len] at il
    rw [tg, List.getElem?_map, List.getElem?_range (by omega)] at e1
    have e1 : tgz l i = p.1 := Option.some.inj e1
    refine decide_eq_true ?_
    cases i with
    | zero =>
      have e2 : (0 : Int) = p.2 := Option.some.inj e2
      rw [← e1, ← e2, tgz_0]; exact Int.le_refl _
    | succ z =>
      rw [crv, List.getElem?_cons_succ, List.getElem?_map, List.getElem?_range (by omega)] at e2
      have e2 : b + r * ((1 + z : Nat) : Int) = p.2 := Option.some.inj e2
      rw [← e1, ← e2]
      obtain ⟨j, j1, j2⟩ := tgz_at (l := l) (z := z + 1) (by omega)
      have q := h j (z + 1) j1 (by omega)
      have w : win l (z + 1) j ≤ b + r * ((z + 1 : Nat) : Int) := q
      rw [win_pre] at w
      rw [j2, show ((1 + z : Nat) : Int) = ((z + 1 : Nat) : Int) by omega]
      exact w
theorem und_kB {l : List Int} {b r : Int} : und l (crv b r l.length) = kB l b r := by
  have h : und l (crv b r l.length) = true ↔ kB l b r = true := und_K.trans kB_iff.symm
  exact Bool.eq_iff_iff.mpr h
/-- what a shaper lets out -/
def sho (b r : Int) (l : List Int) : List Int := (shp b r b 0 l).1
theorem sho_len {b r : Int} {l : List Int} : (sho b r l).length = l.length := (shp_len b r l b 0).1
theorem shp_nn {b r : Int} : ∀ (l : List Int) (m w : Int), ∀ x, x ∈ (shp b r m w l).1 → 0 ≤ x
  | [], m, w, x, h => by cases h
  | c :: t, m, w, x, h => by
    have E : (shp b r m w (c :: t)).1 = snt (rfl' m b r) (w + c) :: (shp b r (rfl' m b r - snt (rfl' m b r) (w + c)) (w + c - snt (rfl' m b r) (w + c)) t).1 := rfl
    rw [E] at h
    rcases List.mem_cons.mp h with rfl | h
    · rw [snt_eq]; omega
    · exact shp_nn t _ _ x h
theorem sho_K {b r : Int} (hb : 0 ≤ b) (hr : 0 ≤ r) {l : List Int} : K (sho b r l) b r := by
  have h := shp_keeps (b := b) (r := r) hb hr l 0 0 hb
  rw [Int.sub_zero] at h
  exact ovs_K.mp h
theorem sho_bd {b r : Int} (hb : 0 ≤ b ∧ b < 10) (hr : 0 ≤ r ∧ r < 10) {l : List Int} : ∀ x, x ∈ sho b r l → 0 ≤ x ∧ x < 1000 := fun x hx => by
  refine ⟨shp_nn l b 0 x hx, ?_⟩
  obtain ⟨i, hi, rfl⟩ := List.getElem_of_mem hx
  have q := sho_K (r := r) hb.1 hr.1 (l := l) i 1 (by omega) (by omega)
  rw [List.drop_eq_getElem_cons hi, List.take_succ_cons, List.take_zero] at q
  simp at q
  omega
end M33

set_option linter.all false
set_option maxHeartbeats 4000000
set_option maxRecDepth 20000
namespace M33
open Ev PySem Cv Bk
variable {k : Nat} {s : Hs} {o : Nat → Option D} {d : D} {row : List Int} {b r : Int} {n : Nat}
structure Dr (row : List Int) (b r : Int) (n : Nat) : Prop where
  lr : row.length = n
  n1 : 1 ≤ n
  n8 : n ≤ 8
  rr : ∀ x, x ∈ row → 0 ≤ x ∧ x < 1000
  hb : 0 ≤ b ∧ b < 10
  hr : 0 ≤ r ∧ r < 10
structure F (o : Nat → Option D) (row : List Int) (b r : Int) (n : Nat) : Prop where
  d1 : o 1 = some (cel 0)
  d2 : o 2 = some (.int (n : Int))
  d3 : o 3 = some (.tuple (iL (sho b r row)))
  d4 : o 4 = some (.tuple (iL (crv b r n)))
  d9 : o 9 = some (.list (iL row))
  d10 : o 10 = some (.int b)
  d11 : o 11 = some (.int r)
theorem F.up {i : Nat} (h : F o row b r n) (hi : ∀ j, j ∈ [1, 2, 3, 4, 9, 10, 11] → j ≠ i) : F (up o i d) row b r n :=
  ⟨(up_of (hi 1 (by decide))).trans h.d1, (up_of (hi 2 (by decide))).trans h.d2, (up_of (hi 3 (by decide))).trans h.d3, (up_of (hi 4 (by decide))).trans h.d4, (up_of (hi 9 (by decide))).trans h.d9, (up_of (hi 10 (by decide))).trans h.d10, (up_of (hi 11 (by decide))).trans h.d11⟩
theorem Dr.lo (R : Dr row b r n) : (sho b r row).length = n := by rw [sho_len, R.lr]
theorem Dr.bd (R : Dr row b r n) : ∀ x, x ∈ sho b r row → 0 ≤ x ∧ x < 1000 := sho_bd R.hb R.hr
theorem Dr.nn (R : Dr row b r n) : Nn (sho b r row) := Nn.of fun x hx => (R.bd x hx).1
/-! building that leaves all out -/
theorem comp_skip {item : D → Hs → Res (Option D)} (R : Hs → Prop) : ∀ (l : List D) (m : Nat) (acc : List D) (s : Hs), l.length < m → R s → (∀ x, x ∈ l → ∀ s, R s → ∃ s', item x s = .ok none s' ∧ R s') → ∃ s', compN item m (.fix l) acc s = .ok acc s' ∧ R s'
  | l, 0, acc, s, h, _, _ => absurd h (by omega)
  | [], m + 1, acc, s, _, h, _ => ⟨s, rfl, h⟩
  | x :: l, m + 1, acc, s, hm, h, ht => by
    simp only [List.length_cons] at hm
    obtain ⟨s1, e1, h1⟩ := ht x List.mem_cons_self s h
    obtain ⟨s2, e2, h2⟩ := comp_skip R l m acc s1 (by omega) h1 fun y hy => ht y (List.mem_cons_of_mem _ hy)
    refine ⟨s2, ?_, h2⟩
    unfold compN
    simp only [Cur.next, e1, bnd_ok]
    exact e2
theorem item_no {T : Nat → List D → Hs → Res D} {own : List Nat} {tg cond e : C} {ρ ρ1 : Ev.Env} {x : D} {s2 : Hs} (h1 : evG tg x (wipeD ρ own) s = some ρ1) (h2 : evE P T cond ρ1 s = .ok (.bool false) s2) : itemF P T own tg cond e ρ x s = .ok none s2 := by
  unfold itemF
  rw [h1]
  dsimp only
  rw [h2]
  rfl
/-- a curve's spot -/
theorem tg_crv (R : Dr row b r n) {z : Nat} (hz : z ≤ n) : tgz (sho b r row) z ≤ (crv b r n).getD z 0 := by
  have lo := R.lo
  have u : und (sho b r row) (crv b r (sho b r row).length) = true := und_K.mpr (sho_K R.hb.1 R.hr.1)
  rw [lo] at u
  unfold und at u
  rw [List.all_eq_true] at u
  have e1 : (tg (sho b r row))[z]? = some (tgz (sho b r row) z) := by rw [tg, List.getElem?_map, List.getElem?_range (by omega)]; rfl
  have e2 : (crv b r n)[z]? = some ((crv b r n).getD z 0) := by
    rw [List.getD_eq_getElem?_getD, List.getElem?_eq_getElem (by rw [crv_len]; omega)]; rfl
  exact of_decide_eq_true (u (tgz (sho b r row) z, (crv b r n).getD z 0) (List.mem_of_getElem? (i := z) (List.getElem?_zip_eq_some.mpr ⟨e1, e2⟩)))
def s4C : C := .or (.not (.call 8 (.cons (.slot 3) (.cons (.slot 4) .nil)))) (.or (.cmp .ne (.call 8 (.cons (.slot 9) (.cons (.slot 4) .nil))) (.call 2 (.cons (.slot 9) (.cons (.slot 10) (.cons (.slot 11) .nil))))) (.cmp .ne (.newT c19_m1) (.newT (.lst .nil))))
theorem m1_ev {T : Nat → List D → Hs → Res D} (G : F o row b r n) (R : Dr row b r n) (e11 : ∀ t, ∃ t', T 11 [.tuple (iL (sho b r row))] t = .ok (.tuple (iL (tg (sho b r row)))) t' ∧ Fr t t') : ∃ s', evN P T c19_m1 (en o) s = .ok [] s' ∧ Fr s s' := by
  have n8 := R.n8
  have I : evI P T (.irange (.cons (.bin .add (.slot 2) (.cst (.int 1))) .nil)) (en o) s = .ok (.fix ((List.range (n + 1)).map fun (j : Nat) => .int (j : Int))) s := irange_n (n := n + 1) (by simp only [evA, evE, bnd_ok, l2, G.d2, add_i]; rfl) (by omega)
  obtain ⟨s', e, h⟩ := comp_skip (item := itemF P T [18] (.tslot 18) (.cmp .gt (.ix (.call 11 (.cons (.slot 3) .nil)) (.slot 18)) (.ix (.slot 4) (.slot 18))) (.slot 18) (en o)) (fun t => Fr s t) ((List.range (n + 1)).map fun (j : Nat) => .int (j : Int)) turnsN [] s (by rw [List.length_map, List.length_range]; show _ < 1000000; omega) Fr.refl (fun x hx t ht => by
    obtain ⟨j, hj, rfl⟩ := List.mem_map.mp hx
    have hj := List.mem_range.mp hj
    obtain ⟨t', q1, q2⟩ := e11 t
    have x3 : up o 18 (.int (j : Int)) 3 = some (.tuple (iL (sho b r row))) := (up_of (by decide)).trans G.d3
    have x4 : up o 18 (.int (j : Int)) 4 = some (.tuple (iL (crv b r n))) := (up_of (by decide)).trans G.d4
    have x18 : up o 18 (.int (j : Int)) 18 = some (.int (j : Int)) := up_at
    have i1 := (Row.t (tg (sho b r row))).ix (s := t') (i := j) (by rw [tg_len, R.lo]; omega)
    rw [tg_get (by rw [R.lo]; omega)] at i1
    have i2 := (Row.t (crv b r n)).ix (s := t') (i := j) (by rw [crv_len]; omega)
    have c := tg_crv R (z := j) (by omega)
    refine ⟨t', item_no (ρ1 := en (up o 18 (.int (j : Int)))) rfl ?_, ht.trans q2⟩
    simp only [evE, evA, bnd_ok, l3, l4, l18, x3, x4, x18, q1, i1, i2, gt_i]
    rw [decide_eq_false (by omega)])
  refine ⟨s', ?_, h⟩
  unfold c19_m1
  rw [comp_eq I, e]
theorem s4_ev {T : Nat → List D → Hs → Res D} (G : F o row b r n) (R : Dr row b r n) (e8 : ∀ d l t, Row d l → l.length < 900 → ∃ t', T 8 [d, .tuple (iL (crv b r n))] t = .ok (.bool (und l (crv b r n))) t' ∧ Fr t t') (e2 : ∀ t, ∃ t', T 2 [.list (iL row), .int b, .int r] t = .ok (.bool (kB row b r)) t' ∧ Fr t t')
    (e11 : ∀ t, ∃ t', T 11 [.tuple (iL (sho b r row))] t = .ok (.tuple (iL (tg (sho b r row)))) t' ∧ Fr t t') : ∃ s', evE P T s4C (en o) s = .ok (.bool false) s' ∧ Fr s s' := by
  have lo := R.lo
  have lr := R.lr
  have n8 := R.n8
  obtain ⟨t1, a1, a2⟩ := e8 _ _ s (.t (sho b r row)) (by omega)
  have u : und (sho b r row) (crv b r n) = true := by have := und_K.mpr (sho_K R.hb.1 R.hr.1 (l := row)); rwa [lo] at this
  rw [u] at a1
  have c1 : evE P T (.not (.call 8 (.cons (.slot 3) (.cons (.slot 4) .nil)))) (en o) s = .ok (.bool false) t1 := by
    simp only [evE, evA, bnd_ok, l3, l4, G.d3, G.d4, a1]; rfl
  obtain ⟨t2, b1, b2⟩ := e8 _ _ t1 (.l row) (by omega)
  have u2 : und row (crv b r n) = kB row b r := by have := und_kB (l := row) (b := b) (r := r); rwa [lr] at this
  rw [u2] at b1
  obtain ⟨t3, v1, v2⟩ := e2 t2
  have c2 : evE P T (.cmp .ne (.call 8 (.cons (.slot 9) (.cons (.slot 4) .nil))) (.call 2 (.cons (.slot 9) (.cons (.slot 10) (.cons (.slot 11) .nil))))) (en o) t1 = .ok (.bool false) t3 := by
    have w1 : evE P T (.call 8 (.cons (.slot 9) (.cons (.slot 4) .nil))) (en o) t1 = .ok (.bool (kB row b r)) t2 := by simp only [evE, evA, bnd_ok, l9, l4, G.d9, G.d4, b1]
    have w2 : evE P T (.call 2 (.cons (.slot 9) (.cons (.slot 10) (.cons (.slot 11) .nil)))) (en o) t2 = .ok (.bool (kB row b r)) t3 := by simp only [evE, evA, bnd_ok, l9, l10, l11, G.d9, G.d10, G.d11, v1]
    exact (cmp_run w1 w2).trans ne_bl
  obtain ⟨t4, m1, m2⟩ := m1_ev (T := T) (s := t3) G R e11
  have c3 : evE P T (.cmp .ne (.newT c19_m1) (.newT (.lst .nil))) (en o) t3 = .ok (.bool false) t4 := by
    have w2 : evE P T (.newT (.lst .nil)) (en o) t4 = .ok (.list []) t4 := by simp only [evE, evN, evA, bnd_ok, List.length_nil, small_z, if_true]
    exact (cmp_run (by rw [evE, m1, bnd_ok]) w2).trans ne_nl
  refine ⟨t4, ?_, ((a2.trans b2).trans v2).trans m2⟩
  unfold s4C
  rw [or_f c1, or_f c2, c3]
def s5C : C := .not (.call 8 (.cons (.slot 9) (.cons (.call 6 (.cons (.call 3 (.cons (.slot 9) (.cons (.slot 11) .nil))) (.cons (.slot 11) (.cons (.slot 2) .nil)))) .nil)))
theorem s5_ev {T : Nat → List D → Hs → Res D} (G : F o row b r n) (R : Dr row b r n) (e8 : ∀ L t, ∃ t', T 8 [.list (iL row), .tuple (iL (crv L r n))] t = .ok (.bool (und row (crv L r n))) t' ∧ Fr t t') (e6 : ∀ L t, T 6 [.int L, .int r, .int (n : Int)] t = .ok (.tuple (iL (crv L r n))) t)
    (e3 : ∀ t, ∃ t', T 3 [.list (iL row), .int r] t = .ok (.int (least r row)) t' ∧ Fr t t') : ∃ s', evE P T s5C (en o) s = .ok (.bool false) s' ∧ Fr s s' := by
  have lr := R.lr
  obtain ⟨t1, a1, a2⟩ := e3 s
  obtain ⟨t2, b1, b2⟩ := e8 (least r row) t1
  have u : und row (crv (least r row) r n) = true := by
    have := und_K.mpr ((least_K (r := r) (l := row) least_0).mp (Int.le_refl _))
    rwa [lr] at this
  rw [u] at b1
  refine ⟨t2, ?_, a2.trans b2⟩
  have w1 : evE P T (.slot 9) (en o) s = .ok (.list (iL row)) s := by rw [evE, l9, G.d9]
  have w2 : evE P T (.call 6 (.cons (.call 3 (.cons (.slot 9) (.cons (.slot 11) .nil))) (.cons (.slot 11) (.cons (.slot 2) .nil)))) (en o) s = .ok (.tuple (iL (crv (least r row) r n))) t1 := by
    simp only [evE, evA, bnd_ok, l9, l11, l2, G.d9, G.d11, G.d2, a1, e6]
  unfold s5C
  exact not_run ((call_run (a2_run w1 w2)).trans b1)
/-! two rows of offers -/
theorem offers_at {T : Nat → List D → Hs → Res D} (RR : Rolls T) (D0 : DiceAt s) (h1 : o 1 = some (cel 0)) (h2 : o 2 = some (.int (n : Int))) (hn : n ≤ 8) : ∃ p q s', evE P T (.newT c19_m3) (en o) s = .ok (.list [.list (iL p), .list (iL q)]) s' ∧ p.length = n ∧ q.length = n ∧ (∀ x, x ∈ p → 0 ≤ x ∧ x < 1000) ∧ (∀ x, x ∈ q → 0 ≤ x ∧ x < 1000) ∧ DiceAt s' := by
  have I : evI P T (.irange (.cons (.cst (.int 2)) .nil)) (en o) s = .ok (.fix ((List.range 2).map fun (i : Nat) => .int (i : Int))) s := irange_n (n := 2) (by simp only [evA, evE, bnd_ok]; rfl) (by omega)
  obtain ⟨acc, s', e, ls, e1, e2, e3, e4⟩ := comp_rel (item := itemF P T [17] (.tslot 17) (.cst (.bool true)) (.newT c19_m2) (en o)) (fun i s' acc => ∃ ls : List (List Int), acc = ls.map (fun l => PyData.list (iL l)) ∧ ls.length = i ∧ (∀ l, l ∈ ls → l.length = n ∧ ∀ x, x ∈ l → 0 ≤ x ∧ x < 1000) ∧ DiceAt s') ((List.range 2).map fun (i : Nat) => .int (i : Int)) turnsN 0 [] s
    (by decide) (by decide) ⟨[], rfl, rfl, by simp, D0⟩ (fun j d s2 acc hj hR => by
      obtain ⟨ls, q1, q2, q3, D⟩ := hR
      have hj' : j < 2 := by have := (List.getElem?_eq_some_iff.mp hj).1; simpa using this
      rw [List.getElem?_map, List.getElem?_range hj'] at hj
      cases hj
      obtain ⟨l, s3, g1, g2, g3, D3⟩ := row_at (o := up o 17 (.int (j : Int))) (n := n) (v := 4) (C1 := c19_m2) RR rfl (by omega) D ((up_of (by decide)).trans h1) ((up_of (by decide)).trans h2) hn
      refine ⟨.list (iL l), s3, item_yes (ρ1 := en (up o 17 (.int (j : Int)))) rfl (by simp only [evE]) g1, ls ++ [l], by rw [q1]; simp, by rw [List.length_append, q2, List.length_singleton], fun x hx => ?_, D3⟩
      rcases List.mem_append.mp hx with hx | hx
      · exact q3 x hx
      · rw [List.mem_singleton.mp hx]; exact ⟨g2, g3⟩)
  rw [List.length_map, List.length_range, Nat.zero_add] at e2
  match ls, e2, e1, e3 with
  | [p, q], _, e1, e3 =>
    have hp := e3 p (by simp)
    have hq := e3 q (by simp)
    refine ⟨p, q, s', ?_, hp.1, hq.1, hp.2, hq.2, e4⟩
    have z : evN P T c19_m3 (en o) s = .ok [.list (iL p), .list (iL q)] s' := by
      unfold c19_m3
      rw [comp_eq I, e, e1]
      rfl
    rw [evE, z, bnd_ok]
end M33

set_option linter.all false
set_option maxHeartbeats 4000000
set_option maxRecDepth 20000
namespace M33
open Ev PySem Cv Bk
variable {k : Nat} {s : Hs} {o : Nat → Option D} {d : D} {row A p q : List Int} {b r : Int} {n : Nat}
theorem out_len {r q : List Int} : (outL r q).length = r.length := by simp [outL]
theorem wt_len {r q : List Int} : (wtL r q).length = r.length := by simp [wtL]
theorem wt_get {r q : List Int} {i : Nat} (h : i < r.length) : (wtL r q).getD i 0 = pre r (i + 1) - gone r q (i + 1) := by
  rw [List.getD_eq_getElem?_getD, wtL, List.getElem?_map, List.getElem?_range h]; rfl
/-- what is drawn and let out, as numbers -/
structure Nm (A p q : List Int) (n : Nat) : Prop where
  lA : A.length = n
  lp : p.length = n
  lq : q.length = n
  n1 : 1 ≤ n
  n8 : n ≤ 8
  bA : ∀ x, x ∈ A → 0 ≤ x ∧ x < 1000
  bp : ∀ x, x ∈ p → 0 ≤ x ∧ x < 1000
  bq : ∀ x, x ∈ q → 0 ≤ x ∧ x < 1000
section
variable (R : Nm A p q n)
theorem Nm.nA (R : Nm A p q n) : Nn A := Nn.of fun x hx => (R.bA x hx).1
theorem Nm.np (R : Nm A p q n) : Nn p := Nn.of fun x hx => (R.bp x hx).1
theorem Nm.nq (R : Nm A p q n) : Nn q := Nn.of fun x hx => (R.bq x hx).1
theorem Nm.nf (R : Nm A p q n) : Nn (outL A p) := Nn.of (out_nn R.nA R.np)
theorem Nm.ns (R : Nm A p q n) : Nn (outL (outL A p) q) := Nn.of (out_nn R.nf R.nq)
theorem out_bd {r o : List Int} (hr : Nn r) (ho : Nn o) (h : r.length = o.length) (hb : ∀ x, x ∈ o → 0 ≤ x ∧ x < 1000) : ∀ x, x ∈ outL r o → 0 ≤ x ∧ x < 1000 := fun x hx => by
  have nn := out_nn hr ho x hx
  obtain ⟨i, hi, e⟩ := List.mem_map.mp hx
  have hi := List.mem_range.mp hi
  have b := hb (o.getD i 0) (by
    rw [List.getD_eq_getElem?_getD, List.getElem?_eq_getElem (by omega)]
    exact List.getElem_mem _)
  have g : gone r o (i + 1) = if gone r o i + o.getD i 0 < pre r (i + 1) then gone r o i + o.getD i 0 else pre r (i + 1) := rfl
  refine ⟨nn, ?_⟩
  rw [← e, g]
  split <;> omega
/-- what waits at both -/
def bo (A p q : List Int) : List Int := (List.range A.length).map fun k => pre A (k + 1) - gone (outL A p) q (k + 1)
theorem bo_len : (bo A p q).length = A.length := by simp [bo]
theorem bo_get {i : Nat} (h : i < A.length) : (bo A p q).getD i 0 = pre A (i + 1) - gone (outL A p) q (i + 1) := by
  rw [List.getD_eq_getElem?_getD, bo, List.getElem?_map, List.getElem?_range h]; rfl
theorem fold_get {z : Nat} (hp : z ≤ p.length) (hq : z ≤ q.length) : (fold (sr p) (sr q)).getD z 0 = fold2 p q z := by
  rw [List.getD_eq_getElem?_getD, fold, List.getElem?_map, List.getElem?_range (by rw [sr_len, sr_len]; omega)]
  show mnl (fold1 (sr p) (sr q) z) = _
  unfold fold2 fold1
  congr 1
  refine List.map_congr_left fun i hi => ?_
  have hi := List.mem_range.mp hi
  rw [sr_get (by omega), sr_get (by omega)]
theorem fold_len : (fold (sr p) (sr q)).length = min (p.length + 1) (q.length + 1) := by simp [fold, sr_len]
/-! the bounds -/
theorem dif_get {a c : List Int} {z : Nat} (ha : z < a.length) (hc : z < c.length) : a.getD z 0 - c.getD z 0 ∈ dif a c := by
  refine List.mem_map.mpr ⟨(a.getD z 0, c.getD z 0), List.mem_of_getElem? (i := z) (List.getElem?_zip_eq_some.mpr ⟨?_, ?_⟩), rfl⟩
  · show a[z]? = some (a.getD z 0)
    rw [List.getD_eq_getElem?_getD, List.getElem?_eq_getElem ha]; rfl
  · show c[z]? = some (c.getD z 0)
    rw [List.getD_eq_getElem?_getD, List.getElem?_eq_getElem hc]; rfl
theorem bound1 (R : Nm A p q n) {c : List Int} (hc : c.length = n + 1) (h : ∀ z, z ≤ n → tgz A z ≤ c.getD z 0) : mxl (wtL A p) ≤ mxl (dif c (sr p)) := by
  have lA := R.lA
  have lp := R.lp
  have n1 := R.n1
  have m := mxl_mem (l := wtL A p) (fun e => by have := congrArg List.length e; rw [wt_len, List.length_nil] at this; omega)
  obtain ⟨i, hi, e⟩ := List.mem_map.mp m
  have hi := List.mem_range.mp hi
  obtain ⟨z, z1, z2⟩ := wait_le (r := A) (o := p) (by omega) (t := i + 1) (by omega)
  have w := mxl_ge (dif_get (a := c) (c := sr p) (z := z) (by omega) (by rw [sr_len]; omega))
  rw [sr_get (by omega)] at w
  have := h z (by omega)
  rw [← e]
  omega
theorem bound2 (R : Nm A p q n) {c : List Int} (hc : c.length = n + 1) (h : ∀ z, z ≤ n → tgz A z ≤ c.getD z 0) : mxl (bo A p q) ≤ mxl (dif c (fold (sr p) (sr q))) := by
  have lA := R.lA
  have lp := R.lp
  have lq := R.lq
  have n1 := R.n1
  have m := mxl_mem (l := bo A p q) (fun e => by have := congrArg List.length e; rw [bo_len, List.length_nil] at this; omega)
  obtain ⟨i, hi, e⟩ := List.mem_map.mp m
  have hi := List.mem_range.mp hi
  obtain ⟨x, x1, x2, x3⟩ := two_from (r := A) (o1 := p) (o2 := q) (by omega) (by omega) (s := 0) rfl rfl (t := i + 1) (Nat.zero_le _) (by omega)
  have w := mxl_ge (dif_get (a := c) (c := fold (sr p) (sr q)) (z := i + 1 - x) (by omega) (by rw [fold_len]; omega))
  rw [fold_get (by omega) (by omega)] at w
  have t := h (i + 1 - x) (by omega)
  have g := tgz_ge (l := A) (z := i + 1 - x) (i := x) (by omega)
  rw [show x + (i + 1 - x) = i + 1 by omega] at g
  rw [← e]
  omega
/-- where nothing waits -/
theorem idle_at (R : Nm A p q n) {z : Nat} (hz : z ≤ n) (h : z = 0 ∨ pre A z - gone (outL A p) q z = 0) : gone A p z = pre A z ∧ gone (outL A p) q z = pre (outL A p) z := by
  rcases h with rfl | h
  · exact ⟨rfl, rfl⟩
  · have lA := R.lA
    have g1 := gone_le (r := A) (o := p) z
    have g2 := gone_le (r := outL A p) (o := q) z
    have e := pre_out (r := A) (o := p) z (by omega)
    exact ⟨by omega, by omega⟩
end
def lst5 (A p q : List Int) (a e : Nat) : List Int := (List.range (e + 2 - a)).map fun j => win A j a + fold2 p q (e + 1 - a - j)
theorem lst5_ne {a e : Nat} (h : a ≤ e) : lst5 A p q a e ≠ [] := fun z => by have := congrArg List.length z; simp [lst5] at this; omega
theorem gone_ge (R : Nm A p q n) {a e : Nat} (hae : a ≤ e) (he : e < n) (h : a = 0 ∨ pre A a - gone (outL A p) q a = 0) : mnl (lst5 A p q a e) ≤ win (outL (outL A p) q) (e + 1 - a) a ∧ win (outL (outL A p) q) (e + 1 - a) a ≤ win A (e + 1 - a) a := by
  have lA := R.lA
  have lp := R.lp
  have lq := R.lq
  have lf : (outL A p).length = n := by rw [out_len, lA]
  obtain ⟨i1, i2⟩ := idle_at R (z := a) (by omega) h
  obtain ⟨x, x1, x2, x3⟩ := two_from (r := A) (o1 := p) (o2 := q) (by omega) (by omega) i1 i2 (t := e + 1) (by omega) (by omega)
  have m : win A (x - a) a + fold2 p q (e + 1 - a - (x - a)) ∈ lst5 A p q a e := List.mem_map.mpr ⟨x - a, List.mem_range.mpr (by omega), rfl⟩
  have w := mnl_le m
  rw [win_pre, show a + (x - a) = x by omega, show e + 1 - a - (x - a) = e + 1 - x by omega] at w
  have p1 := pre_out (r := A) (o := p) a (by omega)
  have p2 := pre_out (r := outL A p) (o := q) a (by omega)
  have p3 := pre_out (r := outL A p) (o := q) (e + 1) (by omega)
  have p4 := pre_out (r := A) (o := p) (e + 1) (by omega)
  have g1 := gone_le (r := A) (o := p) (e + 1)
  have g2 := gone_le (r := outL A p) (o := q) (e + 1)
  rw [win_pre, win_pre, show a + (e + 1 - a) = e + 1 by omega]
  exact ⟨by omega, by omega⟩
structure H (o : Nat → Option D) (A p q : List Int) (n : Nat) : Prop where
  d2 : o 2 = some (.int (n : Int))
  d3 : o 3 = some (.tuple (iL A))
  d6 : o 6 = some (.list (iL (bo A p q)))
  d7 : o 7 = some (.tuple (iL (fold (sr p) (sr q))))
  d14 : o 14 = some (.tuple (iL (outL (outL A p) q)))
theorem H.up {i : Nat} (h : H o A p q n) (hi : ∀ j, j ∈ [2, 3, 6, 7, 14] → j ≠ i) : H (up o i d) A p q n :=
  ⟨(up_of (hi 2 (by decide))).trans h.d2, (up_of (hi 3 (by decide))).trans h.d3, (up_of (hi 6 (by decide))).trans h.d6, (up_of (hi 7 (by decide))).trans h.d7, (up_of (hi 14 (by decide))).trans h.d14⟩
theorem sum_ev {T : Nat → List D → Hs → Res D} {l : List Int} {sl a e : Nat} (hs : (sl = 3 ∨ sl = 14) ∧ o sl = some (.tuple (iL l))) (h8 : o 8 = some (.int (a : Int))) (h19 : o 19 = some (.int (e : Int))) (hae : a ≤ e) (he : e < l.length) :
    evE P T (.bcall .sum (.cons (.slice (.slot sl) (.cons (.slot 8) .nil) (.cons (.bin .add (.slot 19) (.cst (.int 1))) .nil)) .nil)) (en o) s = .ok (.int (win l (e + 1 - a) a)) s := by
  obtain ⟨v, v1, v2⟩ := (Row.t l).mid (s := s) (i := a) (z := e + 1 - a) (by omega)
  rw [show (a : Int) + ((e + 1 - a : Nat) : Int) = (e : Int) + 1 by omega] at v1
  have sm := v2.sum (s := s)
  have sm : biE .sum [v] s = .ok (.int (win l (e + 1 - a) a)) s := sm
  obtain ⟨hs, hl⟩ := hs
  rcases hs with rfl | rfl
  · simp only [evE, evA, bnd_ok, l3, l8, l19, hl, h8, h19, optI, add_i, v1, sm]
  · simp only [evE, evA, bnd_ok, l14, l8, l19, hl, h8, h19, optI, add_i, v1, sm]
theorem m5_ev {T : Nat → List D → Hs → Res D} (G : H o A p q n) (R : Nm A p q n) {a e : Nat} (hae : a ≤ e) (he : e < n) (h8 : o 8 = some (.int (a : Int))) (h19 : o 19 = some (.int (e : Int))) : evN P T c19_m5 (en o) s = .ok (iL (lst5 A p q a e)) s := by
  have lA := R.lA
  have lp := R.lp
  have lq := R.lq
  have n8 := R.n8
  rw [lst5, ← iL_map]
  refine comp_of (enc := fun (j : Nat) => PyData.int (j : Int)) (irange_n (n := e + 2 - a) ?_ (by omega)) (fun j hj => ?_) (by rw [List.length_range]; omega)
  · simp only [evA, evE, bnd_ok, l8, l19, h8, h19, add_i, sub_i]
    rw [show (e : Int) + 2 - (a : Int) = ((e + 2 - a : Nat) : Int) by omega]
  · have hj := List.mem_range.mp hj
    have x3 : up o 23 (.int (j : Int)) 3 = some (.tuple (iL A)) := (up_of (by decide)).trans G.d3
    have x7 : up o 23 (.int (j : Int)) 7 = some (.tuple (iL (fold (sr p) (sr q)))) := (up_of (by decide)).trans G.d7
    have x8 : up o 23 (.int (j : Int)) 8 = some (.int (a : Int)) := (up_of (by decide)).trans h8
    have x19 : up o 23 (.int (j : Int)) 19 = some (.int (e : Int)) := (up_of (by decide)).trans h19
    have x23 : up o 23 (.int (j : Int)) 23 = some (.int (j : Int)) := up_at
    obtain ⟨v, v1, v2⟩ := (Row.t A).mid (s := s) (i := a) (z := j) (by omega)
    have sm := v2.sum (s := s)
    have sm : biE .sum [v] s = .ok (.int (win A j a)) s := sm
    have ix := (Row.t (fold (sr p) (sr q))).ix (s := s) (i := e + 1 - a - j) (by rw [fold_len]; omega)
    rw [fold_get (by omega) (by omega), show ((e + 1 - a - j : Nat) : Int) = (e : Int) + 1 - (a : Int) - (j : Int) by omega] at ix
    refine item_yes (ρ1 := en (up o 23 (.int (j : Int)))) rfl (by simp only [evE]) ?_
    simp only [evE, evA, bnd_ok, l3, l7, l8, l19, l23, x3, x7, x8, x19, x23, optI, add_i, sub_i, v1, sm, ix]
theorem b0_ev {T : Nat → List D → Hs → Res D} (G : H o A p q n) (R : Nm A p q n) {a e : Nat} (hae : a ≤ e) (he : e < n) (hid : a = 0 ∨ pre A a - gone (outL A p) q a = 0) (h8 : o 8 = some (.int (a : Int))) (h19 : o 19 = some (.int (e : Int))) :
    ∃ o', evS P T 100000 c19_b0 (en o) s = .nx (en o') s ∧ H o' A p q n ∧ o' 8 = some (.int (a : Int)) := by
  have lA := R.lA
  have ls : (outL (outL A p) q).length = n := by rw [out_len, out_len, lA]
  obtain ⟨g1, g2⟩ := gone_ge R hae he hid
  have t1 := asgE (sum_ev (T := T) (s := s) ⟨.inl rfl, G.d3⟩ h8 h19 hae (by omega)) (i := 20) (by decide)
  have G1 : H (up o 20 (.int (win A (e + 1 - a) a))) A p q n := G.up (by decide)
  have h81 : up o 20 (.int (win A (e + 1 - a) a)) 8 = some (.int (a : Int)) := (up_of (by decide)).trans h8
  have h191 : up o 20 (.int (win A (e + 1 - a) a)) 19 = some (.int (e : Int)) := (up_of (by decide)).trans h19
  have h201 : up o 20 (.int (win A (e + 1 - a) a)) 20 = some (.int (win A (e + 1 - a) a)) := up_at
  generalize up o 20 (.int (win A (e + 1 - a) a)) = o1 at t1 G1 h81 h191 h201
  have t2 := asgE (sum_ev (T := T) (s := s) ⟨.inr rfl, G1.d14⟩ h81 h191 hae (by omega)) (i := 21) (by decide)
  have G2 : H (up o1 21 (.int (win (outL (outL A p) q) (e + 1 - a) a))) A p q n := G1.up (by decide)
  have h82 : up o1 21 (.int (win (outL (outL A p) q) (e + 1 - a) a)) 8 = some (.int (a : Int)) := (up_of (by decide)).trans h81
  have h192 : up o1 21 (.int (win (outL (outL A p) q) (e + 1 - a) a)) 19 = some (.int (e : Int)) := (up_of (by decide)).trans h191
  have h202 : up o1 21 (.int (win (outL (outL A p) q) (e + 1 - a) a)) 20 = some (.int (win A (e + 1 - a) a)) := (up_of (by decide)).trans h201
  have h212 : up o1 21 (.int (win (outL (outL A p) q) (e + 1 - a) a)) 21 = some (.int (win (outL (outL A p) q) (e + 1 - a) a)) := up_at
  generalize up o1 21 (.int (win (outL (outL A p) q) (e + 1 - a) a)) = o2 at t2 G2 h82 h192 h202 h212
  have m := m5_ev (T := T) (s := s) G2 R hae he h82 h192
  have x : evE P T (.xf .mn (.newT c19_m5) .nil) (en o2) s = .ok (.int (mnl (lst5 A p q a e))) s := by
    rw [xf_run (d := .list (iL (lst5 A p q a e))) (s1 := s) (by rw [evE, m, bnd_ok]) rfl]
    exact xmn_row (.l _) (lst5_ne hae)
  have t3 := asgE x (i := 22) (by decide)
  have G3 : H (up o2 22 (.int (mnl (lst5 A p q a e)))) A p q n := G2.up (by decide)
  have h83 : up o2 22 (.int (mnl (lst5 A p q a e))) 8 = some (.int (a : Int)) := (up_of (by decide)).trans h82
  have h203 : up o2 22 (.int (mnl (lst5 A p q a e))) 20 = some (.int (win A (e + 1 - a) a)) := (up_of (by decide)).trans h202
  have h213 : up o2 22 (.int (mnl (lst5 A p q a e))) 21 = some (.int (win (outL (outL A p) q) (e + 1 - a) a)) := (up_of (by decide)).trans h212
  have h223 : up o2 22 (.int (mnl (lst5 A p q a e))) 22 = some (.int (mnl (lst5 A p q a e))) := up_at
  generalize up o2 22 (.int (mnl (lst5 A p q a e))) = o3 at t3 G3 h83 h203 h213 h223
  have t4 : evE P T (.or (.cmp .lt (.slot 21) (.slot 22)) (.cmp .gt (.slot 21) (.slot 20))) (en o3) s = .ok (.bool false) s := by
    have c1 : evE P T (.cmp .lt (.slot 21) (.slot 22)) (en o3) s = .ok (.bool false) s := by
      simp only [evE, bnd_ok, l21, l22, h213, h223, lt_i]
      rw [decide_eq_false (by omega)]
    rw [or_f c1]
    simp only [evE, bnd_ok, l21, l20, h213, h203, gt_i]
    rw [decide_eq_false (by omega)]
  refine ⟨o3, ?_, G3, h83⟩
  unfold c19_b0
  exact (seq_nx t1).trans ((seq_nx t2).trans ((seq_nx t3).trans ((seq_nx (iff_f t4)).trans done_nx)))
theorem b1_ev {T : Nat → List D → Hs → Res D} (G : H o A p q n) (R : Nm A p q n) {a : Nat} (ha : a < n) (h8 : o 8 = some (.int (a : Int))) : ∃ o', evS P T 100000 c19_b1 (en o) s = .nx (en o') s ∧ H o' A p q n := by
  have lA := R.lA
  have n8 := R.n8
  have idle : ∃ x : Bool, evE P T (.or (.cmp .eq (.slot 8) (.cst (.int 0))) (.cmp .eq (.ix (.slot 6) (.bin .sub (.slot 8) (.cst (.int 1)))) (.cst (.int 0)))) (en o) s = .ok (.bool x) s ∧ (x = true → a = 0 ∨ pre A a - gone (outL A p) q a = 0) := by
    have c : evE P T (.cmp .eq (.slot 8) (.cst (.int 0))) (en o) s = .ok (.bool (decide ((a : Int) = 0))) s := by simp only [evE, bnd_ok, l8, h8, eq_i]
    by_cases z : a = 0
    · rw [decide_eq_true (by omega)] at c
      exact ⟨true, or_t c, fun _ => .inl z⟩
    · rw [decide_eq_false (by omega)] at c
      have ix := (Row.l (bo A p q)).ix (s := s) (i := a - 1) (by rw [bo_len]; omega)
      rw [bo_get (by omega), show a - 1 + 1 = a by omega, show ((a - 1 : Nat) : Int) = (a : Int) - 1 by omega] at ix
      refine ⟨decide (pre A a - gone (outL A p) q a = 0), ?_, fun h => .inr (of_decide_eq_true h)⟩
      rw [or_f c]
      simp only [evE, bnd_ok, l6, l8, G.d6, h8, sub_i, ix, eq_i]
  obtain ⟨x, e1, e2⟩ := idle
  have t1 := asgE e1 (i := 16) (by decide)
  have G1 : H (up o 16 (.bool x)) A p q n := G.up (by decide)
  have h81 : up o 16 (.bool x) 8 = some (.int (a : Int)) := (up_of (by decide)).trans h8
  have h16 : up o 16 (.bool x) 16 = some (.bool x) := up_at
  generalize up o 16 (.bool x) = o1 at t1 G1 h81 h16
  have sl : evE P T (.slot 16) (en o1) s = .ok (.bool x) s := by rw [evE, l16, h16]
  unfold c19_b1
  cases x with
  | false => exact ⟨o1, (seq_nx t1).trans ((seq_nx ((ifs_f sl).trans done_nx)).trans done_nx), G1⟩
  | true =>
    have hid := e2 rfl
    have I : evI P T (.irange (.cons (.slot 8) (.cons (.slot 2) .nil))) (en o1) s = .ok (.fix ((List.range (n - a)).map fun (j : Nat) => .int ((a + j : Nat) : Int))) s := irange_2 (by simp only [evA, evE, bnd_ok, l8, l2, h81, G1.d2]) (by omega) (by omega)
    obtain ⟨ρ', s', e, o', e1, e2, e4, e3⟩ := for_rel (turn := fturn P T 100000 (.tslot 19) c19_b0) (fun i ρ t => ∃ o', ρ = en o' ∧ H o' A p q n ∧ o' 8 = some (.int (a : Int)) ∧ t = s) ((List.range (n - a)).map fun (j : Nat) => .int ((a + j : Nat) : Int)) turnsN 0 (en o1) s (by rw [List.length_map, List.length_range]; show _ < 1000000; omega) ⟨o1, rfl, G1, h81, rfl⟩ (fun j x ρ t hx hr => by
      obtain ⟨o', rfl, G', h8', rfl⟩ := hr
      have hj := (List.getElem?_eq_some_iff.mp hx).1
      rw [List.length_map, List.length_range] at hj
      rw [List.getElem?_map, List.getElem?_range hj] at hx
      cases hx
      obtain ⟨o2, w1, w2, w3⟩ := b0_ev (T := T) (s := t) (o := up o' 19 (.int ((a + j : Nat) : Int))) (G'.up (by decide)) R (a := a) (e := a + j) (by omega) (by omega) hid ((up_of (by decide)).trans h8') up_at
      exact ⟨en o2, t, w1, o2, rfl, w2, w3, rfl⟩)
    rw [e3] at e
    refine ⟨o', (seq_nx t1).trans ((seq_nx ((ifs_t sl).trans ((seq_nx (ρ1 := en o') (s1 := s) ?_).trans done_nx))).trans done_nx), e2⟩
    rw [fors_ok I, e, e1]
theorem s12_ev {T : Nat → List D → Hs → Res D} (G : H o A p q n) (R : Nm A p q n) : ∃ o', evS P T 100000 (.fors (.tslot 8) (.irange (.cons (.slot 2) .nil)) c19_b1) (en o) s = .nx (en o') s ∧ H o' A p q n := by
  have n8 := R.n8
  have I : evI P T (.irange (.cons (.slot 2) .nil)) (en o) s = .ok (.fix ((List.range n).map fun (j : Nat) => .int (j : Int))) s := irange_n (by simp only [evA, evE, bnd_ok, l2, G.d2]) (by omega)
  obtain ⟨ρ', s', e, o', e1, e2, e3⟩ := for_rel (turn := fturn P T 100000 (.tslot 8) c19_b1) (fun i ρ t => ∃ o', ρ = en o' ∧ H o' A p q n ∧ t = s) ((List.range n).map fun (j : Nat) => .int (j : Int)) turnsN 0 (en o) s (by rw [List.length_map, List.length_range]; show _ < 1000000; omega) ⟨o, rfl, G, rfl⟩ (fun j x ρ t hx hr => by
    obtain ⟨o', rfl, G', rfl⟩ := hr
    have hj := (List.getElem?_eq_some_iff.mp hx).1
    rw [List.length_map, List.length_range] at hj
    rw [List.getElem?_map, List.getElem?_range hj] at hx
    cases hx
    obtain ⟨o2, w1, w2⟩ := b1_ev (T := T) (s := t) (o := up o' 8 (.int (j : Int))) (G'.up (by decide)) R (a := j) hj up_at
    exact ⟨en o2, t, w1, o2, rfl, w2, rfl⟩)
  rw [e3] at e
  exact ⟨o', by rw [fors_ok I, e, e1], e2⟩
/-! the last look -/
theorem cw_at_ {r q : List Int} {x : Int} (h : x ∈ cw r q) : ∃ (c a g : Nat), (cells 0 r)[c]? = some a ∧ (cells 0 q)[c]? = some g ∧ x = (g : Int) - (a : Int) := by
  obtain ⟨p, hp, rfl⟩ := List.mem_map.mp h
  obtain ⟨c, hc, e⟩ := List.getElem_of_mem hp
  rw [List.length_zip, List.length_map, List.length_map] at hc
  rw [List.getElem_zip] at e
  refine ⟨c, (cells 0 r)[c], (cells 0 q)[c], List.getElem?_eq_getElem (by omega), List.getElem?_eq_getElem (by omega), ?_⟩
  rw [← e]
  simp
theorem cw_nn (R : Nm A p q n) {x : Int} (h : x ∈ cw A (outL (outL A p) q)) : 0 ≤ x := by
  obtain ⟨c, a, g, h1, h2, rfl⟩ := cw_at_ h
  have lA := R.lA
  have lf : (outL A p).length = n := by rw [out_len, lA]
  have := cell_ge (r := A) (q := outL (outL A p) q) (by rw [out_len, out_len]) R.nA R.ns (fun t ht => by
    rw [pre_out t (by omega)]
    have g1 := gone_le (r := A) (o := p) t
    have g2 := gone_le (r := outL A p) (o := q) t
    rw [pre_out t (by omega)] at g2
    omega) h1 h2
  omega
def s13C : C := .cmp .ne (.newT c19_m6) (.newT (.lst .nil))
theorem s13_ev {T : Nat → List D → Hs → Res D} (G : H o A p q n) (R : Nm A p q n) (e15 : T 15 [.tuple (iL A), .tuple (iL (outL (outL A p) q))] s = .ok (.tuple (iL (cw A (outL (outL A p) q)))) s) (hw : (cw A (outL (outL A p) q)).length < 900000) : evE P T s13C (en o) s = .ok (.bool false) s := by
  have e : evN P T c19_m6 (en o) s = .ok [] s := by
    have z := comp_typ (P := P) (T := T) (s := s) (own := [18]) (tg := .tslot 18) (it := .ival (.call 15 (.cons (.slot 3) (.cons (.slot 14) .nil)))) (cond := .cmp .lt (.slot 18) (.cst (.int 0))) (e := .slot 18) (ρ := en o) (L := cw A (outL (outL A p) q)) (enc := PyData.int) (c := .fix (iL (cw A (outL (outL A p) q)))) (fun x => decide (x < 0)) PyData.int (by simp only [evI, evE, evA, bnd_ok, l3, l14, G.d3, G.d14, e15, val_tup]) .fix (fun x _ => by
      have x18 : up o 18 (.int x) 18 = some (.int x) := up_at
      refine item_if (ρ1 := en (up o 18 (.int x))) rfl ?_ fun _ => by simp only [evE, l18, x18]
      simp only [evE, bnd_ok, l18, x18, lt_i]) (by omega)
    refine z.trans ?_
    rw [List.filter_eq_nil_iff.mpr fun x h => by have := cw_nn R h; simp; omega]
    rfl
  unfold s13C
  have u2 : evE P T (.newT (.lst .nil)) (en o) s = .ok (.list []) s := by simp only [evE, evN, evA, bnd_ok, List.length_nil, small_z, if_true]
  exact (cmp_run (by rw [evE, e, bnd_ok]) u2).trans ne_nl
end M33

set_option linter.all false
set_option maxHeartbeats 4000000
set_option maxRecDepth 20000
namespace M33
open Ev PySem Cv Bk
variable {k : Nat} {s : Hs} {o : Nat → Option D} {d : D} {row A p q : List Int} {b r : Int} {n : Nat}
def s11C : C := .or (.cmp .gt (.xf .mx (.slot 13) .nil) (.call 9 (.cons (.slot 4) (.cons (.call 13 (.cons (.ix (.slot 5) (.cst (.int 0))) .nil)) .nil)))) (.cmp .gt (.xf .mx (.slot 6) .nil) (.call 9 (.cons (.slot 4) (.cons (.slot 7) .nil))))
theorem b2_eq : c19_b2 = (.seq (.asg (.tslot 2) (.bin .add (.cst (.int 1)) (.call 17 (.cons (.slot 1) (.cons (.cst (.int 8)) .nil)))))
  (.seq (.asg (.ttup (.cons (.tslot 9) (.cons (.tslot 10) (.cons (.tslot 11) .nil)))) (.tup (.cons (.newT c19_m0) (.cons (.call 17 (.cons (.slot 1) (.cons (.cst (.int 4)) .nil))) (.cons (.bin .add (.cst (.int 1)) (.call 17 (.cons (.slot 1) (.cons (.cst (.int 2)) .nil)))) .nil)))))
  (.seq (.asg (.tslot 3) (.ix (.call 4 (.cons (.slot 9) (.cons (.slot 10) (.cons (.slot 11) .nil)))) (.cst (.int 0))))
  (.seq (.asg (.tslot 4) (.call 6 (.cons (.slot 10) (.cons (.slot 11) (.cons (.slot 2) .nil)))))
  (.seq (iff s4C)
  (.seq (iff s5C)
  (.seq (.asg (.tslot 5) (.newT c19_m3))
  (.seq (.asg (.ttup (.cons (.tslot 12) (.cons (.tslot 13) .nil))) (.call 12 (.cons (.slot 3) (.cons (.ix (.slot 5) (.cst (.int 0))) .nil))))
  (.seq (.asg (.ttup (.cons (.tslot 14) (.cons (.tslot 15) .nil))) (.call 12 (.cons (.slot 12) (.cons (.ix (.slot 5) (.cst (.int 1))) .nil))))
  (.seq (.asg (.tslot 6) (.newT c19_m4))
  (.seq (.asg (.tslot 7) (.call 7 (.cons (.call 13 (.cons (.ix (.slot 5) (.cst (.int 0))) .nil)) (.cons (.call 13 (.cons (.ix (.slot 5) (.cst (.int 1))) .nil)) .nil))))
  (.seq (iff s11C)
  (.seq (.fors (.tslot 8) (.irange (.cons (.slot 2) .nil)) c19_b1)
  (.seq (iff s13C) .done)))))))))))))) := rfl
/-- what the calls of the program give -/
structure Calls (T : Nat → List D → Hs → Res D) : Prop where
  rr : Rolls T
  sh : ∀ l b r t, l.length < 900 → ∃ t', T 4 [.list (iL l), .int b, .int r] t = .ok (.tuple [.tuple (iL (shp b r b 0 l).1), .tuple (iL (shp b r b 0 l).2)]) t' ∧ Fr t t'
  cv : ∀ b r (n : Nat) t, n < 900 → T 6 [.int b, .int r, .int (n : Int)] t = .ok (.tuple (iL (crv b r n))) t
  un : ∀ d l c t, Row d l → l.length < 900 → ∃ t', T 8 [d, .tuple (iL c)] t = .ok (.bool (und l c)) t' ∧ Fr t t'
  kp : ∀ l b r t, l.length < 900 → ∃ t', T 2 [.list (iL l), .int b, .int r] t = .ok (.bool (kB l b r)) t' ∧ Fr t t'
  tg : ∀ d l t, Row d l → l.length < 900 → ∃ t', T 11 [d] t = .ok (.tuple (iL (tg l))) t' ∧ Fr t t'
  sr : ∀ d l t, Row d l → l.length < 900 → ∃ t', T 13 [d] t = .ok (.tuple (iL (sr l))) t' ∧ Fr t t'
  ls : ∀ l r t, l.length < 900 → ∃ t', T 3 [.list (iL l), .int r] t = .ok (.int (least r l)) t' ∧ Fr t t'
  sv : ∀ d e x y t, Row d x → Row e y → x.length = y.length → x.length < 900 → ∃ t', T 12 [d, e] t = .ok (.tuple [.tuple (iL (outL x y)), .tuple (iL (wtL x y))]) t' ∧ Fr t t'
  fo : ∀ a b t, a.length < 900 → b.length < 900 → T 7 [.tuple (iL a), .tuple (iL b)] t = .ok (.tuple (iL (fold a b))) t
  mq : ∀ a b t, a.length < 900 → dif a b ≠ [] → T 9 [.tuple (iL a), .tuple (iL b)] t = .ok (.int (mxl (dif a b))) t
  cw : ∀ x y t, (∀ v, v ∈ x → 0 ≤ v ∧ v < 1000) → (∀ v, v ∈ y → 0 ≤ v ∧ v < 1000) → x.length < 800 → y.length < 800 → T 15 [.tuple (iL x), .tuple (iL y)] t = .ok (.tuple (iL (cw x y))) t
theorem calls : Calls (Ev.run P 100000 19) where
  rr := rolls 18
  sh := fun l b r t h => shaped_at (k := 17) (s := t) h
  cv := fun b r n t h => crv_at (k := 18) (s := t) h
  un := fun d l c t R h => under_at (k := 16) (s := t) R h
  kp := fun l b r t h => keeps_at (k := 17) (s := t) h
  tg := fun d l t R h => tg_at (k := 17) (s := t) R h
  sr := fun d l t R h => sr_at (k := 17) (s := t) R h
  ls := fun l r t h => least_at (k := 17) (s := t) h
  sv := fun d e x y t R R2 h1 h2 => serve_at (k := 17) (s := t) R R2 h1 h2
  fo := fun a b t h1 h2 => fold_at (k := 18) (s := t) (Row.t a) (Row.t b) h1 h2
  mq := fun a b t h1 h2 => queue_at (k := 18) (s := t) h1 h2
  cw := fun x y t h1 h2 h3 h4 => cw_at (k := 17) (s := t) (Row.t x) (Row.t y) h1 h2 h3 h4
def o0 (a0 : D) : Nat → Option D := fun i => if i = 0 then some a0 else if i = 1 then some (cel 0) else none
theorem dif_ne {a b : List Int} (ha : a ≠ []) (hb : b ≠ []) : dif a b ≠ [] := by
  cases a with
  | nil => exact absurd rfl ha
  | cons x a =>
    cases b with
    | nil => exact absurd rfl hb
    | cons y b => intro e; simp [dif] at e
theorem len_ne {l : List Int} {m : Nat} (h : l.length = m + 1) : l ≠ [] := fun e => by rw [e] at h; simp at h
theorem body_ev {T : Nat → List D → Hs → Res D} (Hc : Calls T) (a0 : D) (Di : DiceAt s) : ∃ o' s', evS P T 100000 c19_b2 (en (o0 a0)) s = .nx (en o') s' := by
  have d1 : o0 a0 1 = some (cel 0) := rfl
  obtain ⟨m, s1, r1, r2, D1⟩ := Hc.rr Di 8 (by omega) (by omega)
  have r1 : T 17 [cel 0, .int 8] s = .ok (.int (m : Int)) s1 := r1
  have e0 : evE P T (.bin .add (.cst (.int 1)) (.call 17 (.cons (.slot 1) (.cons (.cst (.int 8)) .nil)))) (en (o0 a0)) s = .ok (.int ((1 + m : Nat) : Int)) s1 := by
    simp only [evE, evA, bnd_ok, l1, d1, r1, add_i]; rfl
  generalize hn : 1 + m = n at e0
  have d1' : up (o0 a0) 2 (.int (n : Int)) 1 = some (cel 0) := rfl
  have d2' : up (o0 a0) 2 (.int (n : Int)) 2 = some (.int (n : Int)) := up_at
  have t0 := asgE e0 (i := 2) (by decide)
  generalize up (o0 a0) 2 (.int (n : Int)) = o1 at t0 d1' d2'
  obtain ⟨row, s2, e1, lr, rr, D2⟩ := row_at (n := n) (v := 5) (C1 := c19_m0) Hc.rr rfl (by omega) D1 d1' d2' (by omega)
  obtain ⟨b, s3, b1, b2, D3⟩ := Hc.rr D2 4 (by omega) (by omega)
  obtain ⟨c, s4, c1, c2, D4⟩ := Hc.rr D3 2 (by omega) (by omega)
  have b1 : T 17 [cel 0, .int 4] s2 = .ok (.int (b : Int)) s3 := b1
  have c1 : T 17 [cel 0, .int 2] s3 = .ok (.int (c : Int)) s4 := c1
  have h1 : evE P T (.call 17 (.cons (.slot 1) (.cons (.cst (.int 4)) .nil))) (en o1) s2 = .ok (.int (b : Int)) s3 := by simp only [evE, evA, bnd_ok, l1, d1', b1]
  have h2 : evE P T (.bin .add (.cst (.int 1)) (.call 17 (.cons (.slot 1) (.cons (.cst (.int 2)) .nil)))) (en o1) s3 = .ok (.int ((1 + c : Nat) : Int)) s4 := by
    simp only [evE, evA, bnd_ok, l1, d1', c1, add_i]; rfl
  have t1 := asgE3 (tup3_run e1 h1 h2) (i := 9) (j := 10) (l := 11) (by decide) (by decide) (by decide)
  generalize hr : ((1 + c : Nat) : Int) = r at t1
  generalize hb : (b : Int) = bb at t1
  have R : Dr row bb r n := ⟨lr, by omega, by omega, rr, by omega, by omega⟩
  have q1 : up (up (up o1 9 (.list (iL row))) 10 (.int bb)) 11 (.int r) 1 = some (cel 0) := (up_of (by decide)).trans ((up_of (by decide)).trans ((up_of (by decide)).trans d1'))
  have q2 : up (up (up o1 9 (.list (iL row))) 10 (.int bb)) 11 (.int r) 2 = some (.int (n : Int)) := (up_of (by decide)).trans ((up_of (by decide)).trans ((up_of (by decide)).trans d2'))
  have q9 : up (up (up o1 9 (.list (iL row))) 10 (.int bb)) 11 (.int r) 9 = some (.list (iL row)) := (up_of (by decide)).trans ((up_of (by decide)).trans up_at)
  have q10 : up (up (up o1 9 (.list (iL row))) 10 (.int bb)) 11 (.int r) 10 = some (.int bb) := (up_of (by decide)).trans up_at
  have q11 : up (up (up o1 9 (.list (iL row))) 10 (.int bb)) 11 (.int r) 11 = some (.int r) := up_at
  generalize up (up (up o1 9 (.list (iL row))) 10 (.int bb)) 11 (.int r) = o2 at t1 q1 q2 q9 q10 q11
  have n8 := R.n8
  have n1 := R.n1
  obtain ⟨s5, f1, f2⟩ := Hc.sh row bb r s4 (by omega)
  have g1 : evE P T (.ix (.call 4 (.cons (.slot 9) (.cons (.slot 10) (.cons (.slot 11) .nil)))) (.cst (.int 0))) (en o2) s4 = .ok (.tuple (iL (sho bb r row))) s5 := by
    have i0 : ∀ x y : D, ixA (.tuple [x, y]) (.int 0) s5 = .ok x s5 := fun _ _ => rfl
    simp only [evE, evA, bnd_ok, l9, l10, l11, q9, q10, q11, f1, i0]
    rfl
  have t2 := asgE g1 (i := 3) (by decide)
  have D5 := D4.fr f2
  have p1 : up o2 3 (.tuple (iL (sho bb r row))) 1 = some (cel 0) := (up_of (by decide)).trans q1
  have p2 : up o2 3 (.tuple (iL (sho bb r row))) 2 = some (.int (n : Int)) := (up_of (by decide)).trans q2
  have p3 : up o2 3 (.tuple (iL (sho bb r row))) 3 = some (.tuple (iL (sho bb r row))) := up_at
  have p9 : up o2 3 (.tuple (iL (sho bb r row))) 9 = some (.list (iL row)) := (up_of (by decide)).trans q9
  have p10 : up o2 3 (.tuple (iL (sho bb r row))) 10 = some (.int bb) := (up_of (by decide)).trans q10
  have p11 : up o2 3 (.tuple (iL (sho bb r row))) 11 = some (.int r) := (up_of (by decide)).trans q11
  generalize up o2 3 (.tuple (iL (sho bb r row))) = o3 at t2 p1 p2 p3 p9 p10 p11
  have g2 : evE P T (.call 6 (.cons (.slot 10) (.cons (.slot 11) (.cons (.slot 2) .nil)))) (en o3) s5 = .ok (.tuple (iL (crv bb r n))) s5 := by
    have := Hc.cv bb r n s5 (by omega)
    simp only [evE, evA, bnd_ok, l10, l11, l2, p10, p11, p2, this]
  have t3 := asgE g2 (i := 4) (by decide)
  have G : F (up o3 4 (.tuple (iL (crv bb r n)))) row bb r n := ⟨(up_of (by decide)).trans p1, (up_of (by decide)).trans p2, (up_of (by decide)).trans p3, up_at, (up_of (by decide)).trans p9, (up_of (by decide)).trans p10, (up_of (by decide)).trans p11⟩
  generalize up o3 4 (.tuple (iL (crv bb r n))) = o4 at t3 G
  have lo := R.lo
  obtain ⟨s6, f3, f4⟩ := s4_ev (T := T) (s := s5) G R (fun d l t Rd hl => Hc.un d l _ t Rd hl) (fun t => Hc.kp row bb r t (by omega)) (fun t => Hc.tg _ _ t (.t _) (by omega))
  have t4 := iff_f f3
  obtain ⟨s7, f5, f6⟩ := s5_ev (T := T) (s := s6) G R (fun L t => Hc.un _ row _ t (.l row) (by omega)) (fun L t => Hc.cv L r n t (by omega)) (fun t => Hc.ls row r t (by omega))
  have t5 := iff_f f5
  have D7 : DiceAt s7 := (D5.fr f4).fr f6
  obtain ⟨p, q, s8, g3, lp, lq, bp, bq, D8⟩ := offers_at (o := o4) Hc.rr D7 G.d1 G.d2 n8
  have t6 := asgE g3 (i := 5) (by decide)
  have bA := R.bd
  generalize hA : sho bb r row = A at lo bA
  have N : Nm A p q n := ⟨lo, lp, lq, n1, n8, bA, bp, bq⟩
  have cA : ∀ z, z ≤ n → tgz A z ≤ (crv bb r n).getD z 0 := fun z hz => by rw [← hA]; exact tg_crv R hz
  have x2 : up o4 5 (.list [.list (iL p), .list (iL q)]) 2 = some (.int (n : Int)) := (up_of (by decide)).trans G.d2
  have x3 : up o4 5 (.list [.list (iL p), .list (iL q)]) 3 = some (.tuple (iL A)) := by rw [← hA]; exact (up_of (by decide)).trans G.d3
  have x4 : up o4 5 (.list [.list (iL p), .list (iL q)]) 4 = some (.tuple (iL (crv bb r n))) := (up_of (by decide)).trans G.d4
  have x5 : up o4 5 (.list [.list (iL p), .list (iL q)]) 5 = some (.list [.list (iL p), .list (iL q)]) := up_at
  generalize up o4 5 (.list [.list (iL p), .list (iL q)]) = o5 at t6 x2 x3 x4 x5
  have i0 : ∀ t : Hs, ixA (.list [.list (iL p), .list (iL q)]) (.int 0) t = .ok (.list (iL p)) t := fun _ => rfl
  have i1 : ∀ t : Hs, ixA (.list [.list (iL p), .list (iL q)]) (.int 1) t = .ok (.list (iL q)) t := fun _ => rfl
  obtain ⟨s9, f7, f8⟩ := Hc.sv _ _ A p s8 (.t A) (.l p) (by omega) (by omega)
  have g4 : evE P T (.call 12 (.cons (.slot 3) (.cons (.ix (.slot 5) (.cst (.int 0))) .nil))) (en o5) s8 = .ok (.tuple [.tuple (iL (outL A p)), .tuple (iL (wtL A p))]) s9 := by
    simp only [evE, evA, bnd_ok, l3, l5, x3, x5, i0, f7]
  have t7 := asgE2 g4 (i := 12) (j := 13) (by decide) (by decide)
  have y2 : up (up o5 12 (.tuple (iL (outL A p)))) 13 (.tuple (iL (wtL A p))) 2 = some (.int (n : Int)) := (up_of (by decide)).trans ((up_of (by decide)).trans x2)
  have y3 : up (up o5 12 (.tuple (iL (outL A p)))) 13 (.tuple (iL (wtL A p))) 3 = some (.tuple (iL A)) := (up_of (by decide)).trans ((up_of (by decide)).trans x3)
  have y4 : up (up o5 12 (.tuple (iL (outL A p)))) 13 (.tuple (iL (wtL A p))) 4 = some (.tuple (iL (crv bb r n))) := (up_of (by decide)).trans ((up_of (by decide)).trans x4)
  have y5 : up (up o5 12 (.tuple (iL (outL A p)))) 13 (.tuple (iL (wtL A p))) 5 = some (.list [.list (iL p), .list (iL q)]) := (up_of (by decide)).trans ((up_of (by decide)).trans x5)
  have y12 : up (up o5 12 (.tuple (iL (outL A p)))) 13 (.tuple (iL (wtL A p))) 12 = some (.tuple (iL (outL A p))) := (up_of (by decide)).trans up_at
  have y13 : up (up o5 12 (.tuple (iL (outL A p)))) 13 (.tuple (iL (wtL A p))) 13 = some (.tuple (iL (wtL A p))) := up_at
  generalize up (up o5 12 (.tuple (iL (outL A p)))) 13 (.tuple (iL (wtL A p))) = o6 at t7 y2 y3 y4 y5 y12 y13
  have lf : (outL A p).length = n := by rw [out_len, lo]
  obtain ⟨s10, f9, f10⟩ := Hc.sv _ _ (outL A p) q s9 (.t (outL A p)) (.l q) (by omega) (by omega)
  have g5 : evE P T (.call 12 (.cons (.slot 12) (.cons (.ix (.slot 5) (.cst (.int 1))) .nil))) (en o6) s9 = .ok (.tuple [.tuple (iL (outL (outL A p) q)), .tuple (iL (wtL (outL A p) q))]) s10 := by
    simp only [evE, evA, bnd_ok, l12, l5, y12, y5, i1, f9]
  have t8 := asgE2 g5 (i := 14) (j := 15) (by decide) (by decide)
  generalize hS : outL (outL A p) q = S at t8
  generalize hW : wtL (outL A p) q = W at t8
  have z2 : up (up o6 14 (.tuple (iL S))) 15 (.tuple (iL W)) 2 = some (.int (n : Int)) := (up_of (by decide)).trans ((up_of (by decide)).trans y2)
  have z3 : up (up o6 14 (.tuple (iL S))) 15 (.tuple (iL W)) 3 = some (.tuple (iL A)) := (up_of (by decide)).trans ((up_of (by decide)).trans y3)
  have z4 : up (up o6 14 (.tuple (iL S))) 15 (.tuple (iL W)) 4 = some (.tuple (iL (crv bb r n))) := (up_of (by decide)).trans ((up_of (by decide)).trans y4)
  have z5 : up (up o6 14 (.tuple (iL S))) 15 (.tuple (iL W)) 5 = some (.list [.list (iL p), .list (iL q)]) := (up_of (by decide)).trans ((up_of (by decide)).trans y5)
  have z13 : up (up o6 14 (.tuple (iL S))) 15 (.tuple (iL W)) 13 = some (.tuple (iL (wtL A p))) := (up_of (by decide)).trans ((up_of (by decide)).trans y13)
  have z14 : up (up o6 14 (.tuple (iL S))) 15 (.tuple (iL W)) 14 = some (.tuple (iL S)) := (up_of (by decide)).trans up_at
  have z15 : up (up o6 14 (.tuple (iL S))) 15 (.tuple (iL W)) 15 = some (.tuple (iL W)) := up_at
  generalize up (up o6 14 (.tuple (iL S))) 15 (.tuple (iL W)) = o7 at t8 z2 z3 z4 z5 z13 z14 z15
  have m4 : evN P T c19_m4 (en o7) s10 = .ok (iL (bo A p q)) s10 := by
    rw [bo, ← iL_map, lo]
    refine comp_of (enc := fun (j : Nat) => PyData.int (j : Int)) (irange_n (n := n) (by simp only [evA, evE, bnd_ok, l2, z2]) (by omega)) (fun j hj => ?_) (by rw [List.length_range]; omega)
    have hj := List.mem_range.mp hj
    have w13 : up o7 18 (.int (j : Int)) 13 = some (.tuple (iL (wtL A p))) := (up_of (by decide)).trans z13
    have w15 : up o7 18 (.int (j : Int)) 15 = some (.tuple (iL W)) := (up_of (by decide)).trans z15
    have w18 : up o7 18 (.int (j : Int)) 18 = some (.int (j : Int)) := up_at
    have k1 := (Row.t (wtL A p)).ix (s := s10) (i := j) (by rw [wt_len]; omega)
    rw [wt_get (by omega)] at k1
    have k2 := (Row.t W).ix (s := s10) (i := j) (by rw [← hW, wt_len]; omega)
    rw [← hW, wt_get (by omega), pre_out (j + 1) (by omega), hW] at k2
    refine item_yes (ρ1 := en (up o7 18 (.int (j : Int)))) rfl (by simp only [evE]) ?_
    simp only [evE, bnd_ok, l13, l15, l18, w13, w15, w18, k1, k2, add_i]
    congr 2
    omega
  have t9 := asgE (d := .list (iL (bo A p q))) (s1 := s10) (e := .newT c19_m4) (by rw [evE, m4, bnd_ok]) (i := 6) (by decide)
  have v2 : up o7 6 (.list (iL (bo A p q))) 2 = some (.int (n : Int)) := (up_of (by decide)).trans z2
  have v3 : up o7 6 (.list (iL (bo A p q))) 3 = some (.tuple (iL A)) := (up_of (by decide)).trans z3
  have v4 : up o7 6 (.list (iL (bo A p q))) 4 = some (.tuple (iL (crv bb r n))) := (up_of (by decide)).trans z4
  have v5 : up o7 6 (.list (iL (bo A p q))) 5 = some (.list [.list (iL p), .list (iL q)]) := (up_of (by decide)).trans z5
  have v6 : up o7 6 (.list (iL (bo A p q))) 6 = some (.list (iL (bo A p q))) := up_at
  have v13 : up o7 6 (.list (iL (bo A p q))) 13 = some (.tuple (iL (wtL A p))) := (up_of (by decide)).trans z13
  have v14 : up o7 6 (.list (iL (bo A p q))) 14 = some (.tuple (iL S)) := (up_of (by decide)).trans z14
  generalize up o7 6 (.list (iL (bo A p q))) = o8 at t9 v2 v3 v4 v5 v6 v13 v14
  obtain ⟨s11, f11, f12⟩ := Hc.sr _ p s10 (.l p) (by omega)
  obtain ⟨s12, f13, f14⟩ := Hc.sr _ q s11 (.l q) (by omega)
  have lsp : (sr p).length = n + 1 := by rw [sr_len, lp]
  have lsq : (sr q).length = n + 1 := by rw [sr_len, lq]
  have g6 : evE P T (.call 7 (.cons (.call 13 (.cons (.ix (.slot 5) (.cst (.int 0))) .nil)) (.cons (.call 13 (.cons (.ix (.slot 5) (.cst (.int 1))) .nil)) .nil))) (en o8) s10 = .ok (.tuple (iL (fold (sr p) (sr q)))) s12 := by
    have ff := Hc.fo (sr p) (sr q) s12 (by omega) (by omega)
    simp only [evE, evA, bnd_ok, l5, v5, i0, i1, f11, f13, ff]
  have t10 := asgE g6 (i := 7) (by decide)
  have u4 : up o8 7 (.tuple (iL (fold (sr p) (sr q)))) 4 = some (.tuple (iL (crv bb r n))) := (up_of (by decide)).trans v4
  have u5 : up o8 7 (.tuple (iL (fold (sr p) (sr q)))) 5 = some (.list [.list (iL p), .list (iL q)]) := (up_of (by decide)).trans v5
  have u13 : up o8 7 (.tuple (iL (fold (sr p) (sr q)))) 13 = some (.tuple (iL (wtL A p))) := (up_of (by decide)).trans v13
  have GH : H (up o8 7 (.tuple (iL (fold (sr p) (sr q))))) A p q n := ⟨(up_of (by decide)).trans v2, (up_of (by decide)).trans v3, (up_of (by decide)).trans v6, up_at, by rw [hS]; exact (up_of (by decide)).trans v14⟩
  generalize up o8 7 (.tuple (iL (fold (sr p) (sr q)))) = o9 at t10 u4 u5 u13 GH
  obtain ⟨s13, f15, f16⟩ := Hc.sr _ p s12 (.l p) (by omega)
  have lc : (crv bb r n).length = n + 1 := crv_len
  have dn1 : dif (crv bb r n) (sr p) ≠ [] := dif_ne (len_ne lc) (len_ne lsp)
  have lfo : (fold (sr p) (sr q)).length = n + 1 := by rw [fold_len]; omega
  have dn2 : dif (crv bb r n) (fold (sr p) (sr q)) ≠ [] := dif_ne (len_ne lc) (len_ne lfo)
  have c11 : evE P T s11C (en o9) s12 = .ok (.bool false) s13 := by
    have w1 : evE P T (.xf .mx (.slot 13) .nil) (en o9) s12 = .ok (.int (mxl (wtL A p))) s12 := by
      rw [xf_run (d := .tuple (iL (wtL A p))) (s1 := s12) (by rw [evE, l13, u13]) rfl]
      exact xmx_row (.t _) (fun e => by have := congrArg List.length e; rw [wt_len, List.length_nil] at this; omega)
    have w2 : evE P T (.call 9 (.cons (.slot 4) (.cons (.call 13 (.cons (.ix (.slot 5) (.cst (.int 0))) .nil)) .nil))) (en o9) s12 = .ok (.int (mxl (dif (crv bb r n) (sr p)))) s13 := by
      have mq := Hc.mq (crv bb r n) (sr p) s13 (by omega) dn1
      simp only [evE, evA, bnd_ok, l4, l5, u4, u5, i0, f15, mq]
    have w3 : evE P T (.cmp .gt (.xf .mx (.slot 13) .nil) (.call 9 (.cons (.slot 4) (.cons (.call 13 (.cons (.ix (.slot 5) (.cst (.int 0))) .nil)) .nil)))) (en o9) s12 = .ok (.bool false) s13 := by
      rw [cmp_run w1 w2, gt_i, decide_eq_false (by have := bound1 N lc cA; omega)]
    have w4 : evE P T (.xf .mx (.slot 6) .nil) (en o9) s13 = .ok (.int (mxl (bo A p q))) s13 := by
      rw [xf_run (d := .list (iL (bo A p q))) (s1 := s13) (by rw [evE, l6, GH.d6]) rfl]
      exact xmx_row (.l _) (fun e => by have := congrArg List.length e; rw [bo_len, List.length_nil] at this; omega)
    have w5 : evE P T (.call 9 (.cons (.slot 4) (.cons (.slot 7) .nil))) (en o9) s13 = .ok (.int (mxl (dif (crv bb r n) (fold (sr p) (sr q))))) s13 := by
      have mq := Hc.mq (crv bb r n) (fold (sr p) (sr q)) s13 (by omega) dn2
      simp only [evE, evA, bnd_ok, l4, l7, u4, GH.d7, mq]
    unfold s11C
    rw [or_f w3, cmp_run w4 w5, gt_i, decide_eq_false (by have := bound2 N lc cA; omega)]
  have t11 := iff_f c11
  obtain ⟨o10, t12, G10⟩ := s12_ev (T := T) (s := s13) GH N
  have bS : ∀ v, v ∈ S → 0 ≤ v ∧ v < 1000 := by rw [← hS]; exact out_bd N.nf N.nq (by omega) bq
  have lS : S.length = n := by rw [← hS, out_len, lf]
  have lw : (cw A S).length < 900000 := by
    have a := zip_le (a := (cells 0 A).map fun (v : Nat) => (v : Int)) (b := (cells 0 S).map fun (v : Nat) => (v : Int))
    have b := cells_len (j := 0) bA
    rw [List.length_map] at a
    unfold cw
    rw [List.length_map]
    omega
  have t13 := iff_f (s13_ev (T := T) (s := s13) G10 N (by rw [hS]; exact Hc.cw A S s13 bA bS (by omega) (by omega)) (by rw [hS]; exact lw))
  rw [b2_eq]
  exact ⟨_, s13, (seq_nx t0).trans ((seq_nx t1).trans ((seq_nx t2).trans ((seq_nx t3).trans ((seq_nx t4).trans ((seq_nx t5).trans ((seq_nx t6).trans ((seq_nx t7).trans ((seq_nx t8).trans ((seq_nx t9).trans ((seq_nx t10).trans ((seq_nx t11).trans ((seq_nx t12).trans ((seq_nx t13).trans done_nx)))))))))))))⟩
theorem c19_eq : c19 = .seq (.fors (.tslot 1) (.ival (.call 18 (.cons (.slot 0) (.cons (.cst (.int 1)) .nil)))) c19_b2) (.seq (.ret (.cst (.bool true))) .done) := rfl
def oz (a0 : D) : Nat → Option D := fun i => if i = 0 then some a0 else none
theorem one_turn {T : Nat → List D → Hs → Res D} {a0 : D} {s s1 : Hs} {ρ1 : Ev.Env} (h : evS P T 100000 c19_b2 (en (o0 a0)) s = .nx ρ1 s1) (k : Nat) :
    forN (fturn P T 100000 (.tslot 1) c19_b2) (k + 2) (.fix [cel 0]) (en (oz a0)) s = .nx ρ1 s1 := by
  have e : fturn P T 100000 (.tslot 1) c19_b2 (cel 0) (en (oz a0)) s = .nx ρ1 s1 := h
  unfold forN
  simp only [Cur.next, e]
  unfold forN
  simp only [Cur.next]
theorem law_at (ns : List Int) : ∃ s', Ev.run P 100000 20 19 [scriptD ns] s0 = .ok (.bool true) s' := by
  obtain ⟨a, b, c, e1⟩ := rounds_run (P := P) (F := 100000) (fr := 18) (fd := 16) rfl rfl 17 ns
  have e1 : Ev.run P 100000 19 18 [scriptD ns, .int 1] s0 = .ok (.list [cel 0]) (dh 1 s0.h a b c) := e1
  have Di : DiceAt (dh 1 s0.h a b c) := ⟨Nat.lt.base 0, a, b, c, rfl⟩
  generalize dh 1 s0.h a b c = s1 at e1 Di
  obtain ⟨o', s2, e2⟩ := body_ev calls (scriptD ns) Di
  refine ⟨s2, run_ret (d := ⟨1, 24, c19⟩) rfl rfl ?_⟩
  show evS P (Ev.run P 100000 19) 100000 c19 (en (oz (scriptD ns))) s0 = _
  generalize Ev.run P 100000 19 = T at *
  have i1 : evI P T (.ival (.call 18 (.cons (.slot 0) (.cons (.cst (.int 1)) .nil)))) (en (oz (scriptD ns))) s0 = .ok (.fix [cel 0]) s1 := by
    have x0 : oz (scriptD ns) 0 = some (scriptD ns) := rfl
    simp only [evI, evE, evA, bnd_ok, l0, x0, e1, val_lst]
  rw [c19_eq]
  refine (seq_nx (ρ1 := en o') (s1 := s2) ?_).trans (seq_ret (ret_e (by simp only [evE])))
  rw [fors_ok i1]
  exact one_turn e2 999998
end M33

set_option linter.all false
set_option maxRecDepth 1000000
set_option maxHeartbeats 0
namespace K33
open Ev PySem PySem.Spec PyProof.Rows L2
-- refilled
def c0 : C := (.seq (.ret (.bin .add (.bcall .min (.cons (.slot 0) (.cons (.slot 1) .nil))) (.slot 2))) .done)
-- most_over
def c1 : C := (.seq (.asg (.tslot 2) (.newC (.lst .nil))) (.seq (.asg (.tslot 3) (.cst (.int 0))) (.seq (.fors (.tslot 4) (.ival (.slot 0)) (.seq (.asg (.tslot 3) (.bin .sub (.bin .add (.bcall .max (.cons (.slot 3) (.cons (.cst (.int 0)) .nil))) (.slot 4)) (.slot 1))) (.seq (.expr (.bmeth .append (.slot 2) (.cons (.slot 3) .nil))) .done))) (.seq (.ret (.slot 2)) .done))))
-- keeps
def c2 : C := (.seq (.ret (.bcall .all (.cons (.newT (.comp [3] (.tslot 3) (.ival (.call 1 (.cons (.slot 0) (.cons (.slot 2) .nil)))) (.cst (.bool true)) (.cmp .le (.slot 3) (.slot 1)))) .nil))) .done)
-- least_burst
def c3 : C := (.seq (.ret (.bcall .max (.cons (.bin .add (.newT (.lst (.cons (.cst (.int 0)) .nil))) (.call 1 (.cons (.slot 0) (.cons (.slot 1) .nil)))) .nil))) .done)
-- shaped
def c4 : C := (.seq (.asg (.tslot 3) (.slot 1)) (.seq (.asg (.tslot 4) (.cst (.int 0))) (.seq (.asg (.tslot 5) (.newC (.lst .nil))) (.seq (.asg (.tslot 6) (.newC (.lst .nil))) (.seq (.fors (.tslot 7) (.ival (.slot 0)) (.seq (.asg (.tslot 3) (.call 0 (.cons (.slot 3) (.cons (.slot 1) (.cons (.slot 2) .nil))))) (.seq (.asg (.tslot 4) (.bin .add (.slot 4) (.slot 7))) (.seq (.asg (.tslot 8) (.bcall .max (.cons (.bcall .min (.cons (.slot 4) (.cons (.slot 3) .nil))) (.cons (.cst (.int 0)) .nil)))) (.seq (.asg (.tslot 3) (.bin .sub (.slot 3) (.slot 8))) (.seq (.asg (.tslot 4) (.bin .sub (.slot 4) (.slot 8))) (.seq (.expr (.bmeth .append (.slot 5) (.cons (.slot 8) .nil))) (.seq (.expr (.bmeth .append (.slot 6) (.cons (.slot 4) .nil))) .done)))))))) (.seq (.ret (.tup (.cons (.bcall .tuple (.cons (.slot 5) .nil)) (.cons (.bcall .tuple (.cons (.slot 6) .nil)) .nil)))) .done))))))
-- brought
def c5 : C := (.seq (.ret (.ife (.cmp .lt (.slot 1) (.bcall .len (.cons (.slot 0) .nil))) (.ix (.slot 0) (.slot 1)) (.cst (.int 0)))) .done)
-- bucket_curve
def c6 : C := (.seq (.ret (.bcall .tuple (.cons (.bin .add (.newT (.lst (.cons (.cst (.int 0)) .nil))) (.newT (.comp [3] (.tslot 3) (.irange (.cons (.cst (.int 1)) (.cons (.bin .add (.slot 2) (.cst (.int 1))) .nil))) (.cst (.bool true)) (.bin .add (.slot 0) (.bin .mul (.slot 1) (.slot 3)))))) .nil))) .done)
-- folded
def c7 : C := (.seq (.asg (.tslot 2) (.two .rngv (.cons (.bcall .min (.cons (.bcall .len (.cons (.slot 0) .nil)) (.cons (.bcall .len (.cons (.slot 1) .nil)) .nil))) .nil))) (.seq (.ret (.bcall .tuple (.cons (.newT (.comp [3] (.tslot 3) (.ival (.slot 2)) (.cst (.bool true)) (.bcall .min (.cons (.newT (.comp [4] (.tslot 4) (.irange (.cons (.bin .add (.slot 3) (.cst (.int 1))) .nil)) (.cst (.bool true)) (.bin .add (.ix (.slot 0) (.slot 4)) (.ix (.slot 1) (.bin .sub (.slot 3) (.slot 4)))))) .nil)))) .nil))) .done))
-- is_under
def c8 : C := (.seq (.ret (.bcall .all (.cons (.newT (.comp [2, 3] (.ttup (.cons (.tslot 2) (.cons (.tslot 3) .nil))) (.izip (.call 11 (.cons (.slot 0) .nil)) (.slot 1)) (.cst (.bool true)) (.cmp .le (.slot 2) (.slot 3)))) .nil))) .done)
-- most_queue
def c9 : C := (.seq (.ret (.two .maxd (.cons (.newT (.comp [2, 3] (.ttup (.cons (.tslot 2) (.cons (.tslot 3) .nil))) (.izip (.slot 0) (.slot 1)) (.cst (.bool true)) (.bin .sub (.slot 2) (.slot 3)))) (.cons (.cst (.int 0)) .nil)))) .done)
-- in_slots_on_end
def c10 : C := (.seq (.asg (.tslot 2) (.newC (.lst (.cons (.bcall .sum (.cons (.slice (.slot 0) .nil (.cons (.slot 1) .nil)) .nil)) .nil)))) (.seq (.fors (.ttup (.cons (.tslot 3) (.cons (.tslot 4) .nil))) (.izip (.slot 0) (.slice (.slot 0) (.cons (.slot 1) .nil) .nil)) (.seq (.expr (.bmeth .append (.slot 2) (.cons (.bin .sub (.bin .add (.ix (.slot 2) (.neg (.cst (.int 1)))) (.slot 4)) (.slot 3)) .nil))) .done)) (.seq (.ret (.slot 2)) .done)))
-- tightest
def c11 : C := (.seq (.ret (.bcall .tuple (.cons (.newT (.comp [1] (.tslot 1) (.irange (.cons (.bin .add (.bcall .len (.cons (.slot 0) .nil)) (.cst (.int 1))) .nil)) (.cst (.bool true)) (.bcall .max (.cons (.call 10 (.cons (.slot 0) (.cons (.slot 1) .nil))) .nil)))) .nil))) .done)
-- served_by
def c12 : C := (.seq (.asg (.tslot 2) (.cst (.int 0))) (.seq (.asg (.tslot 3) (.newC (.lst .nil))) (.seq (.asg (.tslot 4) (.newC (.lst .nil))) (.seq (.fors (.tslot 5) (.irange (.cons (.bcall .max (.cons (.bcall .len (.cons (.slot 0) .nil)) (.cons (.bcall .len (.cons (.slot 1) .nil)) .nil))) .nil)) (.seq (.asg (.tslot 2) (.bin .add (.slot 2) (.call 5 (.cons (.slot 0) (.cons (.slot 5) .nil))))) (.seq (.asg (.tslot 6) (.bcall .min (.cons (.slot 2) (.cons (.call 5 (.cons (.slot 1) (.cons (.slot 5) .nil))) .nil)))) (.seq (.asg (.tslot 2) (.bin .sub (.slot 2) (.slot 6))) (.seq (.expr (.bmeth .append (.slot 3) (.cons (.slot 6) .nil))) (.seq (.expr (.bmeth .append (.slot 4) (.cons (.slot 2) .nil))) .done)))))) (.seq (.ret (.tup (.cons (.bcall .tuple (.cons (.slot 3) .nil)) (.cons (.bcall .tuple (.cons (.slot 4) .nil)) .nil)))) .done)))))
-- surely
def c13 : C := (.seq (.ret (.bcall .tuple (.cons (.newT (.comp [1] (.tslot 1) (.irange (.cons (.bin .add (.bcall .len (.cons (.slot 0) .nil)) (.cst (.int 1))) .nil)) (.cst (.bool true)) (.bcall .min (.cons (.call 10 (.cons (.slot 0) (.cons (.slot 1) .nil))) .nil)))) .nil))) .done)
-- slots_of_cells
def c14 : C := (.seq (.ret (.newT (.comp2 [2, 3, 1] (.ttup (.cons (.tslot 2) (.cons (.tslot 3) .nil))) (.ienum (.slot 0)) (.cst (.bool true)) (.tslot 1) (.irange (.cons (.slot 3) .nil)) (.cst (.bool true)) (.slot 2)))) .done)
-- cell_waits
def c15 : C := (.seq (.ret (.bcall .tuple (.cons (.newT (.comp [2, 3] (.ttup (.cons (.tslot 2) (.cons (.tslot 3) .nil))) (.izip (.call 14 (.cons (.slot 0) .nil)) (.call 14 (.cons (.slot 1) .nil))) (.cst (.bool true)) (.bin .sub (.slot 3) (.slot 2)))) .nil))) .done)
-- _law_dice
def c16 : C := (.seq (.ifs (.cmp2 .lt .lt (.bin .sub (.cst (.int 0)) (.cst (.int 10))) (.slot 0) (.cst (.int 10))) (.seq (.ret (.newC (.lst (.cons (.bcall .abs (.cons (.slot 0) .nil)) (.cons (.cst (.int 0)) (.cons (.cst (.int 2)) .nil)))))) .done) .done) (.seq (.ret (.newC (.lst (.cons (.slot 0) (.cons (.bin .add (.cst (.int 1)) (.bin .mod (.bcall .int (.cons (.slot 0) .nil)) (.cst (.int 1009)))) (.cons (.bcall .int (.cons (.cmp .ge (.slot 0) (.bin .pow (.cst (.int 10)) (.cst (.int 18)))) .nil)) .nil)))))) .done))
-- _law_roll
def c17 : C := (.seq (.ifs (.or (.cmp .eq (.ix (.slot 0) (.cst (.int 2))) (.cst (.int 2))) (.and (.cmp .eq (.ix (.slot 0) (.cst (.int 2))) (.cst (.int 1))) (.cmp .gt (.ix (.slot 0) (.cst (.int 0))) (.cst (.int 0))))) (.seq (.asg (.tslot 2) (.bin .mod (.bcall .int (.cons (.ix (.slot 0) (.cst (.int 0))) .nil)) (.slot 1))) (.seq (.asg (.tsub (.slot 0) (.cst (.int 0))) (.bin .fdiv (.ix (.slot 0) (.cst (.int 0))) (.slot 1))) (.seq (.ret (.slot 2)) .done))) .done) (.seq (.asg (.tsub (.slot 0) (.cst (.int 2))) (.cst (.int 0))) (.seq (.asg (.tsub (.slot 0) (.cst (.int 0))) (.bin .mod (.bcall .int (.cons (.bin .add (.bin .add (.bin .mul (.ix (.slot 0) (.cst (.int 0))) (.cst (.int 48271))) (.bin .mul (.ix (.slot 0) (.cst (.int 1))) (.cst (.int 69621)))) (.cst (.int 11))) .nil)) (.cst (.int 2147483647)))) (.seq (.asg (.tsub (.slot 0) (.cst (.int 1))) (.bin .add (.ix (.slot 0) (.cst (.int 1))) (.cst (.int 1)))) (.seq (.ret (.bin .mod (.bcall .int (.cons (.bin .add (.bin .fdiv (.ix (.slot 0) (.cst (.int 0))) (.cst (.int 7))) (.ix (.slot 0) (.cst (.int 0)))) .nil)) (.slot 1))) .done)))))
-- _law_rounds
def c18 : C := (.seq (.asg (.tslot 2) (.slice (.slot 0) .nil (.cons (.slot 1) .nil))) (.seq (.ifs (.cmp .eq (.slot 2) (.newT (.lst .nil))) (.seq (.asg (.tslot 2) (.newT (.lst (.cons (.cst (.int 0)) .nil)))) .done) .done) (.seq (.ret (.newT (.comp [3] (.tslot 3) (.ival (.slot 2)) (.cst (.bool true)) (.call 16 (.cons (.slot 3) .nil))))) .done)))
-- law
def c19 : C := (.seq (.fors (.tslot 1) (.ival (.call 18 (.cons (.slot 0) (.cons (.cst (.int 1)) .nil)))) (.seq (.asg (.tslot 2) (.bin .add (.cst (.int 1)) (.call 17 (.cons (.slot 1) (.cons (.cst (.int 8)) .nil))))) (.seq (.asg (.ttup (.cons (.tslot 9) (.cons (.tslot 10) (.cons (.tslot 11) .nil)))) (.tup (.cons (.newT (.comp [18] (.tslot 18) (.irange (.cons (.slot 2) .nil)) (.cst (.bool true)) (.call 17 (.cons (.slot 1) (.cons (.cst (.int 5)) .nil))))) (.cons (.call 17 (.cons (.slot 1) (.cons (.cst (.int 4)) .nil))) (.cons (.bin .add (.cst (.int 1)) (.call 17 (.cons (.slot 1) (.cons (.cst (.int 2)) .nil)))) .nil))))) (.seq (.asg (.tslot 3) (.ix (.call 4 (.cons (.slot 9) (.cons (.slot 10) (.cons (.slot 11) .nil)))) (.cst (.int 0)))) (.seq (.asg (.tslot 4) (.call 6 (.cons (.slot 10) (.cons (.slot 11) (.cons (.slot 2) .nil))))) (.seq (.ifs (.or (.not (.call 8 (.cons (.slot 3) (.cons (.slot 4) .nil)))) (.or (.cmp .ne (.call 8 (.cons (.slot 9) (.cons (.slot 4) .nil))) (.call 2 (.cons (.slot 9) (.cons (.slot 10) (.cons (.slot 11) .nil))))) (.cmp .ne (.newT (.comp [18] (.tslot 18) (.irange (.cons (.bin .add (.slot 2) (.cst (.int 1))) .nil)) (.cmp .gt (.ix (.call 11 (.cons (.slot 3) .nil)) (.slot 18)) (.ix (.slot 4) (.slot 18))) (.slot 18))) (.newT (.lst .nil))))) (.seq (.ret (.cst (.bool false))) .done) .done) (.seq (.ifs (.not (.call 8 (.cons (.slot 9) (.cons (.call 6 (.cons (.call 3 (.cons (.slot 9) (.cons (.slot 11) .nil))) (.cons (.slot 11) (.cons (.slot 2) .nil)))) .nil)))) (.seq (.ret (.cst (.bool false))) .done) .done) (.seq (.asg (.tslot 5) (.newT (.comp [17] (.tslot 17) (.irange (.cons (.cst (.int 2)) .nil)) (.cst (.bool true)) (.newT (.comp [18] (.tslot 18) (.irange (.cons (.slot 2) .nil)) (.cst (.bool true)) (.call 17 (.cons (.slot 1) (.cons (.cst (.int 4)) .nil)))))))) (.seq (.asg (.ttup (.cons (.tslot 12) (.cons (.tslot 13) .nil))) (.call 12 (.cons (.slot 3) (.cons (.ix (.slot 5) (.cst (.int 0))) .nil)))) (.seq (.asg (.ttup (.cons (.tslot 14) (.cons (.tslot 15) .nil))) (.call 12 (.cons (.slot 12) (.cons (.ix (.slot 5) (.cst (.int 1))) .nil)))) (.seq (.asg (.tslot 6) (.newT (.comp [18] (.tslot 18) (.irange (.cons (.slot 2) .nil)) (.cst (.bool true)) (.bin .add (.ix (.slot 13) (.slot 18)) (.ix (.slot 15) (.slot 18)))))) (.seq (.asg (.tslot 7) (.call 7 (.cons (.call 13 (.cons (.ix (.slot 5) (.cst (.int 0))) .nil)) (.cons (.call 13 (.cons (.ix (.slot 5) (.cst (.int 1))) .nil)) .nil)))) (.seq (.ifs (.or (.cmp .gt (.xf .mx (.slot 13) .nil) (.call 9 (.cons (.slot 4) (.cons (.call 13 (.cons (.ix (.slot 5) (.cst (.int 0))) .nil)) .nil)))) (.cmp .gt (.xf .mx (.slot 6) .nil) (.call 9 (.cons (.slot 4) (.cons (.slot 7) .nil))))) (.seq (.ret (.cst (.bool false))) .done) .done) (.seq (.fors (.tslot 8) (.irange (.cons (.slot 2) .nil)) (.seq (.asg (.tslot 16) (.or (.cmp .eq (.slot 8) (.cst (.int 0))) (.cmp .eq (.ix (.slot 6) (.bin .sub (.slot 8) (.cst (.int 1)))) (.cst (.int 0))))) (.seq (.ifs (.slot 16) (.seq (.fors (.tslot 19) (.irange (.cons (.slot 8) (.cons (.slot 2) .nil))) (.seq (.asg (.tslot 20) (.bcall .sum (.cons (.slice (.slot 3) (.cons (.slot 8) .nil) (.cons (.bin .add (.slot 19) (.cst (.int 1))) .nil)) .nil))) (.seq (.asg (.tslot 21) (.bcall .sum (.cons (.slice (.slot 14) (.cons (.slot 8) .nil) (.cons (.bin .add (.slot 19) (.cst (.int 1))) .nil)) .nil))) (.seq (.asg (.tslot 22) (.xf .mn (.newT (.comp [23] (.tslot 23) (.irange (.cons (.bin .sub (.bin .add (.slot 19) (.cst (.int 2))) (.slot 8)) .nil)) (.cst (.bool true)) (.bin .add (.bcall .sum (.cons (.slice (.slot 3) (.cons (.slot 8) .nil) (.cons (.bin .add (.slot 8) (.slot 23)) .nil)) .nil)) (.ix (.slot 7) (.bin .sub (.bin .sub (.bin .add (.slot 19) (.cst (.int 1))) (.slot 8)) (.slot 23)))))) .nil)) (.seq (.ifs (.or (.cmp .lt (.slot 21) (.slot 22)) (.cmp .gt (.slot 21) (.slot 20))) (.seq (.ret (.cst (.bool false))) .done) .done) .done))))) .done) .done) .done))) (.seq (.ifs (.cmp .ne (.newT (.comp [18] (.tslot 18) (.ival (.call 15 (.cons (.slot 3) (.cons (.slot 14) .nil)))) (.cmp .lt (.slot 18) (.cst (.int 0))) (.slot 18))) (.newT (.lst .nil))) (.seq (.ret (.cst (.bool false))) .done) .done) .done))))))))))))))) (.seq (.ret (.cst (.bool true))) .done))
def dl : List Def := [⟨3, 3, c0⟩, ⟨2, 5, c1⟩, ⟨3, 4, c2⟩, ⟨2, 2, c3⟩, ⟨3, 9, c4⟩, ⟨2, 2, c5⟩, ⟨3, 4, c6⟩, ⟨2, 5, c7⟩, ⟨2, 4, c8⟩, ⟨2, 4, c9⟩, ⟨2, 5, c10⟩, ⟨1, 2, c11⟩, ⟨2, 7, c12⟩, ⟨1, 2, c13⟩, ⟨1, 4, c14⟩, ⟨2, 4, c15⟩, ⟨1, 1, c16⟩, ⟨2, 3, c17⟩, ⟨2, 4, c18⟩, ⟨1, 24, c19⟩]
def ml : List (List (Nat × Nat)) := []
def il : List (Option Nat) := []
def P : Prog := { defs := fun i => dl.getD i ⟨0, 0, .brk⟩, meth := fun k m => (ml.getD k []).lookup m, init := fun k => (il.getD k none), fok := fun k f => Nat.blt f 0 && Nat.blt k 0, told := fun x => ([] : List (Option Str)).getD x none }
def Y : Ck := { N := [], fn := [(("refilled" : Str), 0), (("most_over" : Str), 1), (("keeps" : Str), 2), (("least_burst" : Str), 3), (("shaped" : Str), 4), (("brought" : Str), 5), (("bucket_curve" : Str), 6), (("folded" : Str), 7), (("is_under" : Str), 8), (("most_queue" : Str), 9), (("in_slots_on_end" : Str), 10), (("tightest" : Str), 11), (("served_by" : Str), 12), (("surely" : Str), 13), (("slots_of_cells" : Str), 14), (("cell_waits" : Str), 15), (("_law_dice" : Str), 16), (("_law_roll" : Str), 17), (("_law_rounds" : Str), 18), (("law" : Str), 19)], cls := [], mth := [], fld := [], exc := [], glb := [], gls := [], isi := [], blt := [("abs" : Str), ("all" : Str), ("enumerate" : Str), ("int" : Str), ("len" : Str), ("max" : Str), ("min" : Str), ("range" : Str), ("sum" : Str), ("tuple" : Str), ("zip" : Str)], told := none }
def topS (i : Nat) : Stmt := PySem.Challenge.pw_crossloom_k33_shaped_served_and_bounded.main.body.getD i (.Pass ⟨0, 0, 0, 0⟩)
abbrev st0 : Stmt := topS 1
def N0 : List Str := [("marks" : Str), ("burst" : Str), ("rate" : Str)]
def p0 : List Str := [("marks" : Str), ("burst" : Str), ("rate" : Str)]
abbrev st1 : Stmt := topS 2
def N1 : List Str := [("arrivals" : Str), ("rate" : Str), ("found" : Str), ("over" : Str), ("count" : Str)]
def p1 : List Str := [("arrivals" : Str), ("rate" : Str)]
abbrev st2 : Stmt := topS 3
def N2 : List Str := [("arrivals" : Str), ("burst" : Str), ("rate" : Str), ("over" : Str)]
def p2 : List Str := [("arrivals" : Str), ("burst" : Str), ("rate" : Str)]
abbrev st3 : Stmt := topS 4
def N3 : List Str := [("arrivals" : Str), ("rate" : Str)]
def p3 : List Str := [("arrivals" : Str), ("rate" : Str)]
abbrev st4 : Stmt := topS 5
def N4 : List Str := [("arrivals" : Str), ("burst" : Str), ("rate" : Str), ("marks" : Str), ("waiting" : Str), ("out" : Str), ("waits" : Str), ("count" : Str), ("sent" : Str)]
def p4 : List Str := [("arrivals" : Str), ("burst" : Str), ("rate" : Str)]
abbrev st5 : Stmt := topS 6
def N5 : List Str := [("row" : Str), ("slot" : Str)]
def p5 : List Str := [("row" : Str), ("slot" : Str)]
abbrev st6 : Stmt := topS 8
def N6 : List Str := [("burst" : Str), ("rate" : Str), ("slots" : Str), ("size" : Str)]
def p6 : List Str := [("burst" : Str), ("rate" : Str), ("slots" : Str)]
abbrev st7 : Stmt := topS 9
def N7 : List Str := [("one" : Str), ("other" : Str), ("sizes" : Str), ("size" : Str), ("part" : Str)]
def p7 : List Str := [("one" : Str), ("other" : Str)]
abbrev st8 : Stmt := topS 10
def N8 : List Str := [("row" : Str), ("curve" : Str), ("most" : Str), ("lets" : Str)]
def p8 : List Str := [("row" : Str), ("curve" : Str)]
abbrev st9 : Stmt := topS 11
def N9 : List Str := [("comes" : Str), ("serves" : Str), ("came" : Str), ("gone" : Str)]
def p9 : List Str := [("comes" : Str), ("serves" : Str)]
abbrev st10 : Stmt := topS 12
def N10 : List Str := [("row" : Str), ("size" : Str), ("found" : Str), ("first" : Str), ("last" : Str)]
def p10 : List Str := [("row" : Str), ("size" : Str)]
abbrev st11 : Stmt := topS 13
def N11 : List Str := [("row" : Str), ("size" : Str)]
def p11 : List Str := [("row" : Str)]
abbrev st12 : Stmt := topS 14
def N12 : List Str := [("row" : Str), ("offers" : Str), ("waiting" : Str), ("out" : Str), ("waits" : Str), ("slot" : Str), ("sent" : Str)]
def p12 : List Str := [("row" : Str), ("offers" : Str)]
abbrev st13 : Stmt := topS 15
def N13 : List Str := [("offers" : Str), ("size" : Str)]
def p13 : List Str := [("offers" : Str)]
abbrev st14 : Stmt := topS 16
def N14 : List Str := [("row" : Str), ("_" : Str), ("slot" : Str), ("count" : Str)]
def p14 : List Str := [("row" : Str)]
abbrev st15 : Stmt := topS 17
def N15 : List Str := [("row" : Str), ("out" : Str), ("came" : Str), ("gone" : Str)]
def p15 : List Str := [("row" : Str), ("out" : Str)]
abbrev st16 : Stmt := topS 19
def N16 : List Str := [("cell" : Str)]
def p16 : List Str := [("cell" : Str)]
abbrev st17 : Stmt := topS 20
def N17 : List Str := [("dice" : Str), ("many" : Str), ("found" : Str)]
def p17 : List Str := [("dice" : Str), ("many" : Str)]
abbrev st18 : Stmt := topS 21
def N18 : List Str := [("script" : Str), ("most" : Str), ("cells" : Str), ("cell" : Str)]
def p18 : List Str := [("script" : Str), ("most" : Str)]
abbrev st19 : Stmt := topS 22
def N19 : List Str := [("script" : Str), ("dice" : Str), ("many" : Str), ("out" : Str), ("curve" : Str), ("offers" : Str), ("both" : Str), ("surely_both" : Str), ("start" : Str), ("row" : Str), ("burst" : Str), ("rate" : Str), ("first" : Str), ("waits_now" : Str), ("second" : Str), ("left" : Str), ("idle" : Str), ("turn" : Str), ("k" : Str), ("end" : Str), ("came" : Str), ("gone" : Str), ("least" : Str), ("part" : Str)]
def p19 : List Str := [("script" : Str)]
def e0 : DE := ⟨("refilled" : Str), ("refilled" : Str), st0, N0, p0, false⟩
def e1 : DE := ⟨("most_over" : Str), ("most_over" : Str), st1, N1, p1, false⟩
def e2 : DE := ⟨("keeps" : Str), ("keeps" : Str), st2, N2, p2, false⟩
def e3 : DE := ⟨("least_burst" : Str), ("least_burst" : Str), st3, N3, p3, false⟩
def e4 : DE := ⟨("shaped" : Str), ("shaped" : Str), st4, N4, p4, false⟩
def e5 : DE := ⟨("brought" : Str), ("brought" : Str), st5, N5, p5, false⟩
def e6 : DE := ⟨("bucket_curve" : Str), ("bucket_curve" : Str), st6, N6, p6, false⟩
def e7 : DE := ⟨("folded" : Str), ("folded" : Str), st7, N7, p7, false⟩
def e8 : DE := ⟨("is_under" : Str), ("is_under" : Str), st8, N8, p8, false⟩
def e9 : DE := ⟨("most_queue" : Str), ("most_queue" : Str), st9, N9, p9, false⟩
def e10 : DE := ⟨("in_slots_on_end" : Str), ("in_slots_on_end" : Str), st10, N10, p10, false⟩
def e11 : DE := ⟨("tightest" : Str), ("tightest" : Str), st11, N11, p11, false⟩
def e12 : DE := ⟨("served_by" : Str), ("served_by" : Str), st12, N12, p12, false⟩
def e13 : DE := ⟨("surely" : Str), ("surely" : Str), st13, N13, p13, false⟩
def e14 : DE := ⟨("slots_of_cells" : Str), ("slots_of_cells" : Str), st14, N14, p14, false⟩
def e15 : DE := ⟨("cell_waits" : Str), ("cell_waits" : Str), st15, N15, p15, false⟩
def e16 : DE := ⟨("_law_dice" : Str), ("_law_dice" : Str), st16, N16, p16, false⟩
def e17 : DE := ⟨("_law_roll" : Str), ("_law_roll" : Str), st17, N17, p17, false⟩
def e18 : DE := ⟨("_law_rounds" : Str), ("_law_rounds" : Str), st18, N18, p18, false⟩
def e19 : DE := ⟨("law" : Str), ("law" : Str), st19, N19, p19, false⟩
def T : Tx := { defs := [e0, e1, e2, e3, e4, e5, e6, e7, e8, e9, e10, e11, e12, e13, e14, e15, e16, e17, e18, e19], P := P, F := 100000, Y := Y }
theorem ok0 : e0.ok T 0 = true := by decide +kernel
theorem sc0 : FnScope N0 p0 (defScope st0) := ⟨rfl, rfl, rfl, by decide +kernel, rfl, by decide +kernel, by decide +kernel⟩
theorem bd0 {K : PySem.W.Frag} {f : Addr} {fd : FuncData} (F : Fun K ("refilled" : Str) ("refilled" : Str) st0 f fd) : Binds K fd p0 [] := F.binds (ps := p0) fun _ _ _ _ _ _ us hl => match us, hl with | [_, _, _], _ => rfl
theorem ok1 : e1.ok T 1 = true := by decide +kernel
theorem sc1 : FnScope N1 p1 (defScope st1) := ⟨rfl, rfl, rfl, by decide +kernel, rfl, by decide +kernel, by decide +kernel⟩
theorem bd1 {K : PySem.W.Frag} {f : Addr} {fd : FuncData} (F : Fun K ("most_over" : Str) ("most_over" : Str) st1 f fd) : Binds K fd p1 [] := F.binds (ps := p1) fun _ _ _ _ _ _ us hl => match us, hl with | [_, _], _ => rfl
theorem ok2 : e2.ok T 2 = true := by decide +kernel
theorem sc2 : FnScope N2 p2 (defScope st2) := ⟨rfl, rfl, rfl, by decide +kernel, rfl, by decide +kernel, by decide +kernel⟩
theorem bd2 {K : PySem.W.Frag} {f : Addr} {fd : FuncData} (F : Fun K ("keeps" : Str) ("keeps" : Str) st2 f fd) : Binds K fd p2 [] := F.binds (ps := p2) fun _ _ _ _ _ _ us hl => match us, hl with | [_, _, _], _ => rfl
theorem ok3 : e3.ok T 3 = true := by decide +kernel
theorem sc3 : FnScope N3 p3 (defScope st3) := ⟨rfl, rfl, rfl, by decide +kernel, rfl, by decide +kernel, by decide +kernel⟩
theorem bd3 {K : PySem.W.Frag} {f : Addr} {fd : FuncData} (F : Fun K ("least_burst" : Str) ("least_burst" : Str) st3 f fd) : Binds K fd p3 [] := F.binds (ps := p3) fun _ _ _ _ _ _ us hl => match us, hl with | [_, _], _ => rfl
theorem ok4 : e4.ok T 4 = true := by decide +kernel
theorem sc4 : FnScope N4 p4 (defScope st4) := ⟨rfl, rfl, rfl, by decide +kernel, rfl, by decide +kernel, by decide +kernel⟩
theorem bd4 {K : PySem.W.Frag} {f : Addr} {fd : FuncData} (F : Fun K ("shaped" : Str) ("shaped" : Str) st4 f fd) : Binds K fd p4 [] := F.binds (ps := p4) fun _ _ _ _ _ _ us hl => match us, hl with | [_, _, _], _ => rfl
theorem ok5 : e5.ok T 5 = true := by decide +kernel
theorem sc5 : FnScope N5 p5 (defScope st5) := ⟨rfl, rfl, rfl, by decide +kernel, rfl, by decide +kernel, by decide +kernel⟩
theorem bd5 {K : PySem.W.Frag} {f : Addr} {fd : FuncData} (F : Fun K ("brought" : Str) ("brought" : Str) st5 f fd) : Binds K fd p5 [] := F.binds (ps := p5) fun _ _ _ _ _ _ us hl => match us, hl with | [_, _], _ => rfl
theorem ok6 : e6.ok T 6 = true := by decide +kernel
theorem sc6 : FnScope N6 p6 (defScope st6) := ⟨rfl, rfl, rfl, by decide +kernel, rfl, by decide +kernel, by decide +kernel⟩
theorem bd6 {K : PySem.W.Frag} {f : Addr} {fd : FuncData} (F : Fun K ("bucket_curve" : Str) ("bucket_curve" : Str) st6 f fd) : Binds K fd p6 [] := F.binds (ps := p6) fun _ _ _ _ _ _ us hl => match us, hl with | [_, _, _], _ => rfl
theorem ok7 : e7.ok T 7 = true := by decide +kernel
theorem sc7 : FnScope N7 p7 (defScope st7) := ⟨rfl, rfl, rfl, by decide +kernel, rfl, by decide +kernel, by decide +kernel⟩
theorem bd7 {K : PySem.W.Frag} {f : Addr} {fd : FuncData} (F : Fun K ("folded" : Str) ("folded" : Str) st7 f fd) : Binds K fd p7 [] := F.binds (ps := p7) fun _ _ _ _ _ _ us hl => match us, hl with | [_, _], _ => rfl
theorem ok8 : e8.ok T 8 = true := by decide +kernel
theorem sc8 : FnScope N8 p8 (defScope st8) := ⟨rfl, rfl, rfl, by decide +kernel, rfl, by decide +kernel, by decide +kernel⟩
theorem bd8 {K : PySem.W.Frag} {f : Addr} {fd : FuncData} (F : Fun K ("is_under" : Str) ("is_under" : Str) st8 f fd) : Binds K fd p8 [] := F.binds (ps := p8) fun _ _ _ _ _ _ us hl => match us, hl with | [_, _], _ => rfl
theorem ok9 : e9.ok T 9 = true := by decide +kernel
theorem sc9 : FnScope N9 p9 (defScope st9) := ⟨rfl, rfl, rfl, by decide +kernel, rfl, by decide +kernel, by decide +kernel⟩
theorem bd9 {K : PySem.W.Frag} {f : Addr} {fd : FuncData} (F : Fun K ("most_queue" : Str) ("most_queue" : Str) st9 f fd) : Binds K fd p9 [] := F.binds (ps := p9) fun _ _ _ _ _ _ us hl => match us, hl with | [_, _], _ => rfl
theorem ok10 : e10.ok T 10 = true := by decide +kernel
theorem sc10 : FnScope N10 p10 (defScope st10) := ⟨rfl, rfl, rfl, by decide +kernel, rfl, by decide +kernel, by decide +kernel⟩
theorem bd10 {K : PySem.W.Frag} {f : Addr} {fd : FuncData} (F : Fun K ("in_slots_on_end" : Str) ("in_slots_on_end" : Str) st10 f fd) : Binds K fd p10 [] := F.binds (ps := p10) fun _ _ _ _ _ _ us hl => match us, hl with | [_, _], _ => rfl
theorem ok11 : e11.ok T 11 = true := by decide +kernel
theorem sc11 : FnScope N11 p11 (defScope st11) := ⟨rfl, rfl, rfl, by decide +kernel, rfl, by decide +kernel, by decide +kernel⟩
theorem bd11 {K : PySem.W.Frag} {f : Addr} {fd : FuncData} (F : Fun K ("tightest" : Str) ("tightest" : Str) st11 f fd) : Binds K fd p11 [] := F.binds (ps := p11) fun _ _ _ _ _ _ us hl => match us, hl with | [_], _ => rfl
theorem ok12 : e12.ok T 12 = true := by decide +kernel
theorem sc12 : FnScope N12 p12 (defScope st12) := ⟨rfl, rfl, rfl, by decide +kernel, rfl, by decide +kernel, by decide +kernel⟩
theorem bd12 {K : PySem.W.Frag} {f : Addr} {fd : FuncData} (F : Fun K ("served_by" : Str) ("served_by" : Str) st12 f fd) : Binds K fd p12 [] := F.binds (ps := p12) fun _ _ _ _ _ _ us hl => match us, hl with | [_, _], _ => rfl
theorem ok13 : e13.ok T 13 = true := by decide +kernel
theorem sc13 : FnScope N13 p13 (defScope st13) := ⟨rfl, rfl, rfl, by decide +kernel, rfl, by decide +kernel, by decide +kernel⟩
theorem bd13 {K : PySem.W.Frag} {f : Addr} {fd : FuncData} (F : Fun K ("surely" : Str) ("surely" : Str) st13 f fd) : Binds K fd p13 [] := F.binds (ps := p13) fun _ _ _ _ _ _ us hl => match us, hl with | [_], _ => rfl
theorem ok14 : e14.ok T 14 = true := by decide +kernel
theorem sc14 : FnScope N14 p14 (defScope st14) := ⟨rfl, rfl, rfl, by decide +kernel, rfl, by decide +kernel, by decide +kernel⟩
theorem bd14 {K : PySem.W.Frag} {f : Addr} {fd : FuncData} (F : Fun K ("slots_of_cells" : Str) ("slots_of_cells" : Str) st14 f fd) : Binds K fd p14 [] := F.binds (ps := p14) fun _ _ _ _ _ _ us hl => match us, hl with | [_], _ => rfl
theorem ok15 : e15.ok T 15 = true := by decide +kernel
theorem sc15 : FnScope N15 p15 (defScope st15) := ⟨rfl, rfl, rfl, by decide +kernel, rfl, by decide +kernel, by decide +kernel⟩
theorem bd15 {K : PySem.W.Frag} {f : Addr} {fd : FuncData} (F : Fun K ("cell_waits" : Str) ("cell_waits" : Str) st15 f fd) : Binds K fd p15 [] := F.binds (ps := p15) fun _ _ _ _ _ _ us hl => match us, hl with | [_, _], _ => rfl
theorem ok16 : e16.ok T 16 = true := by decide +kernel
theorem sc16 : FnScope N16 p16 (defScope st16) := ⟨rfl, rfl, rfl, by decide +kernel, rfl, by decide +kernel, by decide +kernel⟩
theorem bd16 {K : PySem.W.Frag} {f : Addr} {fd : FuncData} (F : Fun K ("_law_dice" : Str) ("_law_dice" : Str) st16 f fd) : Binds K fd p16 [] := F.binds (ps := p16) fun _ _ _ _ _ _ us hl => match us, hl with | [_], _ => rfl
theorem ok17 : e17.ok T 17 = true := by decide +kernel
theorem sc17 : FnScope N17 p17 (defScope st17) := ⟨rfl, rfl, rfl, by decide +kernel, rfl, by decide +kernel, by decide +kernel⟩
theorem bd17 {K : PySem.W.Frag} {f : Addr} {fd : FuncData} (F : Fun K ("_law_roll" : Str) ("_law_roll" : Str) st17 f fd) : Binds K fd p17 [] := F.binds (ps := p17) fun _ _ _ _ _ _ us hl => match us, hl with | [_, _], _ => rfl
theorem ok18 : e18.ok T 18 = true := by decide +kernel
theorem sc18 : FnScope N18 p18 (defScope st18) := ⟨rfl, rfl, rfl, by decide +kernel, rfl, by decide +kernel, by decide +kernel⟩
theorem bd18 {K : PySem.W.Frag} {f : Addr} {fd : FuncData} (F : Fun K ("_law_rounds" : Str) ("_law_rounds" : Str) st18 f fd) : Binds K fd p18 [] := F.binds (ps := p18) fun _ _ _ _ _ _ us hl => match us, hl with | [_, _], _ => rfl
theorem ok19 : e19.ok T 19 = true := by decide +kernel
theorem sc19 : FnScope N19 p19 (defScope st19) := ⟨rfl, rfl, rfl, by decide +kernel, rfl, by decide +kernel, by decide +kernel⟩
theorem bd19 {K : PySem.W.Frag} {f : Addr} {fd : FuncData} (F : Fun K ("law" : Str) ("law" : Str) st19 f fd) : Binds K fd p19 [] := F.binds (ps := p19) fun _ _ _ _ _ _ us hl => match us, hl with | [_], _ => rfl
def nf : Nat → Str := fun i => ([] : List Str).getD i Str.empty
theorem nfi : ∀ i j, i < 0 → j < 0 → nf i = nf j → i = j := fun i j hi hj h => (by decide +kernel : ∀ i, i < 0 → ∀ j, j < 0 → nf i = nf j → i = j) i hi j hj h
def d0 : He.DefD := ⟨(("refilled" : Str), none), ("refilled" : Str), ("refilled" : Str), defArgs st0, defBody st0, defScope st0, [], []⟩
def d1 : He.DefD := ⟨(("most_over" : Str), none), ("most_over" : Str), ("most_over" : Str), defArgs st1, defBody st1, defScope st1, [], []⟩
def d2 : He.DefD := ⟨(("keeps" : Str), none), ("keeps" : Str), ("keeps" : Str), defArgs st2, defBody st2, defScope st2, [], []⟩
def d3 : He.DefD := ⟨(("least_burst" : Str), none), ("least_burst" : Str), ("least_burst" : Str), defArgs st3, defBody st3, defScope st3, [], []⟩
def d4 : He.DefD := ⟨(("shaped" : Str), none), ("shaped" : Str), ("shaped" : Str), defArgs st4, defBody st4, defScope st4, [], []⟩
def d5 : He.DefD := ⟨(("brought" : Str), none), ("brought" : Str), ("brought" : Str), defArgs st5, defBody st5, defScope st5, [], []⟩
def d6 : He.DefD := ⟨(("bucket_curve" : Str), none), ("bucket_curve" : Str), ("bucket_curve" : Str), defArgs st6, defBody st6, defScope st6, [], []⟩
def d7 : He.DefD := ⟨(("folded" : Str), none), ("folded" : Str), ("folded" : Str), defArgs st7, defBody st7, defScope st7, [], []⟩
def d8 : He.DefD := ⟨(("is_under" : Str), none), ("is_under" : Str), ("is_under" : Str), defArgs st8, defBody st8, defScope st8, [], []⟩
def d9 : He.DefD := ⟨(("most_queue" : Str), none), ("most_queue" : Str), ("most_queue" : Str), defArgs st9, defBody st9, defScope st9, [], []⟩
def d10 : He.DefD := ⟨(("in_slots_on_end" : Str), none), ("in_slots_on_end" : Str), ("in_slots_on_end" : Str), defArgs st10, defBody st10, defScope st10, [], []⟩
def d11 : He.DefD := ⟨(("tightest" : Str), none), ("tightest" : Str), ("tightest" : Str), defArgs st11, defBody st11, defScope st11, [], []⟩
def d12 : He.DefD := ⟨(("served_by" : Str), none), ("served_by" : Str), ("served_by" : Str), defArgs st12, defBody st12, defScope st12, [], []⟩
def d13 : He.DefD := ⟨(("surely" : Str), none), ("surely" : Str), ("surely" : Str), defArgs st13, defBody st13, defScope st13, [], []⟩
def d14 : He.DefD := ⟨(("slots_of_cells" : Str), none), ("slots_of_cells" : Str), ("slots_of_cells" : Str), defArgs st14, defBody st14, defScope st14, [], []⟩
def d15 : He.DefD := ⟨(("cell_waits" : Str), none), ("cell_waits" : Str), ("cell_waits" : Str), defArgs st15, defBody st15, defScope st15, [], []⟩
def d16 : He.DefD := ⟨(("_law_dice" : Str), none), ("_law_dice" : Str), ("_law_dice" : Str), defArgs st16, defBody st16, defScope st16, [], []⟩
def d17 : He.DefD := ⟨(("_law_roll" : Str), none), ("_law_roll" : Str), ("_law_roll" : Str), defArgs st17, defBody st17, defScope st17, [], []⟩
def d18 : He.DefD := ⟨(("_law_rounds" : Str), none), ("_law_rounds" : Str), ("_law_rounds" : Str), defArgs st18, defBody st18, defScope st18, [], []⟩
def d19 : He.DefD := ⟨(("law" : Str), none), ("law" : Str), ("law" : Str), defArgs st19, defBody st19, defScope st19, [], []⟩
def tq : List (He.Defn × Str) := []
def tf : List He.Defn := []
def ex (K : PySem.W.Frag) : Bool := decide ((tq.map fun p => (He.cT K p.1).2).Nodup)
abbrev Sg (K : PySem.W.Frag) : Sig := { cls := fun i => ([] : List Addr).getD i 0, fld := nf, nf := 0, tabs := tq.map fun p => ((He.cT K p.1).2, p.2), inj := nfi }
abbrev exV (K : PySem.W.Frag) : Nat → Value := fun i => ([] : List Value).getD i .none
abbrev fad (K : PySem.W.Frag) : Nat → Addr := fun i => ([He.fAd K (("refilled" : Str), none), He.fAd K (("most_over" : Str), none), He.fAd K (("keeps" : Str), none), He.fAd K (("least_burst" : Str), none), He.fAd K (("shaped" : Str), none), He.fAd K (("brought" : Str), none), He.fAd K (("bucket_curve" : Str), none), He.fAd K (("folded" : Str), none), He.fAd K (("is_under" : Str), none), He.fAd K (("most_queue" : Str), none), He.fAd K (("in_slots_on_end" : Str), none), He.fAd K (("tightest" : Str), none), He.fAd K (("served_by" : Str), none), He.fAd K (("surely" : Str), none), He.fAd K (("slots_of_cells" : Str), none), He.fAd K (("cell_waits" : Str), none), He.fAd K (("_law_dice" : Str), none), He.fAd K (("_law_roll" : Str), none), He.fAd K (("_law_rounds" : Str), none), He.fAd K (("law" : Str), none)] : List Addr).getD i 0
def fa : List He.Fa := [.glo ("law" : Str), .glo ("refilled" : Str), .glo ("most_over" : Str), .glo ("keeps" : Str), .glo ("least_burst" : Str), .glo ("shaped" : Str), .glo ("brought" : Str), .glo ("bucket_curve" : Str), .glo ("folded" : Str), .glo ("is_under" : Str), .glo ("most_queue" : Str), .glo ("in_slots_on_end" : Str), .glo ("tightest" : Str), .glo ("served_by" : Str), .glo ("surely" : Str), .glo ("slots_of_cells" : Str), .glo ("cell_waits" : Str), .glo ("_law_dice" : Str), .glo ("_law_roll" : Str), .glo ("_law_rounds" : Str), .free ("abs" : Str), .free ("all" : Str), .free ("enumerate" : Str), .free ("int" : Str), .free ("len" : Str), .free ("max" : Str), .free ("min" : Str), .free ("range" : Str), .free ("sum" : Str), .free ("tuple" : Str), .free ("zip" : Str)]
def fn : List He.DefD := [d0, d1, d2, d3, d4, d5, d6, d7, d8, d9, d10, d11, d12, d13, d14, d15, d16, d17, d18, d19]
theorem all_mk {w : World} {K : PySem.W.Frag} {h : Heap} {mg : Str → Option Value} {f0 : Addr} (X : K.In h) (G : h.Ns mainGlobals mg) (c : He.SaysX fa fn [] tf ex w h K) (hfa : mg ("law" : Str) = some (.ref f0)) :
    ∃ (S : Sig) (exV : Nat → Value) (fad : Nat → Addr) (e : DE) (fd : FuncData), Top K mg T S exV fad ∧ fad 19 = f0 ∧ T.defs[19]? = some e ∧ e.ps = [("script" : Str)] ∧ Fun K e.x e.qual e.st f0 fd ∧ (∀ (s : Shared) (u : Value), BindsTo s fd ⟨[u], []⟩ [(("script" : Str), u)]) ∧
      LamT K T S fad (tf.map (He.cT K)) ∧ ∀ H : Hp, (∀ p ∈ tf.map (He.cT K), H p.2 = some (.tbl #[])) → LamX.Tabs S.tabs H := by
  obtain ⟨fd0, F0⟩ := c.t.d.def_ 0 (d := d0) rfl
  have F0 : Fun K ("refilled" : Str) ("refilled" : Str) st0 (He.fAd K (("refilled" : Str), none)) fd0 := fun_of F0
  obtain ⟨fd1, F1⟩ := c.t.d.def_ 1 (d := d1) rfl
  have F1 : Fun K ("most_over" : Str) ("most_over" : Str) st1 (He.fAd K (("most_over" : Str), none)) fd1 := fun_of F1
  obtain ⟨fd2, F2⟩ := c.t.d.def_ 2 (d := d2) rfl
  have F2 : Fun K ("keeps" : Str) ("keeps" : Str) st2 (He.fAd K (("keeps" : Str), none)) fd2 := fun_of F2
  obtain ⟨fd3, F3⟩ := c.t.d.def_ 3 (d := d3) rfl
  have F3 : Fun K ("least_burst" : Str) ("least_burst" : Str) st3 (He.fAd K (("least_burst" : Str), none)) fd3 := fun_of F3
  obtain ⟨fd4, F4⟩ := c.t.d.def_ 4 (d := d4) rfl
  have F4 : Fun K ("shaped" : Str) ("shaped" : Str) st4 (He.fAd K (("shaped" : Str), none)) fd4 := fun_of F4
  obtain ⟨fd5, F5⟩ := c.t.d.def_ 5 (d := d5) rfl
  have F5 : Fun K ("brought" : Str) ("brought" : Str) st5 (He.fAd K (("brought" : Str), none)) fd5 := fun_of F5
  obtain ⟨fd6, F6⟩ := c.t.d.def_ 6 (d := d6) rfl
  have F6 : Fun K ("bucket_curve" : Str) ("bucket_curve" : Str) st6 (He.fAd K (("bucket_curve" : Str), none)) fd6 := fun_of F6
  obtain ⟨fd7, F7⟩ := c.t.d.def_ 7 (d := d7) rfl
  have F7 : Fun K ("folded" : Str) ("folded" : Str) st7 (He.fAd K (("folded" : Str), none)) fd7 := fun_of F7
  obtain ⟨fd8, F8⟩ := c.t.d.def_ 8 (d := d8) rfl
  have F8 : Fun K ("is_under" : Str) ("is_under" : Str) st8 (He.fAd K (("is_under" : Str), none)) fd8 := fun_of F8
  obtain ⟨fd9, F9⟩ := c.t.d.def_ 9 (d := d9) rfl
  have F9 : Fun K ("most_queue" : Str) ("most_queue" : Str) st9 (He.fAd K (("most_queue" : Str), none)) fd9 := fun_of F9
  obtain ⟨fd10, F10⟩ := c.t.d.def_ 10 (d := d10) rfl
  have F10 : Fun K ("in_slots_on_end" : Str) ("in_slots_on_end" : Str) st10 (He.fAd K (("in_slots_on_end" : Str), none)) fd10 := fun_of F10
  obtain ⟨fd11, F11⟩ := c.t.d.def_ 11 (d := d11) rfl
  have F11 : Fun K ("tightest" : Str) ("tightest" : Str) st11 (He.fAd K (("tightest" : Str), none)) fd11 := fun_of F11
  obtain ⟨fd12, F12⟩ := c.t.d.def_ 12 (d := d12) rfl
  have F12 : Fun K ("served_by" : Str) ("served_by" : Str) st12 (He.fAd K (("served_by" : Str), none)) fd12 := fun_of F12
  obtain ⟨fd13, F13⟩ := c.t.d.def_ 13 (d := d13) rfl
  have F13 : Fun K ("surely" : Str) ("surely" : Str) st13 (He.fAd K (("surely" : Str), none)) fd13 := fun_of F13
  obtain ⟨fd14, F14⟩ := c.t.d.def_ 14 (d := d14) rfl
  have F14 : Fun K ("slots_of_cells" : Str) ("slots_of_cells" : Str) st14 (He.fAd K (("slots_of_cells" : Str), none)) fd14 := fun_of F14
  obtain ⟨fd15, F15⟩ := c.t.d.def_ 15 (d := d15) rfl
  have F15 : Fun K ("cell_waits" : Str) ("cell_waits" : Str) st15 (He.fAd K (("cell_waits" : Str), none)) fd15 := fun_of F15
  obtain ⟨fd16, F16⟩ := c.t.d.def_ 16 (d := d16) rfl
  have F16 : Fun K ("_law_dice" : Str) ("_law_dice" : Str) st16 (He.fAd K (("_law_dice" : Str), none)) fd16 := fun_of F16
  obtain ⟨fd17, F17⟩ := c.t.d.def_ 17 (d := d17) rfl
  have F17 : Fun K ("_law_roll" : Str) ("_law_roll" : Str) st17 (He.fAd K (("_law_roll" : Str), none)) fd17 := fun_of F17
  obtain ⟨fd18, F18⟩ := c.t.d.def_ 18 (d := d18) rfl
  have F18 : Fun K ("_law_rounds" : Str) ("_law_rounds" : Str) st18 (He.fAd K (("_law_rounds" : Str), none)) fd18 := fun_of F18
  obtain ⟨fd19, F19⟩ := c.t.d.def_ 19 (d := d19) rfl
  have F19 : Fun K ("law" : Str) ("law" : Str) st19 (He.fAd K (("law" : Str), none)) fd19 := fun_of F19
  have e := hfa.symm.trans (He.glo_ok X G (c.t.d.fact 0 (f := .glo ("law" : Str)) rfl))
  cases e
  refine ⟨Sg K, exV K, fad K, e19, fd19, ?_, rfl, rfl, rfl, F19, fun s u => (by obtain ⟨_, _, _, _, _, _, _, _, _, rfl, _, _⟩ := F19.ex; exact .of_eq rfl), ?_, fun H hH => ?_⟩
  · refine { defs := ?_, fns := ?_, cls := ?_, mth := ?_, fldn := ?_, fok := ?_, blt := ?_, glb := ?_, gls := ?_, isi := ?_, exc := ?_, told := ?_ }
    · have dA : ∀ i e, T.defs[i]? = some e → QDs K T (fad K) i e := df_all (df_cons (qd F0 (bd0 F0) sc0 ok0) (df_cons (qd F1 (bd1 F1) sc1 ok1) (df_cons (qd F2 (bd2 F2) sc2 ok2) (df_cons (qd F3 (bd3 F3) sc3 ok3) (df_cons (qd F4 (bd4 F4) sc4 ok4) (df_cons (qd F5 (bd5 F5) sc5 ok5) (df_cons (qd F6 (bd6 F6) sc6 ok6) (df_cons (qd F7 (bd7 F7) sc7 ok7) (df_cons (qd F8 (bd8 F8) sc8 ok8) (df_cons (qd F9 (bd9 F9) sc9 ok9) (df_cons (qd F10 (bd10 F10) sc10 ok10) (df_cons (qd F11 (bd11 F11) sc11 ok11) (df_cons (qd F12 (bd12 F12) sc12 ok12) (df_cons (qd F13 (bd13 F13) sc13 ok13) (df_cons (qd F14 (bd14 F14) sc14 ok14) (df_cons (qd F15 (bd15 F15) sc15 ok15) (df_cons (qd F16 (bd16 F16) sc16 ok16) (df_cons (qd F17 (bd17 F17) sc17 ok17) (df_cons (qd F18 (bd18 F18) sc18 ok18) (df_cons (qd F19 (bd19 F19) sc19 ok19) df_nil))))))))))))))))))))
      exact dA
    · exact (lk_cons ⟨(He.glo_ok X G (c.t.d.fact 1 (f := .glo ("refilled" : Str)) rfl)), by decide⟩ (lk_cons ⟨(He.glo_ok X G (c.t.d.fact 2 (f := .glo ("most_over" : Str)) rfl)), by decide⟩ (lk_cons ⟨(He.glo_ok X G (c.t.d.fact 3 (f := .glo ("keeps" : Str)) rfl)), by decide⟩ (lk_cons ⟨(He.glo_ok X G (c.t.d.fact 4 (f := .glo ("least_burst" : Str)) rfl)), by decide⟩ (lk_cons ⟨(He.glo_ok X G (c.t.d.fact 5 (f := .glo ("shaped" : Str)) rfl)), by decide⟩ (lk_cons ⟨(He.glo_ok X G (c.t.d.fact 6 (f := .glo ("brought" : Str)) rfl)), by decide⟩ (lk_cons ⟨(He.glo_ok X G (c.t.d.fact 7 (f := .glo ("bucket_curve" : Str)) rfl)), by decide⟩ (lk_cons ⟨(He.glo_ok X G (c.t.d.fact 8 (f := .glo ("folded" : Str)) rfl)), by decide⟩ (lk_cons ⟨(He.glo_ok X G (c.t.d.fact 9 (f := .glo ("is_under" : Str)) rfl)), by decide⟩ (lk_cons ⟨(He.glo_ok X G (c.t.d.fact 10 (f := .glo ("most_queue" : Str)) rfl)), by decide⟩ (lk_cons ⟨(He.glo_ok X G (c.t.d.fact 11 (f := .glo ("in_slots_on_end" : Str)) rfl)), by decide⟩ (lk_cons ⟨(He.glo_ok X G (c.t.d.fact 12 (f := .glo ("tightest" : Str)) rfl)), by decide⟩ (lk_cons ⟨(He.glo_ok X G (c.t.d.fact 13 (f := .glo ("served_by" : Str)) rfl)), by decide⟩ (lk_cons ⟨(He.glo_ok X G (c.t.d.fact 14 (f := .glo ("surely" : Str)) rfl)), by decide⟩ (lk_cons ⟨(He.glo_ok X G (c.t.d.fact 15 (f := .glo ("slots_of_cells" : Str)) rfl)), by decide⟩ (lk_cons ⟨(He.glo_ok X G (c.t.d.fact 16 (f := .glo ("cell_waits" : Str)) rfl)), by decide⟩ (lk_cons ⟨(He.glo_ok X G (c.t.d.fact 17 (f := .glo ("_law_dice" : Str)) rfl)), by decide⟩ (lk_cons ⟨(He.glo_ok X G (c.t.d.fact 18 (f := .glo ("_law_roll" : Str)) rfl)), by decide⟩ (lk_cons ⟨(He.glo_ok X G (c.t.d.fact 19 (f := .glo ("_law_rounds" : Str)) rfl)), by decide⟩ (lk_cons ⟨(He.glo_ok X G (c.t.d.fact 0 (f := .glo ("law" : Str)) rfl)), by decide⟩ lk_nil))))))))))))))))))))
    · exact lk_nil
    · exact lk_nil
    · exact lk_nil
    · intro kC f h
      have h0 : (Nat.blt f 0 && Nat.blt kC 0) = true := h
      have h1 := Bool.and_eq_true_iff.mp h0
      have h2 := Nat.blt_eq.mp h1.1
      have h3 := Nat.blt_eq.mp h1.2
      omega
    · exact (bl_cons (He.free_ok X G (c.t.d.fact 20 (f := .free ("abs" : Str)) rfl)) (bl_cons (He.free_ok X G (c.t.d.fact 21 (f := .free ("all" : Str)) rfl)) (bl_cons (He.free_ok X G (c.t.d.fact 22 (f := .free ("enumerate" : Str)) rfl)) (bl_cons (He.free_ok X G (c.t.d.fact 23 (f := .free ("int" : Str)) rfl)) (bl_cons (He.free_ok X G (c.t.d.fact 24 (f := .free ("len" : Str)) rfl)) (bl_cons (He.free_ok X G (c.t.d.fact 25 (f := .free ("max" : Str)) rfl)) (bl_cons (He.free_ok X G (c.t.d.fact 26 (f := .free ("min" : Str)) rfl)) (bl_cons (He.free_ok X G (c.t.d.fact 27 (f := .free ("range" : Str)) rfl)) (bl_cons (He.free_ok X G (c.t.d.fact 28 (f := .free ("sum" : Str)) rfl)) (bl_cons (He.free_ok X G (c.t.d.fact 29 (f := .free ("tuple" : Str)) rfl)) (bl_cons (He.free_ok X G (c.t.d.fact 30 (f := .free ("zip" : Str)) rfl)) bl_nil)))))))))))
    · exact lk_nil
    · exact lk_nil
    · exact lk_nil
    · exact lk_nil
    · exact fun _ h => nomatch h
  · have nd : ((Sg K).tabs.map (·.1)).Nodup := by
      have z := of_decide_eq_true c.more
      rw [show (Sg K).tabs.map (·.1) = tq.map fun p => (He.cT K p.1).2 from List.map_map]
      exact z
    have lA : ∀ i e, T.defs[i]? = some e → QL K (Sg K) (fad K) (tf.map (He.cT K)) i e := df_all (Q := QL K (Sg K) (fad K) (tf.map (He.cT K))) (df_cons (fun h => nomatch h) (df_cons (fun h => nomatch h) (df_cons (fun h => nomatch h) (df_cons (fun h => nomatch h) (df_cons (fun h => nomatch h) (df_cons (fun h => nomatch h) (df_cons (fun h => nomatch h) (df_cons (fun h => nomatch h) (df_cons (fun h => nomatch h) (df_cons (fun h => nomatch h) (df_cons (fun h => nomatch h) (df_cons (fun h => nomatch h) (df_cons (fun h => nomatch h) (df_cons (fun h => nomatch h) (df_cons (fun h => nomatch h) (df_cons (fun h => nomatch h) (df_cons (fun h => nomatch h) (df_cons (fun h => nomatch h) (df_cons (fun h => nomatch h) (df_cons (fun h => nomatch h) df_nil))))))))))))))))))))
    exact lA
  · intro p hp
    obtain ⟨z, hz, rfl⟩ := List.mem_map.mp hp
    exact LamX.TabS.nil (hH (He.cT K z.1) (List.mem_map.mpr ⟨z.1, by rw [show tf = tq.map (·.1) from rfl]; exact List.mem_map_of_mem hz, rfl⟩))
abbrev R : PySem.W.OpenRow := PySem.W.OpenLaw.row PySem.Challenge.rw_crossloom_k33_shaped_served_and_bounded
abbrev hk : PySem.W.Hook := He.hookX 6 fa fn [] tf ex
def ob (s : PySem.W.SharedT) : He.AlX := He.obsX 6 fa fn [] tf ex (HandSHeadRun.getT s)
theorem ob_eq (s : PySem.W.SharedT) : ob s = hk.obs s.abs := He.obsX_eq (HandSHeadRun.getT_eq s)
def lo0 : List PySem.Str := [("refilled" : Str), ("most_over" : Str), ("keeps" : Str), ("least_burst" : Str), ("shaped" : Str), ("brought" : Str), ("bucket_curve" : Str), ("folded" : Str), ("is_under" : Str), ("most_queue" : Str), ("in_slots_on_end" : Str), ("tightest" : Str), ("served_by" : Str), ("surely" : Str), ("slots_of_cells" : Str), ("cell_waits" : Str), ("_law_dice" : Str), ("_law_roll" : Str), ("_law_rounds" : Str)]
def loose : List PySem.Str := lo0
theorem run0 (w : World) : HandSHeadRun.RunEq R (PySem.W.view R.prog [22]) hk ob 5000 loose w := by
  intro os
  kernel_rfl
theorem P_eq : T.P = M33.P := rfl
theorem pure (ns : List Int) (_ : ns.length ≤ 63) : ∃ s', run T.P T.F 20 19 [scriptD ns] Ev.s0 = .ok (.bool true) s' := by
  have h := M33.law_at ns
  rw [← P_eq] at h
  exact h
end K33
open PySem PySem.W PyProof.Rows
set_option maxRecDepth 1000000 in
set_option maxHeartbeats 0 in
theorem PySem.Challenge.cw_crossloom_k33_shaped_served_and_bounded_holds : PySem.Challenge.rw_crossloom_k33_shaped_served_and_bounded.Holds := by
  w_on; o_law
  refine HandSHeadRun.head_any (r := OpenLaw.row PySem.Challenge.rw_crossloom_k33_shaped_served_and_bounded) (q := view (OpenLaw.row PySem.Challenge.rw_crossloom_k33_shaped_served_and_bounded).prog [22]) (H := K33.hk) (ob := K33.ob) (M := 5000) (loose := K33.loose) (d := HandSHeadRun.topDef (OpenLaw.row PySem.Challenge.rw_crossloom_k33_shaped_served_and_bounded).prog 22) (kwd := []) K33.ob_eq
    (by kernel_rfl) (fun s => by kernel_rfl) K33.run0 (by kernel_rfl) (by kernel_rfl) (by kernel_rfl) (by rfl) (by first | assumption | decide +kernel) (by decide +kernel) ⟨rfl, rfl, rfl, rfl, rfl, by decide +kernel⟩ ?hw ?hc
  case hw => w_witness2
  case hc =>
    exact Ev.walkT (l := PySem.Challenge.rw_crossloom_k33_shaped_served_and_bounded) K33.T 20 19 (x := "script") rfl (by kernel_rfl) ⟨rfl, by decide, by decide⟩ (by kernel_rfl) (fun w K mg f h X G c hfa => K33.all_mk (w := w) X G c hfa) K33.pure
