import PyProof.Rows.All
import Wide.All
import OpenK.AllK
import Wide.FinOn
import HandS.ForMost
import HandS.ForExc
import HandS.IsInst
import HandS.Wide
import HandS.Lambda
import HandS.ExcInit
import HandS.Steps
import HandS.Style
import HandS.RaiseMore
import HandS.Iter
import HandS.Comp
import HandS.ExcField
import HandS.EndTab
import KE.KNestM
import HandS.ExcIs
import KE.KExcInit
import HandS.TryOnly
import HandS.MakeKwOnly
import HandS.Property
import HandS.StrMore
import HandS.Text
import HandS.SlotsOwn
import HandS.More
import PyProof.InstNe
import PyProof.ReprBulk
import KE.KCallOwn
import HandS.Star
import HandS.Zip
import OpenK.KMeth
import KE.KOpsOwn
import HandS.TupAny
import HandS.Dict
import HandS.ListItems
import HandS.Deep
import HandS.DictComp
import HandS.FStr
import PyProof.StrOps2
import PyProof.DictDisplay
import KE.GoesEnum
import HandS.MakeKw
import PySem.Challenge.RW_whatiftimes_k08_names_and_capacities
set_option Elab.async false
set_option linter.all false
set_option maxRecDepth 100000
set_option maxHeartbeats 2100000
section
/-! VL: a view of the abstract heap: values and objects by places in a list; what a piece of the program does is a plain Lean function over the view. -/
namespace VL
open PySem L2

/-- a value of a view: ref is a place in the view's list, fix an address that stands outside of it, tup a tuple with its items -/
inductive W where
  | non | bl (b : Bool) | int (i : Int) | str (x : Str) | ref (i : Nat) | fix (a : Addr) | ty (n : String) | tup (xs : List W)
mutual
def W.dec : (a b : W) → Decidable (a = b)
  | .non, .non => Decidable.isTrue rfl
  | .bl x, .bl y => if h : x = y then Decidable.isTrue (by rw [h]) else Decidable.isFalse (fun z => h (by cases z; rfl))
  | .int x, .int y => if h : x = y then Decidable.isTrue (by rw [h]) else Decidable.isFalse (fun z => h (by cases z; rfl))
  | .str x, .str y => if h : x = y then Decidable.isTrue (by rw [h]) else Decidable.isFalse (fun z => h (by cases z; rfl))
  | .ref x, .ref y => if h : x = y then Decidable.isTrue (by rw [h]) else Decidable.isFalse (fun z => h (by cases z; rfl))
  | .fix x, .fix y => if h : x = y then Decidable.isTrue (by rw [h]) else Decidable.isFalse (fun z => h (by cases z; rfl))
  | .ty x, .ty y => if h : x = y then Decidable.isTrue (by rw [h]) else Decidable.isFalse (fun z => h (by cases z; rfl))
  | .tup xs, .tup ys => match W.decs xs ys with
    | Decidable.isTrue h => Decidable.isTrue (by rw [h])
    | Decidable.isFalse h => Decidable.isFalse (fun z => h (by cases z; rfl))
  | .non, .bl _ | .non, .int _ | .non, .str _ | .non, .ref _ | .non, .fix _ | .non, .ty _ | .non, .tup _ => Decidable.isFalse (fun z => by cases z)
  | .bl _, .non | .bl _, .int _ | .bl _, .str _ | .bl _, .ref _ | .bl _, .fix _ | .bl _, .ty _ | .bl _, .tup _ => Decidable.isFalse (fun z => by cases z)
  | .int _, .non | .int _, .bl _ | .int _, .str _ | .int _, .ref _ | .int _, .fix _ | .int _, .ty _ | .int _, .tup _ => Decidable.isFalse (fun z => by cases z)
  | .str _, .non | .str _, .bl _ | .str _, .int _ | .str _, .ref _ | .str _, .fix _ | .str _, .ty _ | .str _, .tup _ => Decidable.isFalse (fun z => by cases z)
  | .ref _, .non | .ref _, .bl _ | .ref _, .int _ | .ref _, .str _ | .ref _, .fix _ | .ref _, .ty _ | .ref _, .tup _ => Decidable.isFalse (fun z => by cases z)
  | .fix _, .non | .fix _, .bl _ | .fix _, .int _ | .fix _, .str _ | .fix _, .ref _ | .fix _, .ty _ | .fix _, .tup _ => Decidable.isFalse (fun z => by cases z)
  | .ty _, .non | .ty _, .bl _ | .ty _, .int _ | .ty _, .str _ | .ty _, .ref _ | .ty _, .fix _ | .ty _, .tup _ => Decidable.isFalse (fun z => by cases z)
  | .tup _, .non | .tup _, .bl _ | .tup _, .int _ | .tup _, .str _ | .tup _, .ref _ | .tup _, .fix _ | .tup _, .ty _ => Decidable.isFalse (fun z => by cases z)
def W.decs : (a b : List W) → Decidable (a = b)
  | [], [] => Decidable.isTrue rfl
  | [], _ :: _ => Decidable.isFalse (fun z => by cases z)
  | _ :: _, [] => Decidable.isFalse (fun z => by cases z)
  | x :: xs, y :: ys => match W.dec x y, W.decs xs ys with
    | Decidable.isTrue h, Decidable.isTrue g => Decidable.isTrue (by rw [h, g])
    | Decidable.isFalse h, _ => Decidable.isFalse (fun z => h (by cases z; rfl))
    | _, Decidable.isFalse g => Decidable.isFalse (fun z => g (by cases z; rfl))
end
instance : DecidableEq W := W.dec
/-- the places of a view, and the tuples that are known -/
structure Pl where
  l : List Addr
  tu : Addr → List V → Prop
instance : GetElem? Pl Nat Addr (fun ps i => i < ps.l.length) where
  getElem ps i h := ps.l[i]
  getElem? ps i := ps.l[i]?
  getElem! ps i := ps.l[i]!
instance : Membership Addr Pl := ⟨fun ps a => a ∈ ps.l⟩
instance : HAppend Pl (List Addr) Pl := ⟨fun ps t => ⟨ps.l ++ t, ps.tu⟩⟩
def Pl.length (ps : Pl) : Nat := ps.l.length
def Pl.Nodup (ps : Pl) : Prop := ps.l.Nodup
/-- these places, no tuples -/
def Pl.of (l : List Addr) : Pl := ⟨l, fun _ _ => False⟩
/-- no places, but the tuples -/
def Pl.off (ps : Pl) (l : List Addr) : Pl := ⟨l, ps.tu⟩
/-- one more tuple is known -/
def Pl.more (ps : Pl) (a : Addr) (vs : List V) : Pl := ⟨ps.l, fun b us => ps.tu b us ∨ (b = a ∧ us = vs)⟩
def Pl.Le (ps qs : Pl) : Prop := ps.l <+: qs.l ∧ ∀ a vs, ps.tu a vs → qs.tu a vs
theorem Pl.get_l {ps : Pl} {i : Nat} : ps[i]? = ps.l[i]? := rfl
theorem Pl.Le.refl (ps : Pl) : Pl.Le ps ps := ⟨List.prefix_refl _, fun _ _ h => h⟩
theorem Pl.Le.trans {ps qs rs : Pl} (a : Pl.Le ps qs) (b : Pl.Le qs rs) : Pl.Le ps rs := ⟨a.1.trans b.1, fun _ _ h => b.2 _ _ (a.2 _ _ h)⟩
theorem Pl.Le.app (ps : Pl) (t : List Addr) : Pl.Le ps (ps ++ t) := ⟨List.prefix_append _ _, fun _ _ h => h⟩
theorem Pl.Le.more (ps : Pl) (a : Addr) (vs : List V) : Pl.Le ps (ps.more a vs) := ⟨List.prefix_refl _, fun _ _ h => .inl h⟩
mutual
def WV (ps : Pl) : W → V → Prop
  | .non, v => v = .non
  | .bl b, v => v = .bl b
  | .int i, v => v = .int i
  | .str x, v => v = .str x
  | .ty n, v => v = .ty n
  | .fix a, v => v = .ref a
  | .ref i, v => ∃ a, ps[i]? = some a ∧ v = .ref a
  | .tup ws, v => ∃ a vs, v = .ref a ∧ ps.tu a vs ∧ WVL ps ws vs
def WVL (ps : Pl) : List W → List V → Prop
  | [], vs => vs = []
  | w :: ws, vs => ∃ v us, vs = v :: us ∧ WV ps w v ∧ WVL ps ws us
end
theorem WVL.pair {ps : Pl} : ∀ {ws : List W} {vs : List V}, WVL ps ws vs → Paired (WV ps) ws vs
  | [], _, h => by
    unfold WVL at h
    subst h
    exact .nil
  | w :: ws, _, h => by
    unfold WVL at h
    obtain ⟨v, us, rfl, h1, h2⟩ := h
    exact .cons h1 (WVL.pair h2)
theorem WVL.of {ps : Pl} : ∀ {ws : List W} {vs : List V}, Paired (WV ps) ws vs → WVL ps ws vs
  | [], _, .nil => by
    unfold WVL
    rfl
  | w :: ws, _, .cons h t => by
    unfold WVL
    exact ⟨_, _, rfl, h, WVL.of t⟩
theorem WV.tup_of {ps : Pl} {ws : List W} {v : V} (h : WV ps (.tup ws) v) : ∃ a vs, v = .ref a ∧ ps.tu a vs ∧ Paired (WV ps) ws vs := by
  unfold WV at h
  obtain ⟨a, vs, h1, h2, h3⟩ := h
  exact ⟨a, vs, h1, h2, h3.pair⟩
theorem WV.tup_mk {ps : Pl} {ws : List W} {a : Addr} {vs : List V} (h1 : ps.tu a vs) (h2 : Paired (WV ps) ws vs) : WV ps (.tup ws) (.ref a) := by
  unfold WV
  exact ⟨a, vs, rfl, h1, WVL.of h2⟩

inductive O where
  | lst (xs : List W) | rol (xs : List W) | dic (kvs : List (Key × W)) | rod (kvs : List (Key × W)) | rox (kvs : List (Key × W)) | ins (c : String) (fs : List (Str × W)) | xd (fs : List (Str × W))
  /-- an error as a value: its class, the place of its fields; these fields -/
  | err (c : String) (j : Nat) | xdd (fs : List (Str × W))

abbrev Hv := List O
abbrev Ws := List (Option W)
abbrev Tb := List (Addr × Str)
/-- objects that are known to stand as they are: locked ones -/
structure Hd where
  p : Addr → HO → Prop
  fz : ∀ a u, p a u → ∃ o x, u = .frz o x
def Hd.no : Hd := ⟨fun _ _ => False, fun _ _ h => h.elim⟩
def Hd.one (d : Hd) (a : Addr) (o : Obj) (x : HO) : Hd := ⟨fun b u => d.p b u ∨ (b = a ∧ u = .frz o x), fun b u h => h.elim (d.fz b u) fun e => ⟨o, x, e.2⟩⟩
/-- what a view leans on: the tables of code objects, and a fact about places that stays -/
structure Tx where
  /-- what the program holds: tuples that are constants stand there -/
  K : PySem.W.Frag
  tb : Tb
  C : List Addr → Prop
  mono : ∀ ps qs, ps <+: qs → C ps → C qs
  /-- the classes of errors, by their names -/
  cv : String → Value
  hd : Hd
def Tx.plain (K : PySem.W.Frag) (t : Tb) (cv : String → Value) : Tx := ⟨K, t, fun _ => True, fun _ _ _ h => h, cv, Hd.no⟩
/-- .. with these objects known -/
@[reducible] def Tx.hold (T : Tx) (d : Hd) : Tx := ⟨T.K, T.tb, T.C, T.mono, T.cv, d⟩
/-- .. with one place known -/
def Tx.known (T : Tx) (j : Nat) (a : Addr) : Tx := ⟨T.K, T.tb, fun ps => T.C ps ∧ ps[j]? = some a, fun ps qs h ⟨c, e⟩ => ⟨T.mono ps qs h c, by
  obtain ⟨r, rfl⟩ := h
  rw [List.getElem?_append_left (List.getElem?_eq_some_iff.mp e).1]
  exact e⟩, T.cv, T.hd⟩

def PW2 {k : Type} (ps : Pl) (p : k × W) (q : k × V) : Prop := p.1 = q.1 ∧ WV ps p.2 q.2

def OAt (T : Tx) (ps : Pl) (H : Hp) (a : Addr) : O → Prop
  | .lst xs => ∃ vs, Paired (WV ps) xs vs ∧ H a = some (.lst vs)
  | .rol xs => ∃ vs ob, Paired (WV ps) xs vs ∧ H a = some (.frz ob (.lst vs))
  | .dic kvs => ∃ vs, Paired (PW2 ps) kvs vs ∧ H a = some (.dK vs)
  | .rod kvs => ∃ vs ob, Paired (PW2 ps) kvs vs ∧ H a = some (.frz ob (.dK vs)) ∧ T.hd.p a (.frz ob (.dK vs))
  | .rox kvs => ∃ vs ob, Paired (PW2 ps) kvs vs ∧ H a = some (.frz ob (.dK vs))
  | .ins c fs => ∃ vs dx C, T.cv c = .ref C ∧ Paired (PW2 ps) fs vs ∧ H a = some (.ins C dx vs)
  | .xd fs => ∃ vs, Paired (PW2 ps) fs vs ∧ H a = some (.xd vs)
  | .err c j => ∃ C dx, T.cv c = .ref C ∧ ps[j]? = some dx ∧ H a = some (exo a C (some dx))
  | .xdd fs => ∃ vs, Paired (PW2 ps) fs vs ∧ H a = some (exd a vs)

/-- a tuple of the program's own -/
def KT (K : PySem.W.Frag) (a : Addr) (xs : List V) : Prop := ∃ (o : Obj) (its : Array Value) (n : Nat), K.lookup a = some o ∧ o.cls = .type "tuple" ∧ o.data = .seq its n ∧ its.size ≤ sizeLine ∧ Vals xs its.toList
def TupAt (K : PySem.W.Frag) (H : Hp) (a : Addr) (xs : List V) : Prop := H a = some (.tup xs) ∨ KT K a xs
theorem TupAt.sq {K : PySem.W.Frag} {H : Hp} {a : Addr} {xs : List V} (h : TupAt K H a xs) : SqT K H a xs := h.elim SqT.of .inr
theorem TupAt.put {K : PySem.W.Frag} {H H' : Hp} {a : Addr} {xs : List V} (h : TupAt K H a xs) (k : H a = some (.tup xs) → H' a = some (.tup xs)) : TupAt K H' a xs := h.imp k id
structure View (T : Tx) (ps : Pl) (h : Hv) (H : Hp) : Prop where
  len : ps.length = h.length
  nd : ps.Nodup
  ob : ∀ (i : Nat) (a : Addr) (o : O), ps[i]? = some a → h[i]? = some o → OAt T ps H a o
  tab : LamX.Tabs T.tb H
  fact : T.C ps.l
  tup : ∀ a vs, ps.tu a vs → TupAt T.K H a vs
  hold : ∀ a u, T.hd.p a u → H a = some u

structure Step (ps : Pl) (H : Hp) (qs : Pl) (H' : Hp) : Prop where
  pre : Pl.Le ps qs
  new : ∀ a o, a ∈ qs → a ∉ ps → H a = some o → ∃ z, o = .tbl z
  fr : ∀ a o, H a = some o → (∀ z, o ≠ .tbl z) → a ∉ ps → H' a = some o

theorem at_pre {ps qs : Pl} {p : Nat} {a : Addr} (h : Pl.Le ps qs) (e : ps[p]? = some a) : qs[p]? = some a := by
  obtain ⟨⟨r, hr⟩, _⟩ := h
  have e2 : ps.l[p]? = some a := e
  show qs.l[p]? = some a
  rw [← hr, List.getElem?_append_left (List.getElem?_eq_some_iff.mp e2).1]
  exact e2
mutual
theorem WV.mono {ps qs : Pl} (h : Pl.Le ps qs) : ∀ {w : W} {v : V}, WV ps w v → WV qs w v
  | .non, _, e => e
  | .bl _, _, e => e
  | .int _, _, e => e
  | .str _, _, e => e
  | .ty _, _, e => e
  | .fix _, _, e => e
  | .ref i, _, ⟨a, e1, e2⟩ => ⟨a, at_pre h e1, e2⟩
  | .tup ws, _, ⟨a, vs, e1, e2, e3⟩ => ⟨a, vs, e1, h.2 _ _ e2, WVL.mono h e3⟩
theorem WVL.mono {ps qs : Pl} (h : Pl.Le ps qs) : ∀ {ws : List W} {vs : List V}, WVL ps ws vs → WVL qs ws vs
  | [], _, e => e
  | w :: ws, _, ⟨v, us, e1, e2, e3⟩ => ⟨v, us, e1, WV.mono h e2, WVL.mono h e3⟩
end
theorem WVs.mono {ps qs : Pl} (h : Pl.Le ps qs) {xs : List W} {vs : List V} (r : Paired (WV ps) xs vs) : Paired (WV qs) xs vs := L2.Paired.mapP r fun _ _ e => e.mono h
theorem PW2.mono {k : Type} {ps qs : Pl} (h : Pl.Le ps qs) {p : k × W} {q : k × V} (r : PW2 ps p q) : PW2 qs p q := ⟨r.1, r.2.mono h⟩
theorem OAt.mono {T : Tx} {ps qs : Pl} {H : Hp} {a : Addr} (h : Pl.Le ps qs) : ∀ {o : O}, OAt T ps H a o → OAt T qs H a o
  | .lst _, ⟨vs, r, e⟩ => ⟨vs, WVs.mono h r, e⟩
  | .rol _, ⟨vs, ob, r, e⟩ => ⟨vs, ob, WVs.mono h r, e⟩
  | .dic _, ⟨vs, r, e⟩ => ⟨vs, L2.Paired.mapP r fun _ _ z => z.mono h, e⟩
  | .rod _, ⟨vs, ob, r, e⟩ => ⟨vs, ob, L2.Paired.mapP r fun _ _ z => z.mono h, e⟩
  | .rox _, ⟨vs, ob, r, e⟩ => ⟨vs, ob, L2.Paired.mapP r fun _ _ z => z.mono h, e⟩
  | .ins _ _, ⟨vs, dx, C, q, r, e⟩ => ⟨vs, dx, C, q, L2.Paired.mapP r fun _ _ z => z.mono h, e⟩
  | .xd _, ⟨vs, r, e⟩ => ⟨vs, L2.Paired.mapP r fun _ _ z => z.mono h, e⟩
  | .err _ _, ⟨C, dx, e1, e2, e3⟩ => ⟨C, dx, e1, at_pre h e2, e3⟩
  | .xdd _, ⟨vs, r, e⟩ => ⟨vs, L2.Paired.mapP r fun _ _ z => z.mono h, e⟩
/-- the object at a, as it stands: no table, no tuple -/
def NoTT (u : HO) : Prop := (∀ z, u ≠ .tbl z) ∧ ∀ vs, u ≠ .tup vs
theorem OAt.there2 {T : Tx} {ps : Pl} {H : Hp} {a : Addr} : ∀ {o : O}, OAt T ps H a o → ∃ u, H a = some u ∧ NoTT u
  | .lst _, ⟨vs, r, e⟩ => ⟨_, e, (fun _ z => by cases z), (fun _ z => by cases z)⟩
  | .rol _, ⟨vs, ob, r, e⟩ => ⟨_, e, (fun _ z => by cases z), (fun _ z => by cases z)⟩
  | .dic _, ⟨vs, r, e⟩ => ⟨_, e, (fun _ z => by cases z), (fun _ z => by cases z)⟩
  | .rod _, ⟨vs, ob, r, e, _⟩ => ⟨_, e, (fun _ z => by cases z), (fun _ z => by cases z)⟩
  | .rox _, ⟨vs, ob, r, e⟩ => ⟨_, e, (fun _ z => by cases z), (fun _ z => by cases z)⟩
  | .ins _ _, ⟨vs, dx, C, q, r, e⟩ => ⟨_, e, (fun _ z => by cases z), (fun _ z => by cases z)⟩
  | .xd _, ⟨vs, r, e⟩ => ⟨_, e, (fun _ z => by cases z), (fun _ z => by cases z)⟩
  | .err _ _, ⟨C, dx, e1, e2, e3⟩ => ⟨_, e3, (fun _ z => by cases z), (fun _ z => by cases z)⟩
  | .xdd _, ⟨vs, r, e⟩ => ⟨_, e, (fun _ z => by cases z), (fun _ z => by cases z)⟩
theorem OAt.there {T : Tx} {ps : Pl} {H : Hp} {a : Addr} {o : O} (h : OAt T ps H a o) : ∃ u, H a = some u ∧ (∀ z, u ≠ .tbl z) := by
  obtain ⟨u, e, n⟩ := h.there2
  exact ⟨u, e, n.1⟩
theorem OAt.put {T : Tx} {ps : Pl} {H H' : Hp} {a : Addr} (h : ∀ u, H a = some u → H' a = some u) : ∀ {o : O}, OAt T ps H a o → OAt T ps H' a o
  | .lst _, ⟨vs, r, e⟩ => ⟨vs, r, h _ e⟩
  | .rol _, ⟨vs, ob, r, e⟩ => ⟨vs, ob, r, h _ e⟩
  | .dic _, ⟨vs, r, e⟩ => ⟨vs, r, h _ e⟩
  | .rod _, ⟨vs, ob, r, e, q⟩ => ⟨vs, ob, r, h _ e, q⟩
  | .rox _, ⟨vs, ob, r, e⟩ => ⟨vs, ob, r, h _ e⟩
  | .ins _ _, ⟨vs, dx, C, q, r, e⟩ => ⟨vs, dx, C, q, r, h _ e⟩
  | .xd _, ⟨vs, r, e⟩ => ⟨vs, r, h _ e⟩
  | .err _ _, ⟨C, dx, e1, e2, e3⟩ => ⟨C, dx, e1, e2, h _ e3⟩
  | .xdd _, ⟨vs, r, e⟩ => ⟨vs, r, h _ e⟩

theorem Step.refl (ps : Pl) (H : Hp) : Step ps H ps H := ⟨Pl.Le.refl _, fun _ _ h n _ => absurd h n, fun _ _ h _ _ => h⟩
theorem Step.trans {ps qs rs : Pl} {H H1 H2 : Hp} (a : Step ps H qs H1) (b : Step qs H1 rs H2) : Step ps H rs H2 := by
  have key : ∀ c o, H c = some o → (∀ z, o ≠ .tbl z) → c ∉ ps → c ∉ qs := fun c o h ht n hq => by
    obtain ⟨z, e⟩ := a.new c o hq n h
    exact ht z e
  refine ⟨a.pre.trans b.pre, fun c o hc n h => ?_, fun c o h ht n => b.fr c o (a.fr c o h ht n) ht (key c o h ht n)⟩
  by_cases ht : ∃ z, o = .tbl z
  · exact ht
  · have ht' : ∀ z, o ≠ .tbl z := fun z e => ht ⟨z, e⟩
    exact b.new c o hc (key c o h ht' n) (a.fr c o h ht' n)

section
variable {T : Tx} {ps : Pl} {h : Hv} {H : Hp}
theorem View.get (v : View T ps h H) {i : Nat} {o : O} (e : h[i]? = some o) : ∃ a, ps[i]? = some a ∧ OAt T ps H a o := by
  have hl : i < ps.l.length := by
    have := v.len
    unfold Pl.length at this
    rw [this]
    exact (List.getElem?_eq_some_iff.mp e).elim fun a _ => a
  have e2 : ps[i]? = some ps.l[i] := by
    show ps.l[i]? = some ps.l[i]
    simp [hl]
  exact ⟨_, e2, v.ob i _ o e2 e⟩
theorem View.mem2 (v : View T ps h H) {a : Addr} (ha : a ∈ ps) : ∃ u, H a = some u ∧ NoTT u := by
  obtain ⟨i, hi, e⟩ := List.getElem_of_mem (show a ∈ ps.l from ha)
  have hl : i < h.length := by
    have := v.len
    unfold Pl.length at this
    omega
  have e2 : ps[i]? = some a := by
    show ps.l[i]? = some a
    simp [hi, e]
  exact (v.ob i a h[i] e2 (by simp [hl])).there2
theorem View.mem (v : View T ps h H) {a : Addr} (ha : a ∈ ps) : ∃ u, H a = some u ∧ (∀ z, u ≠ .tbl z) := by
  obtain ⟨u, e, n⟩ := v.mem2 ha
  exact ⟨u, e, n.1⟩
theorem View.fresh (v : View T ps h H) {p : Addr} (hp : H p = none) : p ∉ ps := fun z => by
  obtain ⟨u, e, _⟩ := v.mem z
  rw [hp] at e; cases e
theorem tabs_new {T : Tb} (t : LamX.Tabs T H) {p : Addr} (hp : H p = none) (o : HO) : LamX.Tabs T (upd H p o) := t.ext fun b u e => by rw [upd_ne (ne_of_none e hp)]; exact e
theorem tabs_put {T : Tb} (t : LamX.Tabs T H) {p : Addr} {u : HO} (hp : H p = some u) (h1 : ∀ z, u ≠ .tbl z) (h2 : ∀ f, u ≠ .ext f) (o : HO) : LamX.Tabs T (upd H p o) := fun q hq => by
  obtain ⟨z, e1, e2, e3⟩ := t q hq
  refine ⟨z, by rw [upd_ne (fun w => h1 z (by rw [w, hp] at e1; exact Option.some.inj e1))]; exact e1, e2, fun pos cv hc => ?_⟩
  obtain ⟨c, r1, r2⟩ := e3 pos cv hc
  refine ⟨c, r1, ?_⟩
  rw [upd_ne (fun w => h2 _ (by rw [w, hp] at r2; exact Option.some.inj r2))]
  exact r2
theorem View.hold_new (v : View T ps h H) {p : Addr} (hp : H p = none) {o : HO} : ∀ b u, T.hd.p b u → (upd H p o) b = some u := fun b u hb => by
  have e := v.hold b u hb
  rw [upd_ne (ne_of_none e hp)]
  exact e
/-- a new object of ours -/
theorem View.alloc (v : View T ps h H) {p : Addr} (hp : H p = none) {o : O} {u : HO} (ho : OAt T ps (upd H p u) p o) : View T (ps ++ [p]) (h ++ [o]) (upd H p u) ∧ Step ps H (ps ++ [p]) (upd H p u) ∧ (ps ++ [p])[h.length]? = some p := by
  have hn := v.fresh hp
  have vl : ps.l.length = h.length := v.len
  refine ⟨⟨?_, ?_, fun i a o' e1 e2 => ?_, tabs_new v.tab hp u, T.mono _ _ (List.prefix_append _ _) v.fact, fun a vs t => ?_, v.hold_new hp⟩, ⟨Pl.Le.app _ _, fun a o' ha hb he => ?_, fun a o' e _ _ => by rw [upd_ne (ne_of_none e hp)]; exact e⟩, ?_⟩
  · show (ps.l ++ [p]).length = (h ++ [o]).length
    simp [vl]
  · show (ps.l ++ [p]).Nodup
    rw [List.nodup_append]
    refine ⟨v.nd, by simp, fun a ha b hb => ?_⟩
    simp at hb
    rintro rfl
    exact hn (hb ▸ ha)
  · have e1' : (ps.l ++ [p])[i]? = some a := e1
    by_cases hi : i < ps.l.length
    · rw [List.getElem?_append_left hi] at e1'
      rw [List.getElem?_append_left (by omega)] at e2
      have q := v.ob i a o' e1' e2
      obtain ⟨u', e', _⟩ := q.there
      exact (q.put fun w hw => by rw [upd_ne (ne_of_none e' hp)]; exact hw).mono (Pl.Le.app _ _)
    · have hi' : i = ps.l.length := by
        have := (List.getElem?_eq_some_iff.mp e1').1
        simp at this; omega
      subst hi'
      simp at e1'
      rw [vl] at e2
      simp at e2
      subst e1' e2
      exact ho.mono (Pl.Le.app _ _)
  · exact (v.tup a vs t).put fun this => by
      rw [upd_ne (ne_of_none this hp)]
      exact this
  · have ha' : a ∈ ps.l ++ [p] := ha
    simp at ha'
    rcases ha' with ha | ha
    · exact absurd ha hb
    · rw [ha, hp] at he; cases he
  · show (ps.l ++ [p])[h.length]? = some p
    rw [← vl]
    simp
/-- a new tuple -/
theorem View.tuple (v : View T ps h H) {p : Addr} (hp : H p = none) (vs : List V) : View T (ps.more p vs) h (upd H p (.tup vs)) ∧ Step ps H (ps.more p vs) (upd H p (.tup vs)) := by
  have hn := v.fresh hp
  refine ⟨⟨v.len, v.nd, fun i a o' e1 e2 => ?_, tabs_new v.tab hp _, v.fact, fun a us t => ?_, v.hold_new hp⟩, ⟨Pl.Le.more _ _ _, fun a o' ha hb he => absurd ha hb, fun a o' e _ _ => by rw [upd_ne (ne_of_none e hp)]; exact e⟩⟩
  · have q := v.ob i a o' e1 e2
    obtain ⟨u', e', _⟩ := q.there
    exact (q.put fun w hw => by rw [upd_ne (ne_of_none e' hp)]; exact hw).mono (Pl.Le.more _ _ _)
  · rcases t with t | ⟨rfl, rfl⟩
    · exact (v.tup a us t).put fun this => by
        rw [upd_ne (ne_of_none this hp)]
        exact this
    · exact .inl upd_same
/-- an object of ours is another -/
theorem View.put (v : View T ps h H) {i : Nat} {a : Addr} (ha : ps[i]? = some a) {o : O} {u : HO} (ho : OAt T ps (upd H a u) a o) (hx : ∀ u0, H a = some u0 → (∀ f, u0 ≠ .ext f) ∧ ∀ o x, u0 ≠ .frz o x) : View T ps (h.set i o) (upd H a u) ∧ Step ps H ps (upd H a u) := by
  have ha' : ps.l[i]? = some a := ha
  have vl : ps.l.length = h.length := v.len
  obtain ⟨u0, e0, t0, t1⟩ := v.mem2 (List.mem_of_getElem? ha')
  have x0 := (hx u0 e0).1
  have x1 := (hx u0 e0).2
  refine ⟨⟨?_, v.nd, fun j b o' e1 e2 => ?_, tabs_put v.tab e0 t0 x0 u, v.fact, fun b us t => ?_, fun b w hb => ?_⟩, ⟨Pl.Le.refl _, fun _ _ h n _ => absurd h n, fun b o' e _ n => ?_⟩⟩
  · show ps.l.length = (h.set i o).length
    simp [vl]
  · by_cases hj : j = i
    · subst hj
      rw [ha] at e1
      cases e1
      have hl : j < h.length := by rw [← vl]; exact (List.getElem?_eq_some_iff.mp ha').1
      rw [List.getElem?_set_self hl] at e2
      cases e2
      exact ho
    · rw [List.getElem?_set_ne fun z => hj z.symm] at e2
      have q := v.ob j b o' e1 e2
      refine q.put fun w hw => ?_
      rw [upd_ne (fun z => hj ?_)]
      · exact hw
      · subst z
        have h1 := List.getElem?_eq_some_iff.mp ha'
        have h2 := List.getElem?_eq_some_iff.mp (show ps.l[j]? = _ from e1)
        exact (List.getElem_inj v.nd).mp (h2.2.trans h1.2.symm)
  · exact (v.tup b us t).put fun e => by
      rw [upd_ne (fun z => by rw [z, e0] at e; exact t1 us (Option.some.inj e))]
      exact e
  · have hH := v.hold b w hb
    obtain ⟨o1, y1, ew⟩ := T.hd.fz b w hb
    rw [upd_ne (fun z => by rw [z, e0, ew] at hH; exact x1 o1 y1 (Option.some.inj hH))]
    exact hH
  · rw [upd_ne (fun z => n (by rw [z]; exact List.mem_of_getElem? ha'))]
    exact e
end

/-! ### results -/
inductive Res (α : Type) where
  | val (a : α) (h : Hv)
  | exc (c : String) (d : Option Nat) (h : Hv)
  | bad
namespace Res
def bind {α β : Type} : Res α → (α → Hv → Res β) → Res β
  | .val a h, k => k a h
  | .exc c d h, _ => .exc c d h
  | .bad, _ => .bad
end Res
def DV (ps : Pl) : Option Nat → Option Addr → Prop
  | none, d => d = none
  | some i, d => ∃ a, ps[i]? = some a ∧ d = some a

def Good {α β : Type} (T : Tx) (R : Pl → α → β → Prop) (ps : Pl) (H : Hp) : Res α → (β → Hp → Prop) → XK → Prop
  | .val w h, Q, _ => ∀ qs H' v, Step ps H qs H' → View T qs h H' → R qs w v → Q v H'
  | .exc c d h, _, E => ∀ qs H' e, Step ps H qs H' → View T qs h H' → DV qs d e → E (T.cv c) e H'
  | .bad, _, _ => False
section
variable {α β γ δ : Type} {T : Tx} {R : Pl → α → β → Prop} {S : Pl → γ → δ → Prop} {ps qs : Pl} {H H1 : Hp} {h : Hv} {r : Res α} {Q : β → Hp → Prop} {E : XK}
theorem Good.step (g : Good T R ps H r Q E) (s : Step ps H qs H1) : Good T R qs H1 r Q E := by
  cases r with
  | val w h => exact fun rs H' v s' => g rs H' v (s.trans s')
  | exc c d h => exact fun rs H' e s' => g rs H' e (s.trans s')
  | bad => exact g
/-- what stands between two pieces -/
def Mid (T : Tx) (R : Pl → α → β → Prop) (S : Pl → γ → δ → Prop) (ps : Pl) (H : Hp) (k : α → Hv → Res γ) (Q : δ → Hp → Prop) (E : XK) (v : β) (H1 : Hp) : Prop :=
  ∃ qs w h1, Step ps H qs H1 ∧ View T qs h1 H1 ∧ R qs w v ∧ Good T S qs H1 (k w h1) Q E
theorem Good.bind {k : α → Hv → Res γ} {Q : δ → Hp → Prop} (g : Good T S ps H (r.bind k) Q E) : Good T R ps H r (Mid T R S ps H k Q E) E := by
  cases r with
  | val w h => exact fun qs H' v s vw rv => ⟨qs, w, h, s, vw, rv, Good.step g s⟩
  | exc c d h => exact g
  | bad => exact g
theorem Good.imp {Q' : β → Hp → Prop} {E' : XK} (g : Good T R ps H r Q E) (hq : ∀ v H', Q v H' → Q' v H') (he : ∀ c d H', E c d H' → E' c d H') : Good T R ps H r Q' E' := by
  cases r with
  | val w h => exact fun qs H' v s vw rv => hq _ _ (g qs H' v s vw rv)
  | exc c d h => exact fun qs H' e s vw rv => he _ _ _ (g qs H' e s vw rv)
  | bad => exact g
theorem Good.now {w : α} {v : β} (g : Good T R ps H (.val w h) Q E) (vw : View T ps h H) (rv : R ps w v) : Q v H := g ps H v (Step.refl _ _) vw rv
end

/-- the def's names -/
def ES (ps : Pl) (r : Ws) (s : St) : Prop := r.length = s.length ∧ ∀ (i : Nat) (w : W), r[i]? = some (some w) → ∃ v, s[i]? = some (some v) ∧ WV ps w v
theorem ES.mono {ps qs : Pl} {r : Ws} {s : St} (e : ES ps r s) (h : Pl.Le ps qs) : ES qs r s := ⟨e.1, fun i w q => by
  obtain ⟨v, a, b⟩ := e.2 i w q
  exact ⟨v, a, b.mono h⟩⟩
theorem ES.set {ps : Pl} {r : Ws} {s : St} {w : W} {v : V} (e : ES ps r s) (i : Nat) (h : WV ps w v) : ES ps (r.set i (some w)) (s.set i (some v)) := ⟨by simp [e.1], fun j u q => by
  by_cases hj : j = i
  · subst hj
    have hl : j < r.length := by simpa using (List.getElem?_eq_some_iff.mp q).1
    rw [List.getElem?_set_self hl] at q
    cases q
    exact ⟨v, by rw [List.getElem?_set_self (by rw [← e.1]; exact hl)], h⟩
  · rw [List.getElem?_set_ne (Ne.symm hj)] at q
    rw [List.getElem?_set_ne (Ne.symm hj)]
    exact e.2 j u q⟩

abbrev BEq2 : Pl → Bool → Bool → Prop := fun _ a b => a = b
/-- the readings -/
def tE (T : Tx) (E : WX) (f : Ws → Hv → Res W) : TE := fun s H Q => ∃ ps r h, ES ps r s ∧ View T ps h H ∧ Good T WV ps H (f r h) Q (fun c d H' => E c d s H')
def tT (T : Tx) (E : WX) (f : Ws → Hv → Res Bool) : TT := fun s H Q => ∃ ps r h, ES ps r s ∧ View T ps h H ∧ Good T BEq2 ps H (f r h) Q (fun c d H' => E c d s H')
def tA (T : Tx) (E : WX) (f : Ws → Hv → Res (List W)) : TA := fun s H Q => ∃ ps r h, ES ps r s ∧ View T ps h H ∧ Good T (fun qs => Paired (WV qs)) ps H (f r h) Q (fun c d H' => E c d s H')

inductive ResS where
  | nx (r : Ws) (h : Hv) | rt (w : W) (h : Hv) | bk (r : Ws) (h : Hv) | ct (r : Ws) (h : Hv) | exc (c : String) (d : Option Nat) (r : Ws) (h : Hv) | bad
def GoodS (T : Tx) (ps : Pl) (H : Hp) : ResS → Ends → WX → Prop
  | .nx r h, D, _ => ∀ qs H' s, Step ps H qs H' → View T qs h H' → ES qs r s → D.nx s H'
  | .rt w h, D, _ => ∀ qs H' v, Step ps H qs H' → View T qs h H' → WV qs w v → D.rt v H'
  | .bk r h, D, _ => ∀ qs H' s, Step ps H qs H' → View T qs h H' → ES qs r s → D.bk s H'
  | .ct r h, D, _ => ∀ qs H' s, Step ps H qs H' → View T qs h H' → ES qs r s → D.ct s H'
  | .exc c d r h, _, E => ∀ qs H' s e, Step ps H qs H' → View T qs h H' → ES qs r s → DV qs d e → E (T.cv c) e s H'
  | .bad, _, _ => False
theorem GoodS.step {T : Tx} {ps qs : Pl} {H H1 : Hp} {r : ResS} {D : Ends} {E : WX} (g : GoodS T ps H r D E) (s : Step ps H qs H1) : GoodS T qs H1 r D E := by
  cases r with
  | nx r h => exact fun rs H' v s' => g rs H' v (s.trans s')
  | rt r h => exact fun rs H' v s' => g rs H' v (s.trans s')
  | bk r h => exact fun rs H' v s' => g rs H' v (s.trans s')
  | ct r h => exact fun rs H' v s' => g rs H' v (s.trans s')
  | exc c d r h => exact fun rs H' v e s' => g rs H' v e (s.trans s')
  | bad => exact g
def tS (T : Tx) (E : WX) (f : Ws → Hv → ResS) : TS := fun D s H => ∃ ps r h, ES ps r s ∧ View T ps h H ∧ GoodS T ps H (f r h) D E

/-- the context's wish about exceptions -/
structure Cn (X : Cx) (E : WX) : Prop where
  tk : Takes X E
  po : PassesOwn (model X.prog X.w) X.A X.env X.xe
def SE (T : Tx) (X : Cx) (e : Expr) (f : Ws → Hv → Res W) : Prop := ∀ E, Cn X E → PE X e (tE T E f)
def STt (T : Tx) (X : Cx) (e : Expr) (f : Ws → Hv → Res Bool) : Prop := ∀ E, Cn X E → PT X e (tT T E f)
def SA (T : Tx) (X : Cx) (es : List Expr) (f : Ws → Hv → Res (List W)) : Prop := ∀ E, Cn X E → PA X es (tA T E f)
def SS (T : Tx) (X : Cx) (st : Stmt) (f : Ws → Hv → ResS) : Prop := ∀ E, Cn X E → PS X st (tS T E f)
def SSs (T : Tx) (X : Cx) (st : List Stmt) (f : Ws → Hv → ResS) : Prop := ∀ E, Cn X E → PSs X st (tS T E f)

section
variable {X : Cx} {e : Expr} {es : List Expr} {st : Stmt} {sts : List Stmt}
theorem PEi {t t' : TE} (h : PE X e t) (k : ∀ s H Q, t' s H Q → t s H Q) : PE X e t' := ⟨fun pins s σ H Q I hw => h.run pins s σ H Q I (k _ _ _ hw)⟩
theorem PTi {t t' : TT} (h : PT X e t) (k : ∀ s H Q, t' s H Q → t s H Q) : PT X e t' := ⟨fun pins s σ H Q I hw => h.run pins s σ H Q I (k _ _ _ hw)⟩
theorem PAi {t t' : TA} (h : PA X es t) (k : ∀ s H Q, t' s H Q → t s H Q) : PA X es t' := ⟨fun pos pins s σ H Q I hw => h.run pos pins s σ H Q I (k _ _ _ hw)⟩
theorem PSi {t t' : TS} (h : PS X st t) (k : ∀ D s H, t' D s H → t D s H) : PS X st t' := ⟨fun pins s σ H D I hw => h.run pins s σ H D I (k _ _ _ hw)⟩
theorem PSsi {t t' : TS} (h : PSs X sts t) (k : ∀ D s H, t' D s H → t D s H) : PSs X sts t' := ⟨fun pins s σ H D I hw => h.run pins s σ H D I (k _ _ _ hw)⟩
end
end VL
end
section
namespace VL
open PySem L2

/-! ### names, and what stands for itself -/
def mVar (i : Nat) : Ws → Hv → Res W := fun r h => match r[i]? with
  | some (some w) => .val w h
  | _ => .bad
def mC (w : W) : Ws → Hv → Res W := fun _ h => .val w h
section
variable {T : Tx} {X : Cx}
theorem se_var (i : Nat) {x : Str} {pos : Pos} (hN : X.N[i]? = some x := by rfl) (hv : Vis X.env.scope x := by first | exact Or.inl rfl | exact Or.inr (Or.inl rfl) | exact Or.inr (Or.inr rfl)) (hd : (x == ("__debug__" : Str)) = false := by decide)
    (hcd : (x == ("__classdict__" : Str)) = false := by decide) : SE T X (.Name x pos) (mVar i) := fun E cn => PEi (pe_var hN hv hd hcd) fun s H Q ⟨ps, r, h, es, vw, g⟩ => by
  unfold mVar at g
  split at g
  · rename_i w e
    obtain ⟨v, h1, h2⟩ := es.2 i w e
    exact ⟨v, h1, Good.now g vw h2⟩
  · exact g.elim
theorem se_c {e : Expr} {v : V} {w : W} (hp : PE X e (tC v)) (hw : ∀ ps, WV ps w v) : SE T X e (mC w) := fun E cn => PEi hp fun s H Q ⟨ps, r, h, es, vw, g⟩ => Good.now g vw (hw ps)
theorem se_int {i : Int} {j pos} : SE T X (.Constant (.int i) j pos) (mC (.int i)) := se_c pe_int fun _ => rfl
theorem se_bl {b : Bool} {j pos} : SE T X (.Constant (.bool b) j pos) (mC (.bl b)) := se_c pe_bl fun _ => rfl
theorem se_non {j pos} : SE T X (.Constant .none j pos) (mC .non) := se_c pe_non fun _ => rfl
theorem se_str {x : Str} {j pos} : SE T X (.Constant (.str x) j pos) (mC (.str x)) := se_c pe_str fun _ => rfl
theorem se_fix {x : Str} {a : Addr} {pos : Pos} (hg : Gl X x) (hm : X.mg x = some (.ref a)) (hd : (x == ("__debug__" : Str)) = false := by decide) : SE T X (.Name x pos) (mC (.fix a)) := se_c (pe_glob (v := .ref a) hg hm rfl hd) fun _ => rfl
theorem se_ty {x : Str} {n : String} {pos : Pos} (hg : Gl X x) (hm : X.mg x = none) (hv : bootBuiltins x = some (.type n)) (hn : x ≠ "__name__" := by decide) (hd : (x == ("__debug__" : Str)) = false := by decide) : SE T X (.Name x pos) (mC (.ty n)) :=
  se_c (pe_bltn (v := .ty n) hg hm hv rfl hn hd) fun _ => rfl
end

/-! ### operators -/
abbrev MOp := W → W → Hv → Res W
def RO (T : Tx) (r : R2) (g : MOp) : Prop := ∀ ps h H x y vx vy (Q : VK) (E : XK), View T ps h H → WV ps x vx → WV ps y vy → Good T WV ps H (g x y h) Q E → r vx vy H Q
def m2 (g : MOp) (fa fb : Ws → Hv → Res W) : Ws → Hv → Res W := fun r h => (fa r h).bind fun x h1 => (fb r h1).bind fun y h2 => g x y h2
section
variable {T : Tx} {X : Cx} {a b : Expr} {fa fb : Ws → Hv → Res W} {pos : Pos}
theorem two_of {E : WX} {r : R2} {g : MOp} (ho : RO T r g) {s : St} {H : Hp} {Q : VK} (h : tE T E (m2 g fa fb) s H Q) : tOp r (tE T E fa) (tE T E fb) s H Q := by
  obtain ⟨ps, r', hv, es, vw, gd⟩ := h
  refine ⟨ps, r', hv, es, vw, (Good.bind (R := WV) gd).imp (fun v H1 q => ?_) fun _ _ _ z => z⟩
  obtain ⟨qs, w, h1, st, vw1, wv, g1⟩ := q
  refine ⟨qs, r', h1, es.mono st.pre, vw1, (Good.bind (R := WV) g1).imp (fun u H2 q2 => ?_) fun _ _ _ z => z⟩
  obtain ⟨rs, w2, h2, st2, vw2, wv2, g2⟩ := q2
  exact ho rs h2 H2 w w2 v u Q _ vw2 (wv.mono st2.pre) wv2 g2
theorem se_op {op : Operator} {r : R2} {g : MOp} (ho : OpR X (binaryOp op) r) (hg : RO T r g) (ha : SE T X a fa) (hb : SE T X b fb) : SE T X (.BinOp a op b pos) (m2 g fa fb) := fun E cn =>
  PEi (pe_op ho (ha E cn) (hb E cn)) fun s H Q h => two_of hg h
theorem se_cmp {op : CmpOp} {r : R2} {g : MOp} (ho : OpR X (compareOp op) r) (hg : RO T r g) (ha : SE T X a fa) (hb : SE T X b fb) (hm : behindInMarks op b = false) : SE T X (.Compare a [op] [b] pos) (m2 g fa fb) := fun E cn =>
  PEi (pe_cmpR ho (ha E cn) (hb E cn) hm) fun s H Q h => two_of hg h
theorem RO.or {r r' : R2} {g : MOp} (h : ∀ ps h H x y vx vy (Q : VK) (E : XK), View T ps h H → WV ps x vx → WV ps y vy → Good T WV ps H (g x y h) Q E → r vx vy H Q ∨ r' vx vy H Q) : RO T (fun x y H Q => r x y H Q ∨ r' x y H Q) g := h

/-- two ints -/
def mI (C : Int → Int → Bool) (g : Int → Int → W) : MOp := fun x y h => match x, y with
  | .int i, .int j => if C i j then .val (g i j) h else .bad
  | _, _ => .bad
theorem ro_I {C : Int → Int → Prop} {C' : Int → Int → Bool} {g : Int → Int → W} {gv : Int → Int → V} (hc : ∀ i j, C' i j = true → C i j) (hg : ∀ ps i j, WV ps (g i j) (gv i j)) : RO T (rI C gv) (mI C' g) := by
  intro ps h H x y vx vy Q E vw wx wy gd
  unfold mI at gd
  split at gd
  · rename_i i j
    split at gd
    · rename_i hcc
      cases wx; cases wy
      exact ⟨i, j, rfl, rfl, hc i j hcc, Good.now gd vw (hg ps i j)⟩
    · exact gd.elim
  · exact gd.elim
def mI0 (g : Int → Int → W) : MOp := fun x y h => match x, y with
  | .int i, .int j => .val (g i j) h
  | _, _ => .bad
theorem ro_I0 {g : Int → Int → W} {gv : Int → Int → V} (hg : ∀ ps i j, WV ps (g i j) (gv i j)) : RO T (rI0 gv) (mI0 g) := by
  intro ps h H x y vx vy Q E vw wx wy gd
  unfold mI0 at gd
  split at gd
  · rename_i i j
    cases wx; cases wy
    exact ⟨i, j, rfl, rfl, Good.now gd vw (hg ps i j)⟩
  · exact gd.elim

/-! ### objects -/
theorem notX {H : Hp} {a : Addr} {xs : List V} (e : H a = some (.lst xs)) : ∀ u0, H a = some u0 → (∀ f, u0 ≠ .ext f) ∧ ∀ o x, u0 ≠ .frz o x := fun u0 h => by
  rw [e] at h
  cases h
  exact ⟨(fun f z => by cases z), fun o x z => by cases z⟩
def mNew (o : O) (h : Hv) : Res W := .val (.ref h.length) (h ++ [o])
theorem good_new {ps : Pl} {h : Hv} {H : Hp} {o : O} {u : HO} {Q : VK} {E : XK} (vw : View T ps h H) (g : Good T WV ps H (mNew o h) Q E) (ho : ∀ H' p, H' p = some u → OAt T ps H' p o) {p : Addr} (hp : H p = none) : Q (.ref p) (upd H p u) := by
  obtain ⟨v1, s1, e1⟩ := vw.alloc hp (ho _ p upd_same)
  exact g _ _ _ s1 v1 ⟨p, e1, rfl⟩
theorem good_tup {ps : Pl} {h : Hv} {H : Hp} {ws : List W} {vs : List V} {Q : VK} {E : XK} (vw : View T ps h H) (g : Good T WV ps H (.val (.tup ws) h) Q E) (wv : Paired (WV ps) ws vs) {p : Addr} (hp : H p = none) : Q (.ref p) (upd H p (.tup vs)) := by
  obtain ⟨v1, s1⟩ := vw.tuple hp vs
  exact g _ _ _ s1 v1 (WV.tup_mk (.inr ⟨rfl, rfl⟩) (WVs.mono s1.pre wv))
theorem paired_app {ps : Pl} {xs ys : List W} {vs us : List V} (a : Paired (WV ps) xs vs) (b : Paired (WV ps) ys us) : Paired (WV ps) (xs ++ ys) (vs ++ us) := by
  induction a with
  | nil => exact b
  | cons h t ih => exact .cons h ih
theorem paired_get {ps : Pl} {xs : List W} {vs : List V} (a : Paired (WV ps) xs vs) : ∀ {i : Nat} {w : W}, xs[i]? = some w → ∃ v, vs[i]? = some v ∧ WV ps w v := by
  induction a with
  | nil => intro i w e; simp at e
  | cons h t ih =>
    intro i w e
    cases i with
    | zero => simp at e; subst e; exact ⟨_, rfl, h⟩
    | succ i => exact ih (by simpa using e)
theorem paired_at {ps : Pl} {xs : List W} {vs : List V} (a : Paired (WV ps) xs vs) {i : Int} {w : W} (e : atI xs i = some w) : ∃ v, atI vs i = some v ∧ WV ps w v := by
  unfold atI at e ⊢
  rw [← a.length]
  cases h : ixN xs.length i with
  | none => rw [h] at e; cases e
  | some j =>
    rw [h] at e
    exact paired_get a e
theorem paired_set {ps : Pl} {xs : List W} {vs : List V} (a : Paired (WV ps) xs vs) {w : W} {v : V} (h : WV ps w v) : ∀ i, Paired (WV ps) (xs.set i w) (vs.set i v) := by
  induction a with
  | nil => intro i; exact .nil
  | cons h1 t ih =>
    intro i
    cases i with
    | zero => exact .cons h t
    | succ i => exact .cons h1 (ih i)
theorem paired_take {ps : Pl} {xs : List W} {vs : List V} (a : Paired (WV ps) xs vs) : ∀ n, Paired (WV ps) (xs.take n) (vs.take n) := by
  induction a with
  | nil => intro n; simp; exact .nil
  | cons h1 t ih =>
    intro n
    cases n with
    | zero => exact .nil
    | succ n => exact .cons h1 (ih n)
theorem paired_drop {ps : Pl} {xs : List W} {vs : List V} (a : Paired (WV ps) xs vs) : ∀ n, Paired (WV ps) (xs.drop n) (vs.drop n) := by
  induction a with
  | nil => intro n; simp; exact .nil
  | cons h1 t ih =>
    intro n
    cases n with
    | zero => exact .cons h1 t
    | succ n => exact ih n
theorem paired_rep {ps : Pl} {xs : List W} {vs : List V} (a : Paired (WV ps) xs vs) : ∀ n, Paired (WV ps) (List.replicate n xs).flatten (List.replicate n vs).flatten
  | 0 => .nil
  | n + 1 => by
    simp only [List.replicate_succ, List.flatten_cons]
    exact paired_app a (paired_rep a n)
end

/-! ### argument lists, displays -/
def mNil : Ws → Hv → Res (List W) := fun _ h => .val [] h
def mCons (f : Ws → Hv → Res W) (g : Ws → Hv → Res (List W)) : Ws → Hv → Res (List W) := fun r h => (f r h).bind fun w h1 => (g r h1).bind fun ws h2 => .val (w :: ws) h2
abbrev WVs : Pl → List W → List V → Prop := fun qs => Paired (WV qs)
section
variable {T : Tx} {X : Cx} {e : Expr} {es : List Expr} {f : Ws → Hv → Res W} {g : Ws → Hv → Res (List W)} {pos : Pos}
theorem sa_nil : SA T X [] mNil := fun E cn => PAi pa_nil fun s H Q ⟨ps, r, h, es, vw, g⟩ => Good.now (R := WVs) g vw .nil
theorem sa_cons (h1 : SE T X e f) (h2 : SA T X es g) (hs : starEach (e :: es) X.env = (false, eval e X.env) :: starEach es X.env := by rfl) : SA T X (e :: es) (mCons f g) := fun E cn =>
  PAi (pa_cons (h1 E cn) (h2 E cn) hs) fun s H Q ⟨ps, r, h, es, vw, gd⟩ => by
    refine ⟨ps, r, h, es, vw, (Good.bind (R := WV) (S := WVs) gd).imp (fun v H1 q => ?_) fun _ _ _ z => z⟩
    obtain ⟨qs, w, h1, st, vw1, wv, g1⟩ := q
    refine ⟨qs, r, h1, es.mono st.pre, vw1, (Good.bind (R := WVs) (S := WVs) g1).imp (fun u H2 q2 => ?_) fun _ _ _ z => z⟩
    obtain ⟨rs, w2, h2, st2, vw2, wv2, g2⟩ := q2
    exact Good.now (R := WVs) g2 vw2 (.cons (wv.mono st2.pre) wv2)
def mTup (g : Ws → Hv → Res (List W)) : Ws → Hv → Res W := fun r h => (g r h).bind fun ws h1 => if ws.length ≤ 100000 then .val (.tup ws) h1 else .bad
def mLst (g : Ws → Hv → Res (List W)) : Ws → Hv → Res W := fun r h => (g r h).bind fun ws h1 => if ws.length ≤ 100000 then mNew (.lst ws) h1 else .bad
theorem sz_ok {n : Nat} (h : n ≤ 100000) : n ≤ sizeLine := Nat.le_trans h (by decide)
theorem se_tup {x1} (ha : SA T X es g) : SE T X (.Tuple es x1 pos) (mTup g) := fun E cn => PEi (pe_tup (ha E cn)) fun s H Q ⟨ps, r, h, es, vw, gd⟩ => by
  refine ⟨ps, r, h, es, vw, (Good.bind (R := WVs) (S := WV) gd).imp (fun v H1 q => ?_) fun _ _ _ z => z⟩
  obtain ⟨qs, w, h1, st, vw1, wv, g1⟩ := q
  have wl : w.length = v.length := wv.length
  dsimp only at g1
  split at g1
  · rename_i hl
    exact ⟨sz_ok (wl ▸ hl), fun p hp => good_tup vw1 g1 wv hp⟩
  · exact g1.elim
theorem se_lst (ha : SA T X es g) : SE T X (.List es pos) (mLst g) := fun E cn => PEi (pe_lst (ha E cn)) fun s H Q ⟨ps, r, h, es, vw, gd⟩ => by
  refine ⟨ps, r, h, es, vw, (Good.bind (R := WVs) (S := WV) gd).imp (fun v H1 q => ?_) fun _ _ _ z => z⟩
  obtain ⟨qs, w, h1, st, vw1, wv, g1⟩ := q
  have wl : w.length = v.length := wv.length
  dsimp only at g1
  split at g1
  · rename_i hl
    exact ⟨sz_ok (wl ▸ hl), fun p hp => good_new vw1 g1 (fun H' p' e => ⟨v, wv, e⟩) hp⟩
  · exact g1.elim
end

/-! ### tests, and, or, not -/
def asB (w : W) (h : Hv) : Res Bool := match w with
  | .bl b => .val b h
  | _ => .bad
def mT (f : Ws → Hv → Res W) : Ws → Hv → Res Bool := fun r h => (f r h).bind asB
section
variable {T : Tx} {X : Cx} {e a b c : Expr} {f fa fb : Ws → Hv → Res W} {t u : Ws → Hv → Res Bool} {rest : List Expr} {pos : Pos}
theorem asB_of {ps : Pl} {H : Hp} {w : W} {h : Hv} {v : V} {Q : Bool → Hp → Prop} {E : XK} (vw : View T ps h H) (wv : WV ps w v) (g : Good T BEq2 ps H (asB w h) Q E) : ∃ k, v = .bl k ∧ Q k H := by
  unfold asB at g
  split at g
  · rename_i k
    exact ⟨k, wv, Good.now (R := BEq2) g vw rfl⟩
  · exact g.elim
theorem test_of {E : WX} {s : St} {H : Hp} {Q : Bool → Hp → Prop} (h : tT T E (mT f) s H Q) : tE T E f s H fun x H1 => ∃ k, x = .bl k ∧ Q k H1 := by
  obtain ⟨ps, r, hv, es, vw, gd⟩ := h
  refine ⟨ps, r, hv, es, vw, (Good.bind (R := WV) (S := BEq2) gd).imp (fun v H1 q => ?_) fun _ _ _ z => z⟩
  obtain ⟨qs, w, h1, st, vw1, wv, g1⟩ := q
  exact asB_of vw1 wv g1
/-- a plain expression -/
theorem st_val (h : SE T X e f) (he : ∀ whole, isTrue e X.env whole = (do let v ← whole; standAt e.pos; holding [v] (truthy v)) := by intro _; rfl) : STt T X e (mT f) := fun E cn => PTi (pt_val (h E cn) he) fun s H Q h => test_of h
theorem st_cmp {op : CmpOp} {r : R2} {g : MOp} (ho : OpR X (compareOp op) r) (hg : RO T r g) (ha : SE T X a fa) (hb : SE T X b fb) (hm : behindInMarks op b = false) : STt T X (.Compare a [op] [b] pos) (mT (m2 g fa fb)) := fun E cn =>
  PTi (pt_cmpR ho (ha E cn) (hb E cn) hm) fun s H Q ⟨ps, r', h, es, vw, gd⟩ => by
    have z : tE T E (m2 g fa fb) s H fun x H' => ∃ k, x = .bl k ∧ Q k H' := test_of ⟨ps, r', h, es, vw, gd⟩
    exact two_of hg z
def mNotT (t : Ws → Hv → Res Bool) : Ws → Hv → Res Bool := fun r h => (t r h).bind fun b h1 => .val (!b) h1
def mAndT (t u : Ws → Hv → Res Bool) : Ws → Hv → Res Bool := fun r h => (t r h).bind fun b h1 => if b then u r h1 else .val false h1
def mOrT (t u : Ws → Hv → Res Bool) : Ws → Hv → Res Bool := fun r h => (t r h).bind fun b h1 => if b then .val true h1 else u r h1
theorem st_not (ha : STt T X a t) : STt T X (.UnaryOp .Not a pos) (mNotT t) := fun E cn => PTi (pt_not (ha E cn)) fun s H Q ⟨ps, r, h, es, vw, gd⟩ => by
  refine ⟨ps, r, h, es, vw, (Good.bind (R := BEq2) (S := BEq2) gd).imp (fun v H1 q => ?_) fun _ _ _ z => z⟩
  obtain ⟨qs, w, h1, st, vw1, wv, g1⟩ := q
  cases wv
  exact Good.now (R := BEq2) g1 vw1 rfl
/-- a chain of and, or -/
def SW (T : Tx) (X : Cx) (e : Expr) (f : Ws → Hv → Res Bool) : Prop := ∀ E, Cn X E → PW X e (tT T E f)
theorem PWi {t t' : TT} (h : PW X e t) (k : ∀ s H Q, t' s H Q → t s H Q) : PW X e t' := ⟨fun wh pins s σ H Q I hw => h.run wh pins s σ H Q I (k _ _ _ hw)⟩
theorem sw_and1 (ha : STt T X a t) : SW T X (.BoolOp .And [a] pos) t := fun E cn => pw_and1 (ha E cn)
theorem sw_or1 (ha : STt T X a t) : SW T X (.BoolOp .Or [a] pos) t := fun E cn => pw_or1 (ha E cn)
theorem sw_and (ha : STt T X a t) (hb : SW T X (.BoolOp .And (b :: rest) pos) u) : SW T X (.BoolOp .And (a :: b :: rest) pos) (mAndT t u) := fun E cn => PWi (pw_and (ha E cn) (hb E cn)) fun s H Q ⟨ps, r, h, es, vw, gd⟩ => by
  refine ⟨ps, r, h, es, vw, (Good.bind (R := BEq2) (S := BEq2) gd).imp (fun v H1 q => ?_) fun _ _ _ z => z⟩
  obtain ⟨qs, w, h1, st, vw1, wv, g1⟩ := q
  cases wv
  cases v with
  | true => exact iteT ⟨qs, r, h1, es.mono st.pre, vw1, g1⟩
  | false => exact iteF (Good.now (R := BEq2) g1 vw1 rfl)
theorem sw_or (ha : STt T X a t) (hb : SW T X (.BoolOp .Or (b :: rest) pos) u) : SW T X (.BoolOp .Or (a :: b :: rest) pos) (mOrT t u) := fun E cn => PWi (pw_or (ha E cn) (hb E cn)) fun s H Q ⟨ps, r, h, es, vw, gd⟩ => by
  refine ⟨ps, r, h, es, vw, (Good.bind (R := BEq2) (S := BEq2) gd).imp (fun v H1 q => ?_) fun _ _ _ z => z⟩
  obtain ⟨qs, w, h1, st, vw1, wv, g1⟩ := q
  cases wv
  cases v with
  | true => exact iteT (Good.now (R := BEq2) g1 vw1 rfl)
  | false => exact iteF ⟨qs, r, h1, es.mono st.pre, vw1, g1⟩
theorem st_w (h : SW T X e t) : STt T X e t := fun E cn => (h E cn).pt
/-- .. as values -/
def mNotV (f : Ws → Hv → Res W) : Ws → Hv → Res W := fun r h => (mT f r h).bind fun b h1 => .val (.bl (!b)) h1
def mAndV (f g : Ws → Hv → Res W) : Ws → Hv → Res W := fun r h => (mT f r h).bind fun b h1 => if b then g r h1 else .val (.bl false) h1
def mOrV (f g : Ws → Hv → Res W) : Ws → Hv → Res W := fun r h => (mT f r h).bind fun b h1 => if b then .val (.bl true) h1 else g r h1
theorem se_one {op} (h : SE T X a f) : SE T X (.BoolOp op [a] pos) f := fun E cn => pe_one (h E cn)
theorem val_of {E : WX} {s : St} {H : Hp} {Q : VK} {k : Bool → Ws → Hv → Res W} {P : Bool → Hp → Prop} (h : tE T E (fun r h => (mT f r h).bind fun b h1 => k b r h1) s H Q) (hk : ∀ b H1, tE T E (k b) s H1 Q → P b H1) :
    tE T E f s H fun x H1 => ∃ c, x = .bl c ∧ P c H1 := by
  obtain ⟨ps, r, hv, es, vw, gd⟩ := h
  have z := (Good.bind (R := BEq2) (S := WV) gd)
  refine test_of ⟨ps, r, hv, es, vw, z.imp (fun v H1 q => ?_) fun _ _ _ z => z⟩
  obtain ⟨qs, w, h1, st, vw1, wv, g1⟩ := q
  cases wv
  exact hk v H1 ⟨qs, r, h1, es.mono st.pre, vw1, g1⟩
theorem tE_val {E : WX} {s : St} {H : Hp} {Q : VK} {w : W} {v : V} (h : tE T E (fun _ h => .val w h) s H Q) (hw : ∀ ps, WV ps w v) : Q v H := by
  obtain ⟨ps, r, hv, es, vw, gd⟩ := h
  exact Good.now (R := WV) gd vw (hw ps)
theorem se_not (ha : SE T X a f) : SE T X (.UnaryOp .Not a pos) (mNotV f) := fun E cn => PEi (pe_not (ha E cn)) fun s H Q h =>
  val_of (k := fun b _ h1 => .val (.bl (!b)) h1) h fun b H1 q => tE_val q fun _ => rfl
theorem se_and (ha : SE T X a fa) (hb : SE T X (.BoolOp .And (b :: rest) pos) fb) : SE T X (.BoolOp .And (a :: b :: rest) pos) (mAndV fa fb) := fun E cn => PEi (pe_and (ha E cn) (hb E cn)) fun s H Q h =>
  val_of (k := fun b r h1 => if b then fb r h1 else .val (.bl false) h1) h fun b H1 q => by
    cases b with
    | true => exact iteT q
    | false => exact iteF (tE_val (w := .bl false) q fun _ => rfl)
theorem se_or (ha : SE T X a fa) (hb : SE T X (.BoolOp .Or (b :: rest) pos) fb) : SE T X (.BoolOp .Or (a :: b :: rest) pos) (mOrV fa fb) := fun E cn => PEi (pe_or (ha E cn) (hb E cn)) fun s H Q h =>
  val_of (k := fun b r h1 => if b then .val (.bl true) h1 else fb r h1) h fun b H1 q => by
    cases b with
    | true => exact iteT (tE_val (w := .bl true) q fun _ => rfl)
    | false => exact iteF q
def mIf (t : Ws → Hv → Res Bool) (f g : Ws → Hv → Res W) : Ws → Hv → Res W := fun r h => (t r h).bind fun b h1 => if b then f r h1 else g r h1
theorem se_if (hc : STt T X c t) (ha : SE T X a fa) (hb : SE T X b fb) : SE T X (.IfExp c a b pos) (mIf t fa fb) := fun E cn => PEi (pe_ifExp (hc E cn) (ha E cn) (hb E cn)) fun s H Q ⟨ps, r, h, es, vw, gd⟩ => by
  refine ⟨ps, r, h, es, vw, (Good.bind (R := BEq2) (S := WV) gd).imp (fun v H1 q => ?_) fun _ _ _ z => z⟩
  obtain ⟨qs, w, h1, st, vw1, wv, g1⟩ := q
  cases wv
  cases v with
  | true => exact iteT ⟨qs, r, h1, es.mono st.pre, vw1, g1⟩
  | false => exact iteF ⟨qs, r, h1, es.mono st.pre, vw1, g1⟩
end
end VL
end
section
namespace VL
open PySem L2

/-! ### values as data -/
def optAll (f : W → Option PyData) : List W → Option (List PyData)
  | [] => some []
  | x :: xs => match f x, optAll f xs with
    | some y, some ys => some (y :: ys)
    | _, _ => none
def toD : Nat → Hv → W → Option PyData
  | 0, _, _ => none
  | n + 1, h, w => match w with
    | .non => some .none
    | .bl b => some (.bool b)
    | .int i => some (.int i)
    | .str x => some (.str x)
    | .ref i => match h[i]? with
      | some (.lst xs) => (optAll (toD n h) xs).map .list
      | some (.rol xs) => (optAll (toD n h) xs).map .list
      | _ => none
    | .tup xs => (optAll (toD n h) xs).map .tuple
    | _ => none
section
variable {T : Tx} {K : PySem.W.Frag} {ps : Pl} {h : Hv} {H : Hp}
theorem optAll_ok {f : W → Option PyData} (hf : ∀ w v d, f w = some d → WV ps w v → Dp K H v d) : ∀ {xs : List W} {vs : List V} {ds : List PyData}, optAll f xs = some ds → Paired (WV ps) xs vs → DpAll K H vs ds
  | [], _, _, e, .nil => by cases e; exact .nil
  | x :: xs, _, ds, e, .cons r t => by
    simp only [optAll] at e
    split at e
    · rename_i d ds' e1 e2
      cases e
      exact .cons (hf _ _ _ e1 r) (optAll_ok hf e2 t)
    · cases e
theorem toD_ok (vw : View T ps h H) : ∀ (n : Nat) (w : W) (v : V) (d : PyData), toD n h w = some d → WV ps w v → Dp T.K H v d
  | 0, _, _, _, e, _ => by cases e
  | n + 1, w, v, d, e, wv => by
    unfold toD at e
    split at e
    · cases e; cases wv; exact .non
    · cases e; cases wv; exact .bl _
    · cases e; cases wv; exact .int _
    · cases e; cases wv; exact .str _
    · rename_i i
      obtain ⟨a, ea, rfl⟩ := wv
      split at e
      · rename_i xs eh
        obtain ⟨vs, r, eH⟩ := vw.ob i a _ ea eh
        cases q : optAll (toD n h) xs with
        | none => simp [q] at e
        | some ds =>
          rw [q] at e; cases e
          exact .lst (SqL.of eH) (optAll_ok (toD_ok vw n) q r)
      · rename_i xs eh
        obtain ⟨vs, ob, r, eH⟩ := vw.ob i a _ ea eh
        cases q : optAll (toD n h) xs with
        | none => simp [q] at e
        | some ds =>
          rw [q] at e; cases e
          exact .lst (.inl (.inr ⟨ob, eH⟩)) (optAll_ok (toD_ok vw n) q r)
      · cases e
    · rename_i xs
      obtain ⟨a, vs, rfl, ht, r⟩ := wv.tup_of
      have eH := vw.tup a vs ht
      cases q : optAll (toD n h) xs with
      | none => simp [q] at e
      | some ds =>
        rw [q] at e; cases e
        exact .tup eH.sq (optAll_ok (toD_ok vw n) q r)
    · cases e
end
abbrev dF : Nat := 12
def mEq (neg : Bool) : MOp := fun x y h => match toD dF h x, toD dF h y with
  | some d, some e => if SeqAt.shaped d && SeqAt.shaped e then .val (.bl (if neg then !PyData.eqv d e else PyData.eqv d e)) h else .bad
  | _, _ => .bad
section
variable {T : Tx} {X : Cx}
theorem ro_eq {K : PySem.W.Frag} (hK : T.K = K := by rfl) : RO T (rEqD K) (mEq false) := by
  subst hK
  intro ps h H x y vx vy Q E vw wx wy gd
  unfold mEq at gd
  split at gd
  · rename_i d e e1 e2
    split at gd
    · rename_i hs
      rw [Bool.and_eq_true] at hs
      exact ⟨d, e, toD_ok vw _ _ _ _ e1 wx, toD_ok vw _ _ _ _ e2 wy, hs.1, hs.2, Good.now gd vw rfl⟩
    · exact gd.elim
  · exact gd.elim
theorem ro_ne {K : PySem.W.Frag} (hK : T.K = K := by rfl) : RO T (rNeD K) (mEq true) := by
  subst hK
  intro ps h H x y vx vy Q E vw wx wy gd
  unfold mEq at gd
  split at gd
  · rename_i d e e1 e2
    split at gd
    · rename_i hs
      rw [Bool.and_eq_true] at hs
      exact ⟨d, e, toD_ok vw _ _ _ _ e1 wx, toD_ok vw _ _ _ _ e2 wy, hs.1, hs.2, Good.now gd vw rfl⟩
    · exact gd.elim
  · exact gd.elim

/-! ### arithmetic -/
def mAdd : MOp := fun x y h => match x, y with
  | .int i, .int j => .val (.int (i + j)) h
  | .str a, .str b => if a.length + b.length ≤ 100000 then .val (.str (a ++ b)) h else .bad
  | .ref p, .ref q => match h[p]?, h[q]? with
    | some (.lst xs), some (.lst ys) => if xs.length + ys.length ≤ 100000 then mNew (.lst (xs ++ ys)) h else .bad
    | _, _ => .bad
  | _, _ => .bad
theorem op_addA : OpR X (binaryOp .Add) (fun x y H Q => (rI0 fun i j => .int (i + j)) x y H Q ∨ ((fun x y H Q => ∃ i j, x = V.str i ∧ y = V.str j ∧ i.length + j.length ≤ sizeLine ∧ Q (.str (i ++ j)) H) x y H Q ∨ rCat x y H Q)) := op_add.or (op_add_str.or op_cat)
theorem ro_add : RO T (fun x y H Q => (rI0 fun i j => .int (i + j)) x y H Q ∨ ((fun x y H Q => ∃ i j, x = V.str i ∧ y = V.str j ∧ i.length + j.length ≤ sizeLine ∧ Q (.str (i ++ j)) H) x y H Q ∨ rCat x y H Q)) mAdd := by
  intro ps h H x y vx vy Q E vw wx wy gd
  unfold mAdd at gd
  split at gd
  · cases wx; cases wy
    exact .inl ⟨_, _, rfl, rfl, Good.now gd vw rfl⟩
  · split at gd
    · rename_i hl
      cases wx; cases wy
      exact .inr (.inl ⟨_, _, rfl, rfl, sz_ok hl, Good.now gd vw rfl⟩)
    · exact gd.elim
  · obtain ⟨a, ea, rfl⟩ := wx
    obtain ⟨b, eb, rfl⟩ := wy
    split at gd
    · rename_i xs ys e1 e2
      split at gd
      · rename_i hl
        obtain ⟨vs, r, eH⟩ := vw.ob _ a _ ea e1
        obtain ⟨us, r2, eH2⟩ := vw.ob _ b _ eb e2
        have l1 := r.length
        have l2 := r2.length
        exact .inr (.inr ⟨a, b, vs, us, rfl, rfl, eH, eH2, sz_ok (by omega), fun p hp => good_new vw gd (fun H' p' e => ⟨_, paired_app r r2, e⟩) hp⟩)
      · exact gd.elim
    · exact gd.elim
  · exact gd.elim
def mSub : MOp := mI0 fun i j => .int (i - j)
theorem ro_sub : RO T (rI0 fun i j => .int (i - j)) mSub := ro_I0 fun _ _ _ => rfl
def mulB (i j : Int) : Bool := decide (i.natAbs.log2 + j.natAbs.log2 < 1000000)
def mMul : MOp := fun x y h => match x, y with
  | .int i, .int j => if mulB i j then .val (.int (i * j)) h else .bad
  | .ref p, .int k => match h[p]? with
    | some (.lst xs) => if decide (-9223372036854775808 ≤ k) && decide (k < 9223372036854775808) && decide (xs.length * k.toNat ≤ 100000) then mNew (.lst (List.replicate k.toNat xs).flatten) h else .bad
    | _ => .bad
  | _, _ => .bad
theorem op_mulA : OpR X (binaryOp .Mult) (fun x y H Q => (rI CMulW fun i j => .int (i * j)) x y H Q ∨ rRep x y H Q) := op_mulW.or op_rep
theorem ro_mul : RO T (fun x y H Q => (rI CMulW fun i j => .int (i * j)) x y H Q ∨ rRep x y H Q) mMul := by
  intro ps h H x y vx vy Q E vw wx wy gd
  unfold mMul at gd
  split at gd
  · split at gd
    · rename_i hc
      cases wx; cases wy
      exact .inl ⟨_, _, rfl, rfl, (show _ < 1000000 by unfold mulB at hc; exact of_decide_eq_true hc), Good.now gd vw rfl⟩
    · exact gd.elim
  · obtain ⟨a, ea, rfl⟩ := wx
    cases wy
    split at gd
    · rename_i k xs e1
      split at gd
      · rename_i hl
        simp only [Bool.and_eq_true, decide_eq_true_eq] at hl
        obtain ⟨vs, r, eH⟩ := vw.ob _ a _ ea e1
        have l1 := r.length
        have e63 : (2 : Int) ^ 63 = 9223372036854775808 := by decide
        exact .inr ⟨a, _, vs, rfl, rfl, eH, by rw [e63]; exact hl.1.1, by rw [e63]; exact hl.1.2, sz_ok (by rw [← l1]; exact hl.2), fun p hp => good_new vw gd (fun H' p' e => ⟨_, paired_rep r _, e⟩) hp⟩
      · exact gd.elim
    · exact gd.elim
  · exact gd.elim
def divB (_ j : Int) : Bool := decide (j ≠ 0) && decide (j.natAbs.log2 < 9000)
theorem op_fdivG : OpR X (binaryOp .FloorDiv) (rI (fun _ j => j ≠ 0 ∧ j.natAbs.log2 < 9000) fun i j => .int (i.fdiv j)) := opI fun i j _ _ _ _ _ hc q => PyProof.Rows.floordiv_int hc.1 q (.inl (PyProof.noPylong_of_log2 hc.2))
def mDiv : MOp := mI divB fun i j => .int (i.fdiv j)
theorem ro_div : RO T (rI (fun _ j => j ≠ 0 ∧ j.natAbs.log2 < 9000) fun i j => .int (i.fdiv j)) mDiv := ro_I (fun i j hc => by
  unfold divB at hc
  rw [Bool.and_eq_true] at hc
  exact ⟨of_decide_eq_true hc.1, of_decide_eq_true hc.2⟩) fun _ _ _ => rfl
def mMod : MOp := mI (fun _ j => decide (j ≠ 0)) fun i j => .int (i.fmod j)
theorem ro_mod : RO T (rI (fun _ j => j ≠ 0) fun i j => .int (i.fmod j)) mMod := ro_I (fun i j hc => of_decide_eq_true hc) fun _ _ _ => rfl
def powB (i j : Int) : Bool := decide (0 ≤ j) && (decide (j ≤ 1000000) && decide (i.natAbs < 2 ^ 64))
def mPow : MOp := mI powB fun i j => .int (i ^ j.toNat)
theorem ro_pow : RO T (rI CPow fun i j => .int (i ^ j.toNat)) mPow := ro_I (fun i j hc => by
  simp only [powB, Bool.and_eq_true, decide_eq_true_eq] at hc
  exact ⟨hc.1, hc.2.1, hc.2.2⟩) fun _ _ _ => rfl
def mLt : MOp := mI0 fun i j => .bl (decide (i < j))
def mLe : MOp := mI0 fun i j => .bl (decide (i ≤ j))
def mGt : MOp := mI0 fun i j => .bl (decide (j < i))
def mGe : MOp := mI0 fun i j => .bl (decide (j ≤ i))
theorem ro_lt : RO T (rI0 fun i j => .bl (decide (i < j))) mLt := ro_I0 fun _ _ _ => rfl
theorem ro_le : RO T (rI0 fun i j => .bl (decide (i ≤ j))) mLe := ro_I0 fun _ _ _ => rfl
theorem ro_gt : RO T (rI0 fun i j => .bl (decide (j < i))) mGt := ro_I0 fun _ _ _ => rfl
theorem ro_ge : RO T (rI0 fun i j => .bl (decide (j ≤ i))) mGe := ro_I0 fun _ _ _ => rfl
/-! ### is, is not: None and bools -/
def mIs (neg : Bool) : MOp := fun x y h => match x, y with
  | .bl a, .bl b => .val (.bl (if neg then !decide (a = b) else decide (a = b))) h
  | x, .non => .val (.bl (if neg then !decide (x = .non) else decide (x = .non))) h
  | _, _ => .bad
theorem wv_non {ps : Pl} {w : W} {v : V} (h : WV ps w v) : decide (v = .non) = decide (w = .non) := by
  cases w with
  | ref i => obtain ⟨a, _, rfl⟩ := h; simp
  | non => cases h; simp
  | bl b => cases h; simp
  | int b => cases h; simp
  | str b => cases h; simp
  | fix b => cases h; simp
  | ty b => cases h; simp
  | tup xs => obtain ⟨a, vs, rfl, _⟩ := h; simp
def rIs (neg : Bool) : R2 := fun x y H Q => (∃ a b : Bool, x = .bl a ∧ y = .bl b ∧ Q (.bl (if neg then !decide (a = b) else decide (a = b))) H) ∨ (y = .non ∧ Q (.bl (if neg then !decide (x = .non) else decide (x = .non))) H)
theorem op_isA : OpR X (compareOp .Is) (rIs false) := op_isBl.or op_isN
theorem op_isnotA : OpR X (compareOp .IsNot) (rIs true) := op_notBl.or op_notN
theorem ro_is {neg : Bool} : RO T (rIs neg) (mIs neg) := by
  intro ps h H x y vx vy Q E vw wx wy gd
  unfold mIs at gd
  split at gd
  · cases wx; cases wy
    exact .inl ⟨_, _, rfl, rfl, Good.now gd vw rfl⟩
  · cases wy
    refine .inr ⟨rfl, ?_⟩
    rw [wv_non wx]
    exact Good.now gd vw rfl
  · exact gd.elim
/-! ### the sign -/
def m1 (g : W → Hv → Res W) (f : Ws → Hv → Res W) : Ws → Hv → Res W := fun r h => (f r h).bind g
def mNeg : W → Hv → Res W := fun x h => match x with
  | .int i => .val (.int (-i)) h
  | _ => .bad
theorem se_neg {a : Expr} {f : Ws → Hv → Res W} {pos : Pos} (ha : SE T X a f) : SE T X (.UnaryOp .USub a pos) (m1 mNeg f) := fun E cn => PEi (pe_un un_neg (ha E cn)) fun s H Q ⟨ps, r, h, es, vw, gd⟩ => by
  refine ⟨ps, r, h, es, vw, (Good.bind (R := WV) (S := WV) gd).imp (fun v H1 q => ?_) fun _ _ _ z => z⟩
  obtain ⟨qs, w, h1, st, vw1, wv, g1⟩ := q
  unfold mNeg at g1
  split at g1
  · cases wv
    exact ⟨_, rfl, Good.now g1 vw1 rfl⟩
  · exact g1.elim
/-! ### items -/
def ofO {α : Type} (o : Option α) (h : Hv) : Res α := match o with
  | some w => .val w h
  | none => .bad
def mIx : MOp := fun x y h => match x, y with
  | .ref p, .int i => match h[p]? with
    | some (.lst xs) => ofO (atI xs i) h
    | some (.rol xs) => ofO (atI xs i) h
    | _ => .bad
  | .tup xs, .int i => ofO (atI xs i) h
  | .str z, .int i => if z.length ≤ 100000 then ofO ((atI z.cps.toList i).map fun c => .str ⟨#[c]⟩) h else .bad
  | _, _ => .bad
theorem ofO_of {ps : Pl} {h : Hv} {H : Hp} {o : Option W} {Q : VK} {E : XK} (g : Good T WV ps H (ofO o h) Q E) : ∃ w, o = some w ∧ Good T WV ps H (.val w h) Q E := by
  cases o with
  | none => exact g.elim
  | some w => exact ⟨w, rfl, g⟩
theorem ro_ix {K : PySem.W.Frag} (hK : T.K = K := by rfl) : RO T (rIx K) mIx := by
  subst hK
  intro ps h H x y vx vy Q E vw wx wy gd
  unfold mIx at gd
  split at gd
  · obtain ⟨a, ea, rfl⟩ := wx
    cases wy
    split at gd
    · rename_i xs e1
      obtain ⟨w, ew, g⟩ := ofO_of gd
      obtain ⟨vs, r, eH⟩ := vw.ob _ a _ ea e1
      obtain ⟨v, ev, wv⟩ := paired_at r ew
      exact .inl ⟨a, vs, _, v, rfl, rfl, SqL.of eH, ev, Good.now g vw wv⟩
    · rename_i xs e1
      obtain ⟨w, ew, g⟩ := ofO_of gd
      obtain ⟨vs, ob, r, eH⟩ := vw.ob _ a _ ea e1
      obtain ⟨v, ev, wv⟩ := paired_at r ew
      exact .inl ⟨a, vs, _, v, rfl, rfl, .inl (.inr ⟨ob, eH⟩), ev, Good.now g vw wv⟩
    · exact gd.elim
  · cases wy
    obtain ⟨a, vs, rfl, ht, r⟩ := wx.tup_of
    have eH := vw.tup a vs ht
    obtain ⟨w, ew, g⟩ := ofO_of gd
    obtain ⟨v, ev, wv⟩ := paired_at r ew
    exact .inr (.inl ⟨a, vs, _, v, rfl, rfl, eH.sq, ev, Good.now g vw wv⟩)
  · cases wx; cases wy
    split at gd
    · rename_i z i hl
      obtain ⟨w, ew, g⟩ := ofO_of gd
      cases q : atI z.cps.toList i with
      | none => rw [q] at ew; cases ew
      | some c =>
        rw [q] at ew; cases ew
        exact .inr (.inr ⟨z, i, c, rfl, rfl, sz_ok hl, q, Good.now g vw rfl⟩)
    · exact gd.elim
  · exact gd.elim
theorem se_ix {a b : Expr} {fa fb : Ws → Hv → Res W} {pos : Pos} (ha : SE T X a fa) (hb : SE T X b fb) (hs : PlainIx b := by exact fun _ _ => rfl) (hK : T.K = X.K := by rfl) : SE T X (.Subscript a b pos) (m2 mIx fa fb) := fun E cn => PEi (pe_ix ix_seq (ha E cn) (hb E cn) hs) fun s H Q h => two_of (ro_ix hK) h
end
end VL
end
section
namespace VL
open PySem L2

/-! ### calls -/
abbrev MFn := List W → Hv → Res W
/-- a def's promise: it does what m says of the view -/
def spV (T : Tx) (n : Nat) (m : MFn) : Sp := fun vs H Q E => vs.length = n ∧ ∃ d ps h ws, View (T.hold d) ps h H ∧ Paired (WV ps) ws vs ∧ Good (T.hold d) WV ps H (m ws h) Q E
/-- the def at f may be called where X stands -/
def Can (T : Tx) (X : Cx) (f : Addr) (n : Nat) (m : MFn) : Prop := ∀ (pins : List (Addr × Obj)) (s : Shared) (σ : St) (H : Hp) (us : List Value) (vs : List V) (Q : VK) (E : XK), Inv X pins σ H s → Vals vs us → spV T n m vs H Q E →
  codeAny (model X.prog X.w) X.A (.call (.ref f) ⟨us, []⟩) (CR (L2.CX X.prog X.w) X.stack X.prog X.w H s Q E) s
def mCall (n : Nat) (m : MFn) (g : Ws → Hv → Res (List W)) : Ws → Hv → Res W := fun r h => (g r h).bind fun ws h1 => if ws.length = n then m ws h1 else .bad
section
variable {T : Tx} {X : Cx} {f : Addr} {n : Nat} {m : MFn} {x : Str} {e : Expr} {es : List Expr} {g : Ws → Hv → Res (List W)} {p pos : Pos}
theorem Can.wp (C : Can T X f n m) {E : WX} (cn : Cn X E) {pins : List (Addr × Obj)} {s : Shared} {σ : St} {H : Hp} {us : List Value} {vs : List V} {Q : VK} (I : Inv X pins σ H s) (r : Vals vs us) (h : spV T n m vs H Q (WE E σ)) : wpAny (model X.prog X.w) X.A (call (.ref f) us) (EP X pins σ Q) X.xe s := by
  refine wpAny_call (codeAny_mono (C pins s σ H us vs Q (WE E σ) I r h) fun fin s' hq => ?_)
  match fin, hq with
  | .error u, hq => exact passAt cn.tk σ pins H s u s' I hq
  | .ok (.ret u), hq => exact I.after hq
  | .ok .next, hq => exact hq.elim
  | .ok .brk, hq => exact hq.elim
  | .ok .cont, hq => exact hq.elim
theorem call_read {E : WX} {s : St} {H : Hp} {Q : VK} (h : tE T E (mCall n m g) s H Q) : tA T E g s H fun vs H1 => spV T n m vs H1 Q (WE E s) := by
  obtain ⟨ps, r, hv, es, vw, gd⟩ := h
  refine ⟨ps, r, hv, es, vw, (Good.bind (R := WVs) (S := WV) gd).imp (fun v H1 q => ?_) fun _ _ _ z => z⟩
  obtain ⟨qs, w, h1, st, vw1, wv, g1⟩ := q
  dsimp only at g1
  have wl : w.length = v.length := wv.length
  split at g1
  · rename_i hl
    exact ⟨wl ▸ hl, T.hd, qs, h1, w, vw1, wv, g1⟩
  · exact g1.elim
theorem se_call (C : Can T X f n m) (hg : Gl X x) (hm : X.mg x = some (.ref f)) (hk : PySem.W.keepIn X.K (.ref f) = true) (ha : SA T X (e :: es) g) (hdb : (x == ("__debug__" : Str)) = false := by decide)
    (he : starEach (e :: es) X.env = (false, eval e X.env) :: starEach es X.env := by rfl) (hpl : (backTo pos (starEach es X.env)).any (·.1) = false := by rfl) : SE T X (.Call (.Name x p) (e :: es) [] pos) (mCall n m g) := fun E cn => ⟨fun pins s σ H Q I h => by
  refine wpAny_Call_Name_kw (ld_glob (X := X) I hg hm ?_ hdb)
  exact PySem.W.callWith_K (h₀ := X.base) I.ok.mod.kin hk (thn ((ha E cn).run pos pins s σ H _ I (call_read h)) fun us s1 ⟨vs, H1, I1, r, q⟩ => ⟨I1.kIn, C.wp cn I1 r q⟩) he hpl⟩
theorem se_call0 (C : Can T X f 0 m) (hg : Gl X x) (hm : X.mg x = some (.ref f)) (hk : PySem.W.keepIn X.K (.ref f) = true) (hdb : (x == ("__debug__" : Str)) = false := by decide) : SE T X (.Call (.Name x p) [] [] pos) (mCall 0 m mNil) := fun E cn => ⟨fun pins s σ H Q I h => by
  refine wpAny_Call_Name_kw (ld_glob (X := X) I hg hm ?_ hdb)
  obtain ⟨ps, r, hv, es, vw, gd⟩ := h
  exact PySem.W.callWith_K0 I.kIn hk (C.wp (us := []) cn I .nil ⟨rfl, T.hd, ps, hv, [], vw, .nil, gd⟩)⟩
/-- a def of FnOk's kind -/
theorem can_ok {k : Nat} {fd : FuncData} {qs : List Str} (F : FnOk X.prog X.w X.K X.mg X.base (L2.CX X.prog X.w) k f fd qs (spV T n m)) (hr : Room k X.A) (hb : Binds X.K fd qs []) : Can T X f n m := fun pins s σ H us vs Q E I r h => by
  have hl : us.length = qs.length := by rw [← r.length]; exact F.len _ _ _ _ h
  have b := hb s us I.kIn (by simpa using hl)
  rw [List.append_nil] at b
  exact F.run X.A X.stack s H ⟨us, []⟩ us vs Q E hr I.env0 b r h
/-! ### built-ins -/
def RC (T : Tx) (r : List V → Hp → VK → Prop) (m : MFn) : Prop := ∀ ps h H ws vs (Q : VK) (E : XK), View T ps h H → Paired (WV ps) ws vs → Good T WV ps H (m ws h) Q E → r vs H Q
def mB (m : MFn) (g : Ws → Hv → Res (List W)) : Ws → Hv → Res W := fun r h => (g r h).bind m
theorem b_read {E : WX} {s : St} {H : Hp} {Q : VK} {r : List V → Hp → VK → Prop} (hr : RC T r m) (h : tE T E (mB m g) s H Q) : tCB r (tA T E g) s H Q := by
  obtain ⟨ps, r', hv, es, vw, gd⟩ := h
  refine ⟨ps, r', hv, es, vw, (Good.bind (R := WVs) (S := WV) gd).imp (fun v H1 q => ?_) fun _ _ _ z => z⟩
  obtain ⟨qs, w, h1, st, vw1, wv, g1⟩ := q
  exact hr qs h1 H1 w v Q _ vw1 wv g1
theorem se_b {id : String} {r : List V → Hp → VK → Prop} (hc : CallR X (.builtin id) r) (hr : RC T r m) (hg : Gl X x) (hm : X.mg x = none) (hv : bootBuiltins x = some (.builtin id)) (ha : SA T X (e :: es) g) (hn : x ≠ "__name__" := by decide) (hdb : (x == ("__debug__" : Str)) = false := by decide)
    (he : starEach (e :: es) X.env = (false, eval e X.env) :: starEach es X.env := by rfl) (hpl : (backTo pos (starEach es X.env)).any (·.1) = false := by rfl) : SE T X (.Call (.Name x p) (e :: es) [] pos) (mB m g) := fun E cn => PEi (pe_callB hc hg hm hv (ha E cn) hn hdb he hpl) fun s H Q h => b_read hr h
theorem se_bt {id : String} {r : List V → Hp → VK → Prop} (hc : CallR X (.type id) r) (hr : RC T r m) (hg : Gl X x) (hm : X.mg x = none) (hv : bootBuiltins x = some (.type id)) (ha : SA T X (e :: es) g) (hn : x ≠ "__name__" := by decide) (hdb : (x == ("__debug__" : Str)) = false := by decide)
    (he : starEach (e :: es) X.env = (false, eval e X.env) :: starEach es X.env := by rfl) (hpl : (backTo pos (starEach es X.env)).any (·.1) = false := by rfl) : SE T X (.Call (.Name x p) (e :: es) [] pos) (mB m g) := fun E cn => PEi (pe_callTy hc hg hm hv (ha E cn) hn hdb he hpl) fun s H Q h => b_read hr h
theorem one_of {ps : Pl} {w : W} {vs : List V} (h : Paired (WV ps) [w] vs) : ∃ v, vs = [v] ∧ WV ps w v := by
  cases h with
  | cons a b => cases b; exact ⟨_, rfl, a⟩
theorem pair_of {ps : Pl} {w u : W} {vs : List V} (h : Paired (WV ps) [w, u] vs) : ∃ v v', vs = [v, v'] ∧ WV ps w v ∧ WV ps u v' := by
  cases h with
  | cons a b => cases b with
    | cons c d => cases d; exact ⟨_, _, rfl, a, c⟩
def mAbs : MFn := fun ws h => match ws with
  | [.int i] => .val (.int (if i < 0 then -i else i)) h
  | _ => .bad
theorem rc_abs : RC T (fun xs H Q => ∃ i, xs = [.int i] ∧ Q (.int (if i < 0 then -i else i)) H) mAbs := by
  intro ps h H ws vs Q E vw wv gd
  unfold mAbs at gd
  split at gd
  · obtain ⟨v, rfl, e⟩ := one_of wv
    cases e
    exact ⟨_, rfl, Good.now gd vw rfl⟩
  · exact gd.elim
def mMax : MFn := fun ws h => match ws with
  | [.int i, .int j] => .val (.int (if j > i then j else i)) h
  | _ => .bad
theorem rc_max : RC T (fun xs H Q => ∃ i j, xs = [.int i, .int j] ∧ Q (.int (if j > i then j else i)) H) mMax := by
  intro ps h H ws vs Q E vw wv gd
  unfold mMax at gd
  split at gd
  · obtain ⟨v, v', rfl, e, e'⟩ := pair_of wv
    cases e; cases e'
    exact ⟨_, _, rfl, Good.now gd vw rfl⟩
  · exact gd.elim
def mMin : MFn := fun ws h => match ws with
  | [.int i, .int j] => .val (.int (if j < i then j else i)) h
  | _ => .bad
theorem rc_min : RC T (fun xs H Q => ∃ i j, xs = [.int i, .int j] ∧ Q (.int (if j < i then j else i)) H) mMin := by
  intro ps h H ws vs Q E vw wv gd
  unfold mMin at gd
  split at gd
  · obtain ⟨v, v', rfl, e, e'⟩ := pair_of wv
    cases e; cases e'
    exact ⟨_, _, rfl, Good.now gd vw rfl⟩
  · exact gd.elim
def mInt : MFn := fun ws h => match ws with
  | [.int i] => .val (.int i) h
  | [.bl b] => .val (.int (if b then 1 else 0)) h
  | _ => .bad
theorem rc_int : RC T (fun xs H Q => (∃ i, xs = [.int i] ∧ Q (.int i) H) ∨ ∃ k, xs = [.bl k] ∧ Q (.int (if k then 1 else 0)) H) mInt := by
  intro ps h H ws vs Q E vw wv gd
  unfold mInt at gd
  split at gd
  · obtain ⟨v, rfl, e⟩ := one_of wv
    cases e
    exact .inl ⟨_, rfl, Good.now gd vw rfl⟩
  · obtain ⟨v, rfl, e⟩ := one_of wv
    cases e
    exact .inr ⟨_, rfl, Good.now gd vw rfl⟩
  · exact gd.elim
def mLen : MFn := fun ws h => match ws with
  | [.str z] => if z.length ≤ 100000 then .val (.int z.length) h else .bad
  | [.ref p] => match h[p]? with
    | some (.lst xs) => .val (.int xs.length) h
    | some (.rol xs) => .val (.int xs.length) h
    | _ => .bad
  | [.tup xs] => .val (.int xs.length) h
  | _ => .bad
theorem rc_len {K : PySem.W.Frag} (hK : T.K = K := by rfl) : RC T (fun xs H Q => ∃ x n, xs = [x] ∧ LenV K x H n ∧ Q (.int n) H) mLen := by
  subst hK
  intro ps h H ws vs Q E vw wv gd
  unfold mLen at gd
  split at gd
  · split at gd
    · rename_i hl
      obtain ⟨v, rfl, e⟩ := one_of wv
      cases e
      exact ⟨_, _, rfl, ⟨sz_ok hl, rfl⟩, Good.now gd vw rfl⟩
    · exact gd.elim
  · obtain ⟨v, rfl, a, ea, rfl⟩ := one_of wv
    split at gd
    · rename_i xs e1
      obtain ⟨vs, r, eH⟩ := vw.ob _ a _ ea e1
      have l1 : xs.length = vs.length := r.length
      rw [l1] at gd
      exact ⟨_, vs.length, rfl, .inl ⟨vs, SqL.of eH, rfl⟩, Good.now gd vw rfl⟩
    · rename_i xs e1
      obtain ⟨vs, ob, r, eH⟩ := vw.ob _ a _ ea e1
      have l1 : xs.length = vs.length := r.length
      rw [l1] at gd
      exact ⟨_, vs.length, rfl, .inl ⟨vs, .inl (.inr ⟨ob, eH⟩), rfl⟩, Good.now gd vw rfl⟩
    · exact gd.elim
  · obtain ⟨v, rfl, wv1⟩ := one_of wv
    obtain ⟨a, vs, rfl, ht, r⟩ := wv1.tup_of
    rename_i xs
    have l1 : xs.length = vs.length := r.length
    rw [l1] at gd
    exact ⟨_, vs.length, rfl, .inr ⟨vs, TupAt.sq (vw.tup a vs ht), rfl⟩, Good.now gd vw rfl⟩
  · exact gd.elim
/-- the built-in type of a value -/
def tyN (h : Hv) : W → Option String
  | .non => some "NoneType"
  | .bl _ => some "bool"
  | .int _ => some "int"
  | .str _ => some "str"
  | .ref p => match h[p]? with
    | some (O.lst _) => some "list"
    | some (.rol _) => some "list"
    | some (.dic _) => some "dict"
    | _ => none
  | .tup _ => some "tuple"
  | _ => none
theorem tyN_ok {T : Tx} {ps : Pl} {h : Hv} {H : Hp} (vw : View T ps h H) : ∀ {w : W} {v : V} {t : String}, tyN h w = some t → WV ps w v → TyX T.K H v (.type t)
  | .non, _, _, e, wv => by cases e; cases wv; exact .base .non
  | .bl _, _, _, e, wv => by cases e; cases wv; exact .base (.bl _)
  | .int _, _, _, e, wv => by cases e; cases wv; exact .base (.int _)
  | .str _, _, _, e, wv => by cases e; cases wv; exact .base (.str _)
  | .fix _, _, _, e, wv => by cases e
  | .ty _, _, _, e, wv => by cases e
  | .tup _, _, _, e, wv => by
    obtain ⟨a, vs, rfl, ht, r⟩ := wv.tup_of
    cases e
    rcases vw.tup a vs ht with z | ⟨o, _, _, z, c, _⟩
    · exact .base (.tup z)
    · exact .kTuple z c
  | .ref p, _, _, e, wv => by
    obtain ⟨a, ea, rfl⟩ := wv
    simp only [tyN] at e
    split at e
    · rename_i e1
      obtain ⟨vs, r, eH⟩ := vw.ob _ a _ ea e1
      cases e; exact .base (.lst eH)
    · rename_i e1
      obtain ⟨vs, ob, r, eH⟩ := vw.ob _ a _ ea e1
      cases e; exact .base (.frz eH)
    · rename_i e1
      obtain ⟨vs, r, eH⟩ := vw.ob _ a _ ea e1
      cases e; exact .base (.dK eH)
    · cases e
def mIsi : MFn := fun ws h => match ws with
  | [w, .ty n] => match tyN h w with
    | some t => match kitB t n with
      | some b => .val (.bl b) h
      | none => .bad
    | none => .bad
  | _ => .bad
theorem rc_isi {K : PySem.W.Frag} (hK : T.K = K := by rfl) : RC T (rIsi K) mIsi := by
  subst hK
  intro ps h H ws vs Q E vw wv gd
  unfold mIsi at gd
  split at gd
  · obtain ⟨v, v', rfl, e, e'⟩ := pair_of wv
    cases e'
    split at gd
    · rename_i t et
      split at gd
      · rename_i b eb
        exact ⟨v, _, _, _, b, rfl, .ty _, tyN_ok vw et e, kit_ty eb, Good.now gd vw rfl⟩
      · exact gd.elim
    · exact gd.elim
  · exact gd.elim
/-! ### repr -/
def rRepr (K : PySem.W.Frag) : List V → Hp → VK → Prop := fun xs H Q => ∃ x d, xs = [x] ∧ Dp K H x d ∧ d.showable = true ∧ d.hasDict = false ∧ d.depth ≤ 60 ∧ d.shown.length ≤ sizeLine ∧ Q (.str d.shown) H
def mRepr : MFn := fun ws h => match ws with
  | [w] => match toD dF h w with
    | some d => if d.showable && !d.hasDict && decide (d.depth ≤ 60) && decide (d.shown.length ≤ 100000) then .val (.str d.shown) h else .bad
    | none => .bad
  | _ => .bad
theorem rc_repr {K : PySem.W.Frag} (hK : T.K = K := by rfl) : RC T (rRepr K) mRepr := by
  subst hK
  intro ps h H ws vs Q E vw wv gd
  unfold mRepr at gd
  split at gd
  · obtain ⟨v, rfl, e⟩ := one_of wv
    split at gd
    · rename_i d ed
      split at gd
      · rename_i hc
        simp only [Bool.and_eq_true, decide_eq_true_eq, Bool.not_eq_true'] at hc
        exact ⟨v, d, rfl, toD_ok vw _ _ _ _ ed e, hc.1.1.1, hc.1.1.2, hc.1.2, sz_ok hc.2, Good.now gd vw rfl⟩
      · exact gd.elim
    · exact gd.elim
  · exact gd.elim
theorem call_reprD (hg : X.A.guards = some []) (hu : X.A.units + 64 < cLine) : CallR X (.builtin "repr") (rRepr X.K) := by
  intro pins s σ H xs us Q I r h; obtain ⟨x, d, rfl, hd, hs, hn, hdp, hl, q⟩ := h
  obtain ⟨u, rfl, ru⟩ := vals1 r; cases hd with
  | non => cases ru; exact PySem.P.repr_of_none ⟨.str _, H, I.tok _, ⟨_, rfl⟩, q⟩
  | bl b =>
    cases ru
    refine PySem.P.repr_of_bool ⟨.str _, H, I.tok _, ⟨_, rfl⟩, ?_⟩
    exact q
  | int i =>
    obtain ⟨t, rfl⟩ := ru
    exact PySem.P.repr_of_int (by simpa [PyData.showable] using hs) ⟨.str _, H, I.tok _, ⟨_, rfl⟩, q⟩
  | str z => obtain ⟨t, rfl⟩ := ru; exact PySem.P.repr_of_str ⟨.str _, H, I.tok _, ⟨_, rfl⟩, q⟩
  | lst h1 h2 =>
    cases ru
    obtain ⟨as, rd⟩ := Dp.reads I _ _ _ (.lst h1 h2) rfl
    exact repr_of_reads' rd hs (PyData.noDict_hsm hn) hg (by omega) (fun _ _ e => e) (fun h' u tk hk => ⟨.str _, H, I.kept hk, ⟨_, rfl⟩, q⟩) hl
  | tup h1 h2 =>
    cases ru
    obtain ⟨as, rd⟩ := Dp.reads I _ _ _ (.tup h1 h2) rfl
    exact repr_of_reads' rd hs (PyData.noDict_hsm hn) hg (by omega) (fun _ _ e => e) (fun h' u tk hk => ⟨.str _, H, I.kept hk, ⟨_, rfl⟩, q⟩) hl
end
end VL
end
section
namespace VL
open PySem L2

/-! ### statements -/
abbrev MS := Ws → Hv → ResS
namespace Res
/-- a value, then a statement's end; r: the names as they stand -/
def andS {α : Type} (x : Res α) (r : Ws) (k : α → Hv → ResS) : ResS := match x with
  | .val a h => k a h
  | .exc c d h => .exc c d r h
  | .bad => .bad
end Res
section
variable {T : Tx} {X : Cx} {α β : Type} {R : Pl → α → β → Prop} {ps : Pl} {H : Hp} {x : Res α} {r : Ws} {k : α → Hv → ResS} {D : Ends} {E : WX} {s : St}
theorem good_andS (es : ES ps r s) (g : GoodS T ps H (x.andS r k) D E) : Good T R ps H x (fun v H1 => ∃ qs w h1, Step ps H qs H1 ∧ View T qs h1 H1 ∧ R qs w v ∧ ES qs r s ∧ GoodS T qs H1 (k w h1) D E) (fun c d H' => E c d s H') := by
  cases x with
  | val w h => exact fun qs H' v st vw rv => ⟨qs, w, h, st, vw, rv, es.mono st.pre, g.step st⟩
  | exc c d h => exact fun qs H' e st vw dv => g qs H' s e st vw (es.mono st.pre) dv
  | bad => exact g
end
def mExpr (f : Ws → Hv → Res W) : MS := fun r h => (f r h).andS r fun _ h1 => .nx r h1
def mRet (f : Ws → Hv → Res W) : MS := fun r h => (f r h).andS r fun w h1 => .rt w h1
def mSet (i : Nat) (f : Ws → Hv → Res W) : MS := fun r h => (f r h).andS r fun w h1 => .nx (r.set i (some w)) h1
def mIfS (t : Ws → Hv → Res Bool) (f g : MS) : MS := fun r h => (t r h).andS r fun b h1 => if b then f r h1 else g r h1
def mNext : MS := fun r h => .nx r h
def mSeq (f g : MS) : MS := fun r h => match f r h with
  | .nx r1 h1 => g r1 h1
  | x => x
section
variable {T : Tx} {X : Cx} {e : Expr} {f : Ws → Hv → Res W} {pos : Pos} {st : Stmt} {rest : List Stmt} {a b : MS} {t : Ws → Hv → Res Bool}
theorem ss_expr (h : SE T X e f) (hs : swapsWith e none pos.line X.env = pure false := by rfl) : SS T X (.Expr e pos) (mExpr f) := fun E cn => PSi (ps_expr (h E cn) hs) fun D s H ⟨ps, r, hv, es, vw, gd⟩ => by
  refine ⟨ps, r, hv, es, vw, (good_andS (R := WV) es gd).imp (fun v H1 q => ?_) fun _ _ _ z => z⟩
  obtain ⟨qs, w, h1, st, vw1, wv, es1, g1⟩ := q
  exact g1 qs H1 s (Step.refl _ _) vw1 es1
theorem ss_ret (h : SE T X e f) : SS T X (.Return (some e) pos) (mRet f) := fun E cn => PSi (ps_ret (h E cn)) fun D s H ⟨ps, r, hv, es, vw, gd⟩ => by
  refine ⟨ps, r, hv, es, vw, (good_andS (R := WV) es gd).imp (fun v H1 q => ?_) fun _ _ _ z => z⟩
  obtain ⟨qs, w, h1, st, vw1, wv, es1, g1⟩ := q
  exact g1 qs H1 v (Step.refl _ _) vw1 wv
theorem ss_retN : SS T X (.Return none pos) (fun _ h => .rt .non h) := fun E cn => PSi ps_retN fun D s H ⟨ps, r, hv, es, vw, gd⟩ => gd ps H .non (Step.refl _ _) vw rfl
theorem ss_pass : SS T X (.Pass pos) mNext := fun E cn => PSi ps_pass fun D s H ⟨ps, r, hv, es, vw, gd⟩ => gd ps H s (Step.refl _ _) vw es
theorem ss_break : SS T X (.Break pos) (fun r h => .bk r h) := fun E cn => PSi ps_break fun D s H ⟨ps, r, hv, es, vw, gd⟩ => gd ps H s (Step.refl _ _) vw es
theorem ss_cont : SS T X (.Continue pos) (fun r h => .ct r h) := fun E cn => PSi ps_continue fun D s H ⟨ps, r, hv, es, vw, gd⟩ => gd ps H s (Step.refl _ _) vw es
theorem ss_set (i : Nat) {x : Str} {pos' : Pos} (hN : X.N.Nodup) (h : SE T X e f) (hi : X.N[i]? = some x := by rfl) (hx : Loc X.env.scope x := by first | exact Or.inl rfl | exact Or.inr rfl) (hs : swapsWith e (some (.Name x pos')) pos.line X.env = pure false := by rfl)
    (hf : X.fn x = true ∨ X.env.scope.names.lookup x = some .local := by first | exact .inl rfl | exact .inr rfl) : SS T X (.Assign [.Name x pos'] e pos) (mSet i f) := fun E cn => PSi (ps_set hN hi hx (h E cn) hs hf) fun D s H ⟨ps, r, hv, es, vw, gd⟩ => by
  refine ⟨ps, r, hv, es, vw, (good_andS (R := WV) es gd).imp (fun v H1 q => ?_) fun _ _ _ z => z⟩
  obtain ⟨qs, w, h1, st, vw1, wv, es1, g1⟩ := q
  exact g1 qs H1 _ (Step.refl _ _) vw1 (es1.set i wv)
theorem sss_nil : SSs T X [] mNext := fun E cn => PSsi pss_nil fun D s H ⟨ps, r, hv, es, vw, gd⟩ => gd ps H s (Step.refl _ _) vw es
theorem seq_read {E : WX} {D : Ends} {s : St} {H : Hp} (h : tS T E (mSeq a b) D s H) : tSeq (tS T E a) (tS T E b) D s H := by
  obtain ⟨ps, r, hv, es, vw, gd⟩ := h
  refine ⟨ps, r, hv, es, vw, ?_⟩
  unfold mSeq at gd
  cases q : a r hv with
  | nx r1 h1 =>
    rw [q] at gd
    exact fun qs H' s' st vw' es' => ⟨qs, r1, h1, es', vw', GoodS.step gd st⟩
  | rt w h1 => rw [q] at gd; exact gd
  | bk w h1 => rw [q] at gd; exact gd
  | ct w h1 => rw [q] at gd; exact gd
  | exc c d w h1 => rw [q] at gd; exact gd
  | bad => rw [q] at gd; exact gd
theorem sss_cons (h1 : SS T X st a) (h2 : SSs T X rest b) : SSs T X (st :: rest) (mSeq a b) := fun E cn => PSsi (pss_cons (h1 E cn) (h2 E cn)) fun D s H h => seq_read h
theorem sss_one (h1 : SS T X st a) : SSs T X [st] a := fun E cn => pss_one (h1 E cn)
theorem ss_if {c : Expr} {sa sb : List Stmt} (hc : STt T X c t) (ha : SSs T X sa a) (hb : SSs T X sb b) : SS T X (.If c sa sb pos) (mIfS t a b) := fun E cn => PSi (ps_if (hc E cn) (ha E cn) (hb E cn)) fun D s H ⟨ps, r, hv, es, vw, gd⟩ => by
  refine ⟨ps, r, hv, es, vw, (good_andS (R := BEq2) es gd).imp (fun v H1 q => ?_) fun _ _ _ z => z⟩
  obtain ⟨qs, w, h1, st, vw1, wv, es1, g1⟩ := q
  cases wv
  cases v with
  | true => exact iteT ⟨qs, r, h1, es1, vw1, g1⟩
  | false => exact iteF ⟨qs, r, h1, es1, vw1, g1⟩
/-- a, b = x, y -/
def mPar (i j : Nat) (g : Ws → Hv → Res (List W)) : MS := fun r h => (g r h).andS r fun ws h1 => match ws with
  | [v, w] => .nx ((r.set i (some v)).set j (some w)) h1
  | _ => .bad
theorem ss_par (i j : Nat) {x y : Str} {ea eb : Expr} {g : Ws → Hv → Res (List W)} {px py pt : Pos} {kt k2 pt2} (hN : X.N.Nodup) (ha : SA T X [ea, eb] g) (hc : X.calm = true := by rfl) (hi : X.N[i]? = some x := by rfl) (hj : X.N[j]? = some y := by rfl) (hij : i ≠ j := by decide)
    (hx : X.env.scope.names.lookup x = some .local := by rfl) (hy : X.env.scope.names.lookup y = some .local := by rfl)
    (hw : swappedStores [.Tuple [.Name x px, .Name y py] kt pt] (.Tuple [ea, eb] k2 pt2) X.env = pure (some [x, y]) := by rfl)
    (hs : swapsWithSole [.Tuple [.Name x px, .Name y py] kt pt] (.Tuple [ea, eb] k2 pt2) pos.line X.env = pure false := by rfl) :
    SS T X (.Assign [.Tuple [.Name x px, .Name y py] kt pt] (.Tuple [ea, eb] k2 pt2) pos) (mPar i j g) := fun E cn => PSi (ps_par hc hN hi hj hij hx hy (ha E cn) hw hs) fun D s H ⟨ps, r, hv, es, vw, gd⟩ => by
  refine ⟨ps, r, hv, es, vw, (good_andS (R := WVs) es gd).imp (fun v H1 q => ?_) fun _ _ _ z => z⟩
  obtain ⟨qs, w, h1, st, vw1, wv, es1, g1⟩ := q
  try dsimp only at g1
  split at g1
  · obtain ⟨v1, v2, rfl, w1, w2⟩ := pair_of wv
    exact ⟨v1, v2, rfl, g1 qs H1 _ (Step.refl _ _) vw1 ((es1.set i w1).set j w2)⟩
  · exact g1.elim

/-! ### while -/
def whileM (t : Ws → Hv → Res Bool) (b : MS) : Nat → MS
  | 0, _, _ => .bad
  | n + 1, r, h => (t r h).andS r fun c h1 => if c then (match b r h1 with
      | .nx r1 h2 => whileM t b n r1 h2
      | .ct r1 h2 => whileM t b n r1 h2
      | .bk r1 h2 => .nx r1 h2
      | x => x) else .nx r h1
def mWhile (fuel : Ws → Hv → Nat) (t : Ws → Hv → Res Bool) (b : MS) : MS := fun r h => whileM t b (fuel r h) r h
theorem ss_while (fuel : Ws → Hv → Nat) {c : Expr} {body : List Stmt} (hc : STt T X c t) (hb : SSs T X body b) : SS T X (.While c body [] pos) (mWhile fuel t b) := fun E cn => PSi (ps_while cn.po (hc E cn) (hb E cn)) fun D s H ⟨ps, r, hv, es, vw, gd⟩ => by
  refine ⟨fun m s H => ∃ ps r h, ES ps r s ∧ View T ps h H ∧ GoodS T ps H (whileM t b m r h) D E, ⟨fuel r hv, ps, r, hv, es, vw, gd⟩, ?_⟩
  rintro m s H ⟨ps, r, h, es, vw, gd⟩
  cases m with
  | zero => exact gd.elim
  | succ m =>
    refine ⟨ps, r, h, es, vw, (good_andS (R := BEq2) es (by unfold whileM at gd; exact gd)).imp (fun v H1 q => ?_) fun _ _ _ z => z⟩
    obtain ⟨qs, w, h1, st, vw1, wv, es1, g1⟩ := q
    cases wv
    cases v with
    | false => exact iteF (g1 qs H1 s (Step.refl _ _) vw1 es1)
    | true =>
      refine iteT ⟨fun s' H' => ∃ ps r h, ES ps r s' ∧ View T ps h H' ∧ GoodS T ps H' (whileM t b m r h) D E, fun s' H' q => ⟨m, Nat.lt_succ_self m, q⟩, qs, r, h1, es1, vw1, ?_⟩
      try dsimp only at g1
      rw [if_pos rfl] at g1
      cases q : b r h1 with
      | nx r1 h2 =>
        rw [q] at g1
        exact fun rs H' s' st' vw' es' => ⟨rs, r1, h2, es', vw', GoodS.step g1 st'⟩
      | ct r1 h2 =>
        rw [q] at g1
        exact fun rs H' s' st' vw' es' => ⟨rs, r1, h2, es', vw', GoodS.step g1 st'⟩
      | bk r1 h2 => rw [q] at g1; exact g1
      | rt w h2 => rw [q] at g1; exact g1
      | exc c d w h2 => rw [q] at g1; exact g1
      | bad => rw [q] at g1; exact g1
end

/-! ### targets -/
abbrev MG := W → Ws → Hv → ResS
def tG (T : Tx) (E : WX) (g : MG) : TG := fun v s H Q => ∃ ps r h w, ES ps r s ∧ View T ps h H ∧ WV ps w v ∧ GoodS T ps H (g w r h) { nx := Q, rt := fun _ _ => False } E
def tGs (T : Tx) (E : WX) (g : List W → MS) : TGs := fun vs s H Q => ∃ ps r h ws, ES ps r s ∧ View T ps h H ∧ Paired (WV ps) ws vs ∧ GoodS T ps H (g ws r h) { nx := Q, rt := fun _ _ => False } E
def SG (T : Tx) (X : Cx) (e : Expr) (g : MG) : Prop := ∀ E, Cn X E → PG X e (tG T E g)
def SGs (T : Tx) (X : Cx) (es : List Expr) (g : List W → MS) : Prop := ∀ E, Cn X E → PGs X es (tGs T E g)
def mGn (i : Nat) : MG := fun w r h => .nx (r.set i (some w)) h
def mGnil : List W → MS := fun ws r h => match ws with
  | [] => .nx r h
  | _ => .bad
def mGcons (g : MG) (k : List W → MS) : List W → MS := fun ws r h => match ws with
  | w :: ws => mSeq (g w) (k ws) r h
  | [] => .bad
def mGtup (n : Nat) (k : List W → MS) : MG := fun w r h => match w with
  | .tup ws => if ws.length = n then k ws r h else .bad
  | _ => .bad
section
variable {T : Tx} {X : Cx} {e : Expr} {es : List Expr} {g : MG} {k : List W → MS} {pos : Pos}
theorem PGi {t t' : TG} (h : PG X e t) (k : ∀ v s H Q, t' v s H Q → t v s H Q) : PG X e t' := ⟨fun pins s σ H v u Q I r hw => h.run pins s σ H v u Q I r (k _ _ _ _ hw)⟩
theorem PGsi {t t' : TGs} (h : PGs X es t) (k : ∀ v s H Q, t' v s H Q → t v s H Q) : PGs X es t' := ⟨fun pins s σ H v u Q I r hw => h.run pins s σ H v u Q I r (k _ _ _ _ hw)⟩
theorem sg_name (i : Nat) {x : Str} (hN : X.N.Nodup) (hi : X.N[i]? = some x := by rfl) (hx : Loc X.env.scope x := by first | exact Or.inl rfl | exact Or.inr rfl) (hf : X.fn x = true ∨ X.env.scope.names.lookup x = some .local := by first | exact .inl rfl | exact .inr rfl) :
    SG T X (.Name x pos) (mGn i) := fun E cn => PGi (pg_name hN hi hx hf) fun v s H Q ⟨ps, r, h, w, es, vw, wv, gd⟩ => gd ps H _ (Step.refl _ _) vw (es.set i wv)
theorem sgs_nil : SGs T X [] mGnil := fun E cn => PGsi pgs_nil fun v s H Q ⟨ps, r, h, ws, es, vw, wv, gd⟩ => by
  unfold mGnil at gd
  split at gd
  · cases wv
    exact ⟨rfl, gd ps H _ (Step.refl _ _) vw es⟩
  · exact gd.elim
theorem sgs_cons (h1 : SG T X e g) (h2 : SGs T X es k) (hs : (assignEach (e :: es) X.env).map (·.2) = assign e X.env :: (assignEach es X.env).map (·.2) := by rfl) : SGs T X (e :: es) (mGcons g k) := fun E cn => PGsi (pgs_cons (h1 E cn) (h2 E cn) hs) fun v s H Q ⟨ps, r, h, ws, es, vw, wv, gd⟩ => by
  cases wv with
  | nil => exact gd.elim
  | cons wv1 wv2 =>
    refine ⟨_, _, rfl, ps, r, h, _, es, vw, wv1, ?_⟩
    unfold mGcons at gd
    dsimp only at gd
    unfold mSeq at gd
    split at gd
    · rename_i r1 h1 q
      rw [q]
      exact fun qs H' s' st vw' es' => ⟨qs, r1, h1, _, es', vw', WVs.mono st.pre wv2, GoodS.step gd st⟩
    · rename_i x q
      cases z : g _ r h with
      | nx r1 h1 => exact absurd z (q r1 h1)
      | rt w h1 => rw [z] at gd; exact gd
      | bk w h1 => rw [z] at gd; exact gd
      | ct w h1 => rw [z] at gd; exact gd
      | exc c d w h1 => rw [z] at gd; exact gd
      | bad => rw [z] at gd; exact gd
theorem sg_tup {kk n : Nat} (h : SGs T X es k) (hc : X.calm = true := by rfl) (hn : (assignEach es X.env).length = n := by rfl) (hst : (assignEach es X.env).findIdx? (·.1) = none := by rfl) (hK : T.K = X.K := by rfl) : SG T X (.Tuple es kk pos) (mGtup n k) := fun E cn =>
  PGi (pg_tup hc (h E cn) hn hst) fun v s H Q ⟨ps, r, h, w, es, vw, wv, gd⟩ => by
    unfold mGtup at gd
    split at gd
    · rename_i ws
      split at gd
      · rename_i hl
        obtain ⟨a, vs, rfl, ht, rr⟩ := wv.tup_of
        have l1 : ws.length = vs.length := rr.length
        exact ⟨a, vs, rfl, hK ▸ TupAt.sq (vw.tup a vs ht), by rw [← l1]; exact hl, ps, r, h, ws, es, vw, rr, gd⟩
      · exact gd.elim
    · exact gd.elim
/-- target = e -/
def mAsg (f : Ws → Hv → Res W) (g : MG) : MS := fun r h => (f r h).andS r fun w h1 => (match g w r h1 with
  | .nx r1 h2 => .nx r1 h2
  | .exc c d r1 h2 => .exc c d r1 h2
  | _ => .bad)
theorem ss_asg {tg : Expr} {f : Ws → Hv → Res W} (he : SE T X e f) (hg : SG T X tg g) (hs : swapsWithSole [tg] e pos.line X.env = pure false := by rfl) (hw : swappedStores [tg] e X.env = pure none := by rfl)
    (h1 : (assignEach [tg] X.env).map (·.2) = [assign tg X.env] := by rfl) : SS T X (.Assign [tg] e pos) (mAsg f g) := fun E cn => PSi (ps_asg (he E cn) (hg E cn) hs hw h1) fun D s H ⟨ps, r, hv, es, vw, gd⟩ => by
  refine ⟨ps, r, hv, es, vw, (good_andS (R := WV) es gd).imp (fun v H1 q => ?_) fun _ _ _ z => z⟩
  obtain ⟨qs, w, h1, st, vw1, wv, es1, g1⟩ := q
  refine ⟨qs, r, h1, w, es1, vw1, wv, ?_⟩
  cases z : g w r h1 with
  | nx r1 h2 => rw [z] at g1; exact g1
  | rt w h2 => rw [z] at g1; exact g1.elim
  | bk w h2 => rw [z] at g1; exact g1.elim
  | ct w h2 => rw [z] at g1; exact g1.elim
  | exc c d w h2 => rw [z] at g1; exact g1
  | bad => rw [z] at g1; exact g1.elim
/-- xs[i] = e -/
def mSub1 (fo fi : Ws → Hv → Res W) : MG := fun w r h => (fo r h).andS r fun o h1 => (fi r h1).andS r fun i h2 => match o, i with
  | .ref p, .int k => match h2[p]? with
    | some (.lst xs) => match ixN xs.length k with
      | some j => .nx r (h2.set p (.lst (xs.set j w)))
      | none => .bad
    | _ => .bad
  | _, _ => .bad
theorem sg_sub {o i : Expr} {fo fi : Ws → Hv → Res W} (ho : SE T X o fo) (hi : SE T X i fi)
    (ha : ∀ y, assign (.Subscript o i pos) X.env y = (do
      let yo ← holding [y] (eval o X.env)
      let yi ← holding [y, yo] (eval i X.env)
      standAt pos
      holding [y, yo, yi] (setItem yo yi y)
      release [y, yo, yi] []) := by intro _; rfl) : SG T X (.Subscript o i pos) (mSub1 fo fi) := fun E cn => PGi (pg_sub (ho E cn) (hi E cn) set_list ha) fun v s H Q ⟨ps, r, h, w, es, vw, wv, gd⟩ => by
  refine ⟨ps, r, h, es, vw, (good_andS (R := WV) es gd).imp (fun vo H1 q => ?_) fun _ _ _ z => z⟩
  obtain ⟨qs, wo, h1, st, vw1, wvo, es1, g1⟩ := q
  refine ⟨qs, r, h1, es1, vw1, (good_andS (R := WV) es1 g1).imp (fun vi H2 q2 => ?_) fun _ _ _ z => z⟩
  obtain ⟨rs, wi, h2, st2, vw2, wvi, es2, g2⟩ := q2
  try dsimp only at g2
  have wvo2 := wvo.mono st2.pre
  split at g2
  · rename_i p k
    obtain ⟨a, ea, rfl⟩ := wvo2
    cases wvi
    split at g2
    · rename_i xs e1
      split at g2
      · rename_i j ej
        obtain ⟨vs, rr, eH⟩ := vw2.ob _ a _ ea e1
        have l1 : xs.length = vs.length := rr.length
        have pz : Paired (WV rs) (xs.set j w) (vs.set j v) := paired_set rr ((wv.mono st.pre).mono st2.pre) j
        obtain ⟨vw3, st3⟩ := vw2.put ea (o := .lst (xs.set j w)) (u := .lst (vs.set j v)) ⟨_, pz, upd_same⟩ (notX eH)
        exact ⟨a, vs, k, j, rfl, rfl, eH, by rw [← l1]; exact ej, g2 _ _ s st3 vw3 es2⟩
      · exact g2.elim
    · exact g2.elim
  · exact g2.elim
end
end VL
end
section
namespace VL
open PySem L2

/-! ### what is walked -/
inductive Nxt where
  | stop | item (w : W) (h : Hv) | bad
structure Src where
  n : Nat
  nx : Nat → Hv → Nxt
def NxOk (T : Tx) (qs : Pl) (H : Hp) (J : It) (i : Nat) : Nxt → Prop
  | .stop => J.stop i H
  | .item w h => J.go i H ∧ ∀ x H', J.yld i H x H' → ∃ rs, Step qs H rs H' ∧ View T rs h H' ∧ WV rs w x
  | .bad => True
/-- the source S is the iterator J, wherever the places ps stand -/
def SimI (T : Tx) (ps : Pl) (S : Src) (J : It) : Prop := ∀ qs h H i, Pl.Le ps qs → View T qs h H → NxOk T qs H J i (S.nx i h)
theorem SimI.mono {T : Tx} {ps qs : Pl} {S : Src} {J : It} (s : SimI T ps S J) (h : Pl.Le ps qs) : SimI T qs S J := fun rs hv H i p => s rs hv H i (h.trans p)
def tI (T : Tx) (E : WX) (f : Ws → Hv → Res Src) : TI := fun s H R => ∃ ps r h, ES ps r s ∧ View T ps h H ∧ Good T (SimI T) ps H (f r h) R (fun c d H' => E c d s H')
def SI (T : Tx) (X : Cx) (tg iter : Expr) (f : Ws → Hv → Res Src) : Prop := ∀ E, Cn X E → PI X tg iter (tI T E f)

def forM (nx : Nat → Hv → Nxt) (g : MG) (b : MS) : Nat → Nat → MS
  | 0, _, _, _ => .bad
  | n + 1, i, r, h => match nx i h with
    | .stop => .nx r h
    | .item w h1 => (match g w r h1 with
      | .nx r1 h2 => (match b r1 h2 with
        | .nx r2 h3 => forM nx g b n (i + 1) r2 h3
        | .ct r2 h3 => forM nx g b n (i + 1) r2 h3
        | .bk r2 h3 => .nx r2 h3
        | x => x)
      | .exc c d r1 h2 => .exc c d r1 h2
      | _ => .bad)
    | .bad => .bad
def mFor (f : Ws → Hv → Res Src) (g : MG) (b : MS) : MS := fun r h => (f r h).andS r fun S h1 => forM S.nx g b S.n 0 r h1
section
variable {T : Tx} {X : Cx} {tg iter : Expr} {f : Ws → Hv → Res Src} {g : MG} {b : MS} {pos : Pos}
theorem for_run {D : Ends} {E : WX} {S : Src} {J : It} {p0 : Pl} (sim : SimI T p0 S J) {ps : Pl} {r : Ws} {h : Hv} {s : St} {H : Hp} (hp : Pl.Le p0 ps) (es : ES ps r s) (vw : View T ps h H) (gd : GoodS T ps H (forM S.nx g b S.n 0 r h) D E) :
    ∃ Z : Nat → Nat → St → Hp → Prop, (∃ m, Z 0 m s H) ∧ ∀ i m s H, Z i m s H → (J.stop i H ∧ D.nx s H) ∨ (J.go i H ∧ ∃ N : St → Hp → Prop, (∀ s' H', N s' H' → ∃ m', m' < m ∧ Z (i + 1) m' s' H') ∧
      ∀ x H', J.yld i H x H' → tG T E g x s H' fun s2 H2 => tS T E b { D with nx := N, ct := N, bk := D.nx } s2 H2) := by
  refine ⟨fun i m s H => ∃ ps r h, Pl.Le p0 ps ∧ ES ps r s ∧ View T ps h H ∧ GoodS T ps H (forM S.nx g b m i r h) D E, ⟨S.n, ps, r, h, hp, es, vw, gd⟩, ?_⟩
  rintro i m s H ⟨ps, r, h, hp, es, vw, gd⟩
  cases m with
  | zero => exact gd.elim
  | succ m =>
    have ok := sim ps h H i hp vw
    unfold forM at gd
    cases q : S.nx i h with
    | stop =>
      rw [q] at gd ok
      exact .inl ⟨ok, gd ps H s (Step.refl _ _) vw es⟩
    | bad => rw [q] at gd; exact gd.elim
    | item w h1 =>
      rw [q] at gd ok
      refine .inr ⟨ok.1, fun s' H' => ∃ ps r h, Pl.Le p0 ps ∧ ES ps r s' ∧ View T ps h H' ∧ GoodS T ps H' (forM S.nx g b m (i + 1) r h) D E, fun s' H' z => ⟨m, Nat.lt_succ_self m, z⟩, fun x H' y => ?_⟩
      obtain ⟨qs, st, vw1, wv⟩ := ok.2 x H' y
      refine ⟨qs, r, h1, w, es.mono st.pre, vw1, wv, ?_⟩
      have gd := gd.step st
      dsimp only at gd
      cases z : g w r h1 with
      | rt _ _ => rw [z] at gd; exact gd.elim
      | bk _ _ => rw [z] at gd; exact gd.elim
      | ct _ _ => rw [z] at gd; exact gd.elim
      | bad => rw [z] at gd; exact gd.elim
      | exc c d r1 h2 => rw [z] at gd; exact gd
      | nx r1 h2 =>
        rw [z] at gd
        intro rs H2 s2 st2 vw2 es2
        refine ⟨rs, r1, h2, es2, vw2, ?_⟩
        have gd := gd.step st2
        dsimp only at gd
        have pp : Pl.Le p0 rs := (hp.trans st.pre).trans st2.pre
        cases y2 : b r1 h2 with
        | nx r2 h3 =>
          rw [y2] at gd
          exact fun ts H3 s3 st3 vw3 es3 => ⟨ts, r2, h3, pp.trans st3.pre, es3, vw3, GoodS.step gd st3⟩
        | ct r2 h3 =>
          rw [y2] at gd
          exact fun ts H3 s3 st3 vw3 es3 => ⟨ts, r2, h3, pp.trans st3.pre, es3, vw3, GoodS.step gd st3⟩
        | bk r2 h3 => rw [y2] at gd; exact gd
        | rt r2 h3 => rw [y2] at gd; exact gd
        | exc c d r2 h3 => rw [y2] at gd; exact gd
        | bad => rw [y2] at gd; exact gd
theorem ss_for {body : List Stmt} (hi : SI T X tg iter f) (hg : SG T X tg g) (hb : SSs T X body b) (hc : X.calm = true := by rfl) (hs : ∀ x, foldedSetIterable iter X.env x = pure x := by intro _; rfl) : SS T X (.For tg iter body [] pos) (mFor f g b) := fun E cn =>
  PSi (ps_for cn.po hc (hi E cn) (hg E cn) (hb E cn) hs) fun D s H ⟨ps, r, hv, es, vw, gd⟩ => by
    refine ⟨ps, r, hv, es, vw, (good_andS (R := SimI T) es gd).imp (fun J H1 q => ?_) fun _ _ _ z => z⟩
    obtain ⟨qs, S, h1, st, vw1, sim, es1, g1⟩ := q
    exact for_run sim (Pl.Le.refl _) es1 vw1 g1

/-! ### lists and tuples -/
def nxSeq (p : Nat) : Nat → Hv → Nxt := fun i h => match h[p]? with
  | some (.lst xs) => (match xs[i]? with | some w => .item w h | none => .stop)
  | some (.rol xs) => (match xs[i]? with | some w => .item w h | none => .stop)
  | _ => .bad
def nxTup (xs : List W) : Nat → Hv → Nxt := fun i h => match xs[i]? with
  | some w => .item w h
  | none => .stop
def srcOf (w : W) (h : Hv) : Res Src := match w with
  | .ref p => (match h[p]? with
    | some (.lst xs) => .val ⟨xs.length + 1, nxSeq p⟩ h
    | some (.rol xs) => .val ⟨xs.length + 1, nxSeq p⟩ h
    | _ => .bad)
  | .tup xs => .val ⟨xs.length + 1, nxTup xs⟩ h
  | _ => .bad
def mSrc (f : Ws → Hv → Res W) : Ws → Hv → Res Src := fun r h => (f r h).bind srcOf
theorem paired_none {ps : Pl} {xs : List W} {vs : List V} (a : Paired (WV ps) xs vs) {i : Nat} (e : xs[i]? = none) : vs.length ≤ i := by
  rw [← a.length]
  exact List.getElem?_eq_none_iff.mp e
theorem sim_list {K : PySem.W.Frag} {ps : Pl} {p n : Nat} {a : Addr} (ea : ps[p]? = some a) : SimI T ps ⟨n, nxSeq p⟩ (Itl K a) := by
  intro qs h H i pre vw
  have eq := at_pre pre ea
  show NxOk T qs H (Itl K a) i (nxSeq p i h)
  unfold nxSeq
  split
  · rename_i xs e1
    obtain ⟨vs, rr, eH⟩ := vw.ob _ a _ eq e1
    split
    · rename_i w ew
      obtain ⟨v, ev, wv⟩ := paired_get rr ew
      refine ⟨⟨vs, v, SqL.of eH, ev⟩, fun x H' y => ?_⟩
      obtain ⟨rfl, y⟩ := y
      have z := y vs (SqL.of eH)
      rw [ev] at z
      cases z
      exact ⟨qs, Step.refl _ _, vw, wv⟩
    · rename_i ew
      exact ⟨vs, SqL.of eH, paired_none rr ew⟩
  · rename_i xs e1
    obtain ⟨vs, ob, rr, eH⟩ := vw.ob _ a _ eq e1
    split
    · rename_i w ew
      obtain ⟨v, ev, wv⟩ := paired_get rr ew
      refine ⟨⟨vs, v, .inl (.inr ⟨ob, eH⟩), ev⟩, fun x H' y => ?_⟩
      obtain ⟨rfl, y⟩ := y
      have z := y vs (.inl (.inr ⟨ob, eH⟩))
      rw [ev] at z
      cases z
      exact ⟨qs, Step.refl _ _, vw, wv⟩
    · rename_i ew
      exact ⟨vs, .inl (.inr ⟨ob, eH⟩), paired_none rr ew⟩
  · trivial
theorem sim_tup {K : PySem.W.Frag} (hK : T.K = K) {ps : Pl} {n : Nat} {a : Addr} {xs : List W} {vs : List V} (ht : ps.tu a vs) (wp : Paired (WV ps) xs vs) : SimI T ps ⟨n, nxTup xs⟩ (Itt K a) := by
  intro qs h H i pre vw
  subst hK
  have eH := (vw.tup a vs (pre.2 _ _ ht)).sq
  have rr := WVs.mono pre wp
  show NxOk T qs H (Itt T.K a) i (nxTup xs i h)
  unfold nxTup
  split
  · rename_i w ew
    obtain ⟨v, ev, wv⟩ := paired_get rr ew
    refine ⟨⟨vs, v, eH, ev⟩, fun x H' y => ?_⟩
    obtain ⟨rfl, y⟩ := y
    have z := y vs (eH)
    rw [ev] at z
    cases z
    exact ⟨qs, Step.refl _ _, vw, wv⟩
  · rename_i ew
    exact ⟨vs, eH, paired_none rr ew⟩
/-- for x in e: a list or a tuple -/
theorem si_seq {e : Expr} {fe : Ws → Hv → Res W} (he : SE T X e fe) (hK : T.K = X.K := by rfl) : SI T X tg e (mSrc fe) := fun E cn => ⟨fun pins s σ H R I h => by
  obtain ⟨ps, r, hv, es, vw, gd⟩ := h
  have key : (iList X.K (tE T E fe) σ H R) ∨ (iTup X.K (tE T E fe) σ H R) := by
    unfold mSrc at gd
    cases q : fe r hv with
    | bad => rw [q] at gd; exact gd.elim
    | exc c d h1 =>
      rw [q] at gd
      exact .inl ⟨ps, r, hv, es, vw, by rw [q]; exact gd⟩
    | val w h1 =>
      rw [q] at gd
      have g1 : Good T (SimI T) ps H (srcOf w h1) R _ := gd
      unfold srcOf at g1
      split at g1
      · rename_i p
        split at g1
        · rename_i xs e1
          refine .inl ⟨ps, r, hv, es, vw, ?_⟩
          rw [q]
          intro qs H' v st vw' wv
          obtain ⟨a, ea, rfl⟩ := wv
          obtain ⟨vs, rr, eH⟩ := vw'.ob _ a _ ea e1
          exact ⟨a, rfl, ⟨vs, SqL.of eH⟩, g1 qs H' _ st vw' (sim_list ea)⟩
        · rename_i xs e1
          refine .inl ⟨ps, r, hv, es, vw, ?_⟩
          rw [q]
          intro qs H' v st vw' wv
          obtain ⟨a, ea, rfl⟩ := wv
          obtain ⟨vs, ob, rr, eH⟩ := vw'.ob _ a _ ea e1
          exact ⟨a, rfl, ⟨vs, .inl (.inr ⟨ob, eH⟩)⟩, g1 qs H' _ st vw' (sim_list ea)⟩
        · exact g1.elim
      · rename_i xs
        refine .inr ⟨ps, r, hv, es, vw, ?_⟩
        rw [q]
        intro qs H' v st vw' wv
        obtain ⟨a, vs, rfl, ht, rr⟩ := wv.tup_of
        exact ⟨a, rfl, ⟨vs, hK ▸ TupAt.sq (vw'.tup a vs ht)⟩, g1 qs H' _ st vw' (sim_tup hK ht rr)⟩
      · exact g1.elim
  rcases key with k | k
  · exact (pi_list (he E cn)).run pins s σ H R I k
  · exact (pi_tup (he E cn)).run pins s σ H R I k⟩
/-! ### range -/
def nxR (lo : Int) (n : Nat) : Nat → Hv → Nxt := fun i h => if i < n then .item (.int (lo + i)) h else .stop
theorem sim_range {ps : Pl} {lo : Int} {n m : Nat} : SimI T ps ⟨m, nxR lo n⟩ (Itr lo n) := by
  intro qs h H i pre vw
  show NxOk T qs H (Itr lo n) i (nxR lo n i h)
  unfold nxR
  split
  · rename_i hi
    refine ⟨hi, fun x H' y => ?_⟩
    obtain ⟨rfl, rfl⟩ := y
    exact ⟨qs, Step.refl _ _, vw, rfl⟩
  · rename_i hi
    exact Nat.le_of_not_lt hi
def rgB (i : Int) : Bool := decide (-4611686018427387904 ≤ i) && decide (i < 4611686018427387904)
def srcR (ws : List W) (h : Hv) : Res Src := match ws with
  | [.int j] => if rgB j then .val ⟨j.toNat + 1, nxR 0 j.toNat⟩ h else .bad
  | [.int i, .int j] => if rgB i && rgB j then .val ⟨(j - i).toNat + 1, nxR i (j - i).toNat⟩ h else .bad
  | _ => .bad
def mRng (g : Ws → Hv → Res (List W)) : Ws → Hv → Res Src := fun r h => (g r h).bind srcR
theorem rgB_ok {i : Int} (h : rgB i = true) : -(2 ^ 62) ≤ i ∧ i < 2 ^ 62 := by
  unfold rgB at h
  rw [Bool.and_eq_true] at h
  have e : (2 : Int) ^ 62 = 4611686018427387904 := by decide
  rw [e]
  exact ⟨of_decide_eq_true h.1, of_decide_eq_true h.2⟩
theorem si_range1 {a : Expr} {fa : Ws → Hv → Res (List W)} {p pos : Pos} (hg : Gl X "range") (hm : X.mg "range" = none) (ha : SA T X [a] fa) (hl : ∀ r h ws h', fa r h = .val ws h' → ws.length = 1) (hs : starEach [a] X.env = [(false, eval a X.env)] := by rfl) :
    SI T X tg (.Call (.Name "range" p) [a] [] pos) (mRng fa) := fun E cn => ⟨fun pins s σ H R I h => (pi_range1 hg hm (ha E cn) hs).run pins s σ H R I (by
  obtain ⟨ps, r, hv, es, vw, gd⟩ := h
  refine ⟨ps, r, hv, es, vw, ?_⟩
  cases q : fa r hv with
  | bad => unfold mRng at gd; rw [q] at gd; exact gd.elim
  | exc c d h1 => unfold mRng at gd; rw [q] at gd; exact gd
  | val ws h1 =>
    unfold mRng at gd
    rw [q] at gd
    have g1 : Good T (SimI T) ps H (srcR ws h1) R _ := gd
    have hw := hl r hv ws h1 q
    intro qs H' vs st vw' wv
    unfold srcR at g1
    split at g1
    · split at g1
      · rename_i j hj
        obtain ⟨v, rfl, e⟩ := one_of wv
        cases e
        obtain ⟨b1, b2⟩ := rgB_ok hj
        exact ⟨j, rfl, b1, b2, g1 qs H' _ st vw' sim_range⟩
      · exact g1.elim
    · simp at hw
    · exact g1.elim)⟩
theorem si_range2 {a b : Expr} {fa : Ws → Hv → Res (List W)} {p pos : Pos} (hg : Gl X "range") (hm : X.mg "range" = none) (ha : SA T X [a, b] fa) (hl : ∀ r h ws h', fa r h = .val ws h' → ws.length = 2) (hs : starEach [a, b] X.env = [(false, eval a X.env), (false, eval b X.env)] := by rfl) (hs2 : starEach [b] X.env = [(false, eval b X.env)] := by rfl) :
    SI T X tg (.Call (.Name "range" p) [a, b] [] pos) (mRng fa) := fun E cn => ⟨fun pins s σ H R I h => (pi_range2 hg hm (ha E cn) hs hs2).run pins s σ H R I (by
  obtain ⟨ps, r, hv, es, vw, gd⟩ := h
  refine ⟨ps, r, hv, es, vw, ?_⟩
  cases q : fa r hv with
  | bad => unfold mRng at gd; rw [q] at gd; exact gd.elim
  | exc c d h1 => unfold mRng at gd; rw [q] at gd; exact gd
  | val ws h1 =>
    unfold mRng at gd
    rw [q] at gd
    have g1 : Good T (SimI T) ps H (srcR ws h1) R _ := gd
    have hw := hl r hv ws h1 q
    intro qs H' vs st vw' wv
    unfold srcR at g1
    split at g1
    · simp at hw
    · split at g1
      · rename_i i j hj
        rw [Bool.and_eq_true] at hj
        obtain ⟨v, v', rfl, e, e'⟩ := pair_of wv
        cases e; cases e'
        obtain ⟨b1, b2⟩ := rgB_ok hj.1
        obtain ⟨b3, b4⟩ := rgB_ok hj.2
        exact ⟨i, j, rfl, ⟨b1, b2, b3, b4⟩, g1 qs H' _ st vw' sim_range⟩
      · exact g1.elim
    · exact g1.elim)⟩
theorem len_cons {f : Ws → Hv → Res W} {g : Ws → Hv → Res (List W)} {n : Nat} (hg : ∀ r h ws h', g r h = .val ws h' → ws.length = n) : ∀ r h ws h', mCons f g r h = .val ws h' → ws.length = n + 1 := by
  intro r h ws h' e
  unfold mCons at e
  cases q : f r h with
  | bad => rw [q] at e; cases e
  | exc c d h1 => rw [q] at e; cases e
  | val w h1 =>
    rw [q] at e
    cases q2 : g r h1 with
    | bad => simp only [Res.bind, q2] at e; cases e
    | exc c d h1 => simp only [Res.bind, q2] at e; cases e
    | val us h2 =>
      simp only [Res.bind, q2] at e
      cases e
      simp [hg _ _ _ _ q2]
theorem len_nil : ∀ (r : Ws) (h : Hv) (ws : List W) (h' : Hv), mNil r h = .val ws h' → ws.length = 0 := fun r h ws h' e => by
  unfold mNil at e
  cases e
  rfl
/-! ### enumerate -/
def nxEnum (p : Nat) : Nat → Hv → Nxt := fun i h => match h[p]? with
  | some (.lst xs) => (match xs[i]? with | some w => .item (.tup [.int i, w]) h | none => .stop)
  | some (.rol xs) => (match xs[i]? with | some w => .item (.tup [.int i, w]) h | none => .stop)
  | _ => .bad
theorem sim_enum {K : PySem.W.Frag} {ps : Pl} {p n : Nat} {a : Addr} (ea : ps[p]? = some a) : SimI T ps ⟨n, nxEnum p⟩ (Ite K a) := by
  intro qs h H i pre vw
  have eq := at_pre pre ea
  show NxOk T qs H (Ite K a) i (nxEnum p i h)
  unfold nxEnum
  have go : ∀ {vs : List V} {xs : List W}, Paired (WV qs) xs vs → SqL K H a vs → NxOk T qs H (Ite K a) i (match xs[i]? with | some w => .item (.tup [.int i, w]) h | none => .stop) := by
    intro vs xs rr sq
    split
    · rename_i w ew
      obtain ⟨v, ev, wv⟩ := paired_get rr ew
      refine ⟨⟨vs, v, sq, ev⟩, fun x H' y => ?_⟩
      obtain ⟨q, x', rfl, hq, rfl, y⟩ := y
      have z := y vs sq
      rw [ev] at z
      cases z
      obtain ⟨v1, s1⟩ := vw.tuple hq [.int (i : Nat), v]
      exact ⟨_, s1, v1, WV.tup_mk (.inr ⟨rfl, rfl⟩) (WVs.mono s1.pre (.cons rfl (.cons wv .nil)))⟩
    · rename_i ew
      exact ⟨vs, sq, paired_none rr ew⟩
  split
  · rename_i xs e1
    obtain ⟨vs, rr, eH⟩ := vw.ob _ a _ eq e1
    exact go rr (SqL.of eH)
  · rename_i xs e1
    obtain ⟨vs, ob, rr, eH⟩ := vw.ob _ a _ eq e1
    exact go rr (.inl (.inr ⟨ob, eH⟩))
  · trivial
def srcE (ws : List W) (h : Hv) : Res Src := match ws with
  | [.ref p] => (match h[p]? with
    | some (.lst xs) => .val ⟨xs.length + 1, nxEnum p⟩ h
    | some (.rol xs) => .val ⟨xs.length + 1, nxEnum p⟩ h
    | _ => .bad)
  | _ => .bad
def mEnum (g : Ws → Hv → Res (List W)) : Ws → Hv → Res Src := fun r h => (g r h).bind srcE
theorem si_enum {e : Expr} {fa : Ws → Hv → Res (List W)} {p pos tpos : Pos} {elts : List Expr} {kk : Nat} (hg : Gl X "enumerate") (hm : X.mg "enumerate" = none) (ha : SA T X [e] fa) (hs : starEach [e] X.env = [(false, eval e X.env)] := by rfl) :
    SI T X (.Tuple elts kk tpos) (.Call (.Name "enumerate" p) [e] [] pos) (mEnum fa) := fun E cn => ⟨fun pins s σ H R I h => (pi_enum hg hm (ha E cn) hs).run pins s σ H R I (by
  obtain ⟨ps, r, hv, es, vw, gd⟩ := h
  refine ⟨ps, r, hv, es, vw, ?_⟩
  cases q : fa r hv with
  | bad => unfold mEnum at gd; rw [q] at gd; exact gd.elim
  | exc c d h1 => unfold mEnum at gd; rw [q] at gd; exact gd
  | val ws h1 =>
    unfold mEnum at gd
    rw [q] at gd
    have g1 : Good T (SimI T) ps H (srcE ws h1) R _ := gd
    intro qs H' vs st vw' wv
    unfold srcE at g1
    split at g1
    · obtain ⟨v, rfl, a, ea, rfl⟩ := one_of wv
      split at g1
      · rename_i xs e1
        obtain ⟨vs, rr, eH⟩ := vw'.ob _ a _ ea e1
        exact ⟨a, vs, rfl, SqL.of eH, g1 qs H' _ st vw' (sim_enum ea)⟩
      · rename_i xs e1
        obtain ⟨vs, ob, rr, eH⟩ := vw'.ob _ a _ ea e1
        exact ⟨a, vs, rfl, .inl (.inr ⟨ob, eH⟩), g1 qs H' _ st vw' (sim_enum ea)⟩
      · exact g1.elim
    · exact g1.elim)⟩
end
end VL
end
section
namespace VL
open PySem L2

/-! ### comprehensions: one name, at most one if -/
def noX {α : Type} : Res α → Res α
  | .exc _ _ _ => .bad
  | x => x
theorem good_noX {α β γ δ : Type} {T : Tx} {R : Pl → α → β → Prop} {S : Pl → γ → δ → Prop} {ps : Pl} {H : Hp} {x : Res α} {k : α → Hv → Res γ} {Q : δ → Hp → Prop} {E : XK} (g : Good T S ps H ((noX x).bind k) Q E) :
    Good T R ps H x (Mid T R S ps H k Q E) (fun _ _ _ => False) := by
  cases x with
  | val w h => exact fun qs H' v s vw rv => ⟨qs, w, h, s, vw, rv, Good.step g s⟩
  | exc c d h => exact g.elim
  | bad => exact g
def compM (nx : Nat → Hv → Nxt) (i : Nat) (t : Ws → Hv → Res Bool) (f : Ws → Hv → Res W) (p : Nat) : Nat → Nat → Ws → Hv → Res W
  | 0, _, _, _ => .bad
  | n + 1, k, r, h => match nx k h with
    | .stop => .val (.ref p) h
    | .bad => .bad
    | .item w h1 => (noX (t (r.set i (some w)) h1)).bind fun b h2 => if b then ((noX (f (r.set i (some w)) h2)).bind fun y h3 => match h3[p]? with
        | some (.lst acc) => if acc.length < 100000 then compM nx i t f p n (k + 1) r (h3.set p (.lst (acc ++ [y]))) else .bad
        | _ => .bad) else compM nx i t f p n (k + 1) r h2
def mLc (src : Ws → Hv → Res Src) (i : Nat) (t : Ws → Hv → Res Bool) (f : Ws → Hv → Res W) : Ws → Hv → Res W := fun r h => (src r h).bind fun S h1 => compM S.nx i t f h1.length S.n 0 r (h1 ++ [.lst []])
abbrev No : WX := fun _ _ _ _ => False
theorem cn_no {X : Cx} {s : Shared} {H : Hp} {scope : Scope} {env : Env} {fp : List Addr} : Cn (X.blk s H scope env fp) No := ⟨takes0, PassesOwn.never⟩
section
variable {T : Tx} {X : Cx} {elt iter : Expr} {ifs : List Expr} {scope : Scope} {pos px : Pos} {src : Ws → Hv → Res Src} {t : Ws → Hv → Res Bool} {f : Ws → Hv → Res W} {x : Str}
theorem lc_read (i : Nat) {E : WX} {s : St} {H : Hp} {Q : VK} {tt : TT} (htt : ∀ s H Q, tT T No t s H Q → tt s H Q) (h : tE T E (mLc src i t f) s H Q) : tLc (tI T E src) (gName i) tt (tE T No f) [i] s H Q := by
  obtain ⟨ps, r, hv, es, vw, gd⟩ := h
  refine ⟨ps, r, hv, es, vw, (Good.bind (R := SimI T) (S := WV) gd).imp (fun J H1 q => ?_) fun _ _ _ z => z⟩
  obtain ⟨qs, S, h1, st, vw1, sim, g1⟩ := q
  intro D hD
  obtain ⟨vw2, st2, e2⟩ := vw1.alloc hD (o := .lst []) (u := .lst []) ⟨[], .nil, upd_same⟩
  have pq := st2.pre
  refine ⟨fun k m H => ∃ ps h, Pl.Le (qs ++ [D]) ps ∧ ES ps r s ∧ View T ps h H ∧ Good T WV ps H (compM S.nx i t f h1.length m k r h) Q (fun c d H' => E c d s H'), ⟨S.n, qs ++ [D], _, Pl.Le.refl _, (es.mono st.pre).mono pq, vw2, Good.step g1 st2⟩, ?_⟩
  rintro k m H3 ⟨rs, h3, pre, es3, vw3, g3⟩
  cases m with
  | zero => exact g3.elim
  | succ m =>
    have ok := sim rs h3 H3 k (pq.trans pre) vw3
    unfold compM at g3
    have eD := at_pre pre e2
    cases q : S.nx k h3 with
    | bad => rw [q] at g3; exact g3.elim
    | stop =>
      rw [q] at g3 ok
      exact .inl ⟨ok, g3 rs H3 _ (Step.refl _ _) vw3 ⟨D, eD, rfl⟩⟩
    | item w h4 =>
      rw [q] at g3 ok
      refine .inr ⟨ok.1, fun H => ∃ ps h, Pl.Le (qs ++ [D]) ps ∧ ES ps r s ∧ View T ps h H ∧ Good T WV ps H (compM S.nx i t f h1.length m (k + 1) r h) Q (fun c d H' => E c d s H'), fun H' z => ⟨m, Nat.lt_succ_self m, z⟩, fun v H4 y => ?_⟩
      obtain ⟨ts, st4, vw4, wv⟩ := ok.2 v H4 y
      have g4 := g3.step st4
      dsimp only at g4
      have es4 : ES ts (r.set i (some w)) ((wipe s [i]).set i (some v)) := by
        show ES ts (r.set i (some w)) ((s.set i none).set i (some v))
        rw [List.set_set]
        exact (es3.mono st4.pre).set i wv
      refine ⟨?_, htt _ _ _ ⟨ts, r.set i (some w), h4, es4, vw4, (good_noX (R := BEq2) (S := WV) g4).imp (fun b H5 q5 => ?_) fun _ _ _ z => z⟩⟩
      · show (((s.set i none).set i (some v)).set i none) = s.set i none
        rw [List.set_set, List.set_set]
      · obtain ⟨us, b', h5, st5, vw5, eb, g5⟩ := q5
        cases eb
        have es5 := es4.mono st5.pre
        have esr := (es3.mono st4.pre).mono st5.pre
        have pre5 := (pre.trans st4.pre).trans st5.pre
        cases b with
        | false => exact iteF ⟨us, h5, pre5, esr, vw5, g5⟩
        | true =>
          refine iteT ⟨us, r.set i (some w), h5, es5, vw5, (good_noX (R := WV) (S := WV) g5).imp (fun yv H6 q6 => ?_) fun _ _ _ z => z⟩
          obtain ⟨vs, wy, h6, st6, vw6, wvy, g6⟩ := q6
          dsimp only at g6
          split at g6
          · rename_i acc e6
            split at g6
            · rename_i hl
              have eD6 := at_pre (pre5.trans st6.pre) e2
              obtain ⟨av, rr, eH⟩ := vw6.ob _ D _ eD6 e6
              have l1 : acc.length = av.length := rr.length
              obtain ⟨vw7, st7⟩ := vw6.put eD6 (o := .lst (acc ++ [wy])) (u := .lst (av ++ [yv])) ⟨_, paired_app rr (.cons wvy .nil), upd_same⟩ (notX eH)
              exact ⟨av, eH, Nat.lt_of_lt_of_le (l1 ▸ hl) (by decide), vs, _, pre5.trans st6.pre, esr.mono st6.pre, vw7, Good.step g6 st7⟩
            · exact g6.elim
          · exact g6.elim
def mYes : Ws → Hv → Res Bool := fun _ h => .val true h
theorem yes_read {s : St} {H : Hp} {Q : Bool → Hp → Prop} (h : tT T No mYes s H Q) : tYes s H Q := by
  obtain ⟨ps, r, hv, es, vw, gd⟩ := h
  exact Good.now (R := BEq2) gd vw rfl
theorem se_lc (i : Nat) (hN : X.N.Nodup) (hi : SI T X (.Name x px) iter src) (ok : BlkOk X.N X.env.scope scope [(x, i)]) (hx : ∀ (s : Shared) (H : Hp) (C : Addr) (cl : List (Str × Addr)) (fp : List Addr), PG (X.blk s H scope (compEnvC scope cl C X.env) fp) (.Name x px) (gName i))
    (he : ∀ (s : Shared) (H : Hp) (C : Addr) (cl : List (Str × Addr)) (fp : List Addr), SE T (X.blk s H scope (compEnvC scope cl C X.env) fp) elt f) (hc : X.calm = true := by rfl) (hs : ∀ x, foldedSetIterable iter X.env x = pure x := by intro _; rfl) :
    SE T X (.ListComp elt [⟨.Name x px, iter, [], 0⟩] scope pos) (mLc src i mYes f) := fun E cn => PEi (pe_lc (own := [(x, i)]) hc hN (hi E cn) ok hx (fun _ _ _ _ _ => pts_nil) (fun s H C cl fp => he s H C cl fp No cn_no) hs) fun s H Q h => lc_read i (fun _ _ _ z => yes_read z) h
theorem se_lcIf (i : Nat) {c : Expr} (hN : X.N.Nodup) (hi : SI T X (.Name x px) iter src) (ok : BlkOk X.N X.env.scope scope [(x, i)]) (hx : ∀ (s : Shared) (H : Hp) (C : Addr) (cl : List (Str × Addr)) (fp : List Addr), PG (X.blk s H scope (compEnvC scope cl C X.env) fp) (.Name x px) (gName i))
    (ht : ∀ (s : Shared) (H : Hp) (C : Addr) (cl : List (Str × Addr)) (fp : List Addr), STt T (X.blk s H scope (compEnvC scope cl C X.env) fp) c t)
    (he : ∀ (s : Shared) (H : Hp) (C : Addr) (cl : List (Str × Addr)) (fp : List Addr), SE T (X.blk s H scope (compEnvC scope cl C X.env) fp) elt f) (hc : X.calm = true := by rfl) (hs : ∀ x, foldedSetIterable iter X.env x = pure x := by intro _; rfl) :
    SE T X (.ListComp elt [⟨.Name x px, iter, [c], 0⟩] scope pos) (mLc src i t f) := fun E cn => PEi (pe_lc (own := [(x, i)]) hc hN (hi E cn) ok hx (fun s H C cl fp => pts_one (ht s H C cl fp No cn_no)) (fun s H C cl fp => he s H C cl fp No cn_no) hs) fun s H Q h => lc_read i (fun _ _ _ z => z) h
end

/-! ### slices of lists -/
def mPart (o : Option (Ws → Hv → Res W)) : Ws → Hv → Res (Option Int) := match o with
  | none => fun _ h => .val none h
  | some f => fun r h => (f r h).bind fun w h1 => match w with
    | .int i => .val (some i) h1
    | _ => .bad
abbrev OEq2 : Pl → Option Int → Option Int → Prop := fun _ a b => a = b
def tO (T : Tx) (E : WX) (f : Ws → Hv → Res (Option Int)) : TO := fun s H Q => ∃ ps r h, ES ps r s ∧ View T ps h H ∧ Good T OEq2 ps H (f r h) Q (fun c d H' => E c d s H')
def SO (T : Tx) (X : Cx) (e : Option Expr) (f : Ws → Hv → Res (Option Int)) : Prop := ∀ E, Cn X E → PO X e (tO T E f)
def cutW (xs : List W) (lo hi : Option Int) : List W := (xs.drop (HT.sIx xs.length 0 lo)).take (HT.sIx xs.length xs.length hi - HT.sIx xs.length 0 lo)
def mCut (w : W) (lo hi : Option Int) (h : Hv) : Res W := match w with
  | .ref p => (match h[p]? with
    | some (.lst xs) => mNew (.lst (cutW xs lo hi)) h
    | some (.rol xs) => mNew (.lst (cutW xs lo hi)) h
    | _ => .bad)
  | _ => .bad
def mSl (f : Ws → Hv → Res W) (lo hi : Ws → Hv → Res (Option Int)) : Ws → Hv → Res W := fun r h => (f r h).bind fun w h1 => (lo r h1).bind fun l h2 => (hi r h2).bind fun u h3 => mCut w l u h3
section
variable {T : Tx} {X : Cx} {e : Expr} {f : Ws → Hv → Res W} {lo hi : Option Expr} {fl fh : Ws → Hv → Res (Option Int)} {p2 pos : Pos}
theorem POi {o : Option Expr} {t t' : TO} (h : PO X o t) (k : ∀ s H Q, t' s H Q → t s H Q) : PO X o t' := ⟨fun pins s σ H Q I hw => h.run pins s σ H Q I (k _ _ _ hw)⟩
theorem so_none : SO T X none (mPart none) := fun E cn => POi po_none fun s H Q ⟨ps, r, h, es, vw, g⟩ => Good.now (R := OEq2) g vw rfl
theorem so_some (h : SE T X e f) : SO T X (some e) (mPart (some f)) := fun E cn => POi (po_some (h E cn)) fun s H Q ⟨ps, r, hv, es, vw, gd⟩ => by
  refine ⟨ps, r, hv, es, vw, (Good.bind (R := WV) (S := OEq2) gd).imp (fun v H1 q => ?_) fun _ _ _ z => z⟩
  obtain ⟨qs, w, h1, st, vw1, wv, g1⟩ := q
  dsimp only at g1
  split at g1
  · cases wv
    exact ⟨_, rfl, Good.now (R := OEq2) g1 vw1 rfl⟩
  · exact g1.elim
theorem paired_cut {ps : Pl} {xs : List W} {vs : List V} (a : Paired (WV ps) xs vs) (lo hi : Option Int) : Paired (WV ps) (cutW xs lo hi) (cutV vs lo hi) := by
  unfold cutW cutV
  rw [a.length]
  exact paired_take (paired_drop a _) _
theorem se_slice (he : SE T X e f) (hl : SO T X lo fl) (hh : SO T X hi fh) : SE T X (.Subscript e (.Slice lo hi none p2) pos) (mSl f fl fh) := fun E cn => PEi (pe_slice sl_list (he E cn) (hl E cn) (hh E cn)) fun s H Q ⟨ps, r, hv, es, vw, gd⟩ => by
  refine ⟨ps, r, hv, es, vw, (Good.bind (R := WV) (S := WV) gd).imp (fun v H1 q => ?_) fun _ _ _ z => z⟩
  obtain ⟨qs, w, h1, st, vw1, wv, g1⟩ := q
  refine ⟨qs, r, h1, es.mono st.pre, vw1, (Good.bind (R := OEq2) (S := WV) g1).imp (fun l H2 q2 => ?_) fun _ _ _ z => z⟩
  obtain ⟨rs, l', h2, st2, vw2, e2, g2⟩ := q2
  cases e2
  refine ⟨rs, r, h2, (es.mono st.pre).mono st2.pre, vw2, (Good.bind (R := OEq2) (S := WV) g2).imp (fun u H3 q3 => ?_) fun _ _ _ z => z⟩
  obtain ⟨ts, u', h3, st3, vw3, e3, g3⟩ := q3
  cases e3
  have wv3 := (wv.mono st2.pre).mono st3.pre
  dsimp only at g3
  unfold mCut at g3
  split at g3
  · obtain ⟨a, ea, rfl⟩ := wv3
    split at g3
    · rename_i xs e1
      obtain ⟨vs, rr, eH⟩ := vw3.ob _ a _ ea e1
      exact ⟨a, vs, rfl, SqL.of eH, fun p hp => good_new vw3 g3 (fun H' p' e => ⟨_, paired_cut rr _ _, e⟩) hp⟩
    · rename_i xs e1
      obtain ⟨vs, ob, rr, eH⟩ := vw3.ob _ a _ ea e1
      exact ⟨a, vs, rfl, .inl (.inr ⟨ob, eH⟩), fun p hp => good_new vw3 g3 (fun H' p' e => ⟨_, paired_cut rr _ _, e⟩) hp⟩
    · exact g3.elim
  · exact g3.elim
end

/-! ### xs.append(e) -/
def mApp (fo fe : Ws → Hv → Res W) : Ws → Hv → Res W := fun r h => (fo r h).bind fun o h1 => match o with
  | .ref p => (match h1[p]? with
    | some (.lst _) => (fe r h1).bind fun w h2 => (match h2[p]? with
      | some (.lst xs) => if xs.length < 100000 then .val .non (h2.set p (.lst (xs ++ [w]))) else .bad
      | _ => .bad)
    | _ => .bad)
  | _ => .bad
section
variable {T : Tx} {X : Cx} {o e : Expr} {fo fe : Ws → Hv → Res W} {pos apos cpos : Pos}
theorem se_append (ho : SE T X o fo) (he : SE T X e fe) (hs : starEach [e] X.env = (false, eval e X.env) :: starEach [] X.env := by rfl)
    (hp : ∀ {to : TE} {t : TA}, PE X o to → PA X [e] t → PE X (.Call (.Attribute o "append" apos) [e] [] cpos) (tBM X.K "list" rAppend to t) := by exact fun a b => pe_bm PySem.F.plainAttrs_list PySem.F.slot_list_append PySem.F.type_list_append mt_append a b) :
    SE T X (.Call (.Attribute o "append" apos) [e] [] cpos) (mApp fo fe) := fun E cn => PEi (hp (ho E cn) (pa_cons (he E cn) pa_nil hs)) fun s H Q ⟨ps, r, hv, es, vw, gd⟩ => by
  refine ⟨ps, r, hv, es, vw, (Good.bind (R := WV) (S := WV) gd).imp (fun v H1 q => ?_) fun _ _ _ z => z⟩
  obtain ⟨qs, w, h1, st, vw1, wv, g1⟩ := q
  dsimp only at g1
  split at g1
  · rename_i p
    obtain ⟨a, ea, rfl⟩ := wv
    split at g1
    · rename_i ys e1
      obtain ⟨vs, rr, eH⟩ := vw1.ob _ a _ ea e1
      refine ⟨.inl ⟨rfl, vs, SqL.of eH⟩, qs, r, h1, es.mono st.pre, vw1, (Good.bind (R := WV) (S := WV) g1).imp (fun y H2 q2 => ?_) fun _ _ _ z => z⟩
      obtain ⟨rs, wy, h2, st2, vw2, wvy, g2⟩ := q2
      dsimp only at g2
      split at g2
      · rename_i xs e2
        split at g2
        · rename_i hl
          have ea2 := at_pre st2.pre ea
          obtain ⟨us, r2, eH2⟩ := vw2.ob _ a _ ea2 e2
          have l1 : xs.length = us.length := r2.length
          obtain ⟨vw3, st3⟩ := vw2.put ea2 (o := .lst (xs ++ [wy])) (u := .lst (us ++ [y])) ⟨_, paired_app r2 (.cons wvy .nil), upd_same⟩ (notX eH2)
          exact ⟨a, us, y, rfl, rfl, eH2, Nat.lt_of_lt_of_le (l1 ▸ hl) (by decide), g2 _ _ _ st3 vw3 rfl⟩
        · exact g2.elim
      · exact g2.elim
    · exact g1.elim
  · exact g1.elim
end
end VL
end
section
namespace VL
open PySem L2 PySem.Spec PyProof.Rows

/-! ### raise of an own error with one field -/
def mRaise (C : String) (f : Str) (g : Ws → Hv → Res (List W)) : MS := fun r h => (g r h).andS r fun ws h1 => match ws with
  | [w] => .exc C (some h1.length) r (h1 ++ [.xd [(f, w)]])
  | _ => .bad
/-- __init__(self, f): self.f = f -/
def spInit (K : PySem.W.Frag) (C : Addr) (f : Str) : Sp := fun vs H Q _ => ∃ (a : Addr) (v : V), vs = [.ref a, v] ∧ H a = some (exo a C none) ∧ ∀ dx, H dx = none → dx ≠ a → Q .non (upd (upd H dx (exd dx [(f, v)])) a (exo a C (some dx)))
/-- what the text says of the error's class -/
structure ErrC (P : Program) (w : World) (K : PySem.W.Frag) (mg : Str → Option Value) (base : Heap) (x f : Str) (C : Addr) : Prop where
  oex : OexC K C
  mgC : mg x = some (.ref C)
  ini : ∃ fI fd, PySem.W.findIn K (.ref C) "__init__" = some (some (.ref fI)) ∧ PySem.W.typeIn K (.ref fI) = some (.type "function") ∧ FnOk P w K mg base CX0 1 fI fd ["self", f] (spInit K C f) ∧ Binds K fd ["self", f] []
section
variable {T : Tx} {X : Cx} {C : Addr} {cn9 : String} {x f : Str} {e : Expr} {g : Ws → Hv → Res (List W)} {p pos pos' : Pos}
theorem ss_raise (Z : ErrC X.prog X.w X.K X.mg X.base x f C) (hcv : T.cv cn9 = .ref C) (hr : Room 2 X.A) (hg : Gl X x) (ha : SA T X [e] g) (hc : X.calm = true := by rfl) (hdb : (x == ("__debug__" : Str)) = false := by decide)
    (he : starEach [e] X.env = (false, eval e X.env) :: starEach [] X.env := by rfl) (hpl : (backTo pos' (starEach [] X.env)).any (·.1) = false := by rfl) : SS T X (.Raise (some (.Call (.Name x p) [e] [] pos')) none pos) (mRaise cn9 f g) := fun E cn => by
  obtain ⟨fI, fd, h1, h2, h3, h4⟩ := Z.ini
  refine PSi (ps_raise hc cn.tk (pmk_oex Z.oex h1 h2 h3 hr h4 .nil pass0 hg Z.mgC (ha E cn) hdb he hpl)) fun D s H ⟨ps, r, hv, es, vw, gd⟩ => ?_
  refine ⟨ps, r, hv, es, vw, (good_andS (R := WVs) es gd).imp (fun vs H1 q => ?_) fun _ _ _ z => z⟩
  obtain ⟨qs, ws, hh, st, vw1, wv, es1, g1⟩ := q
  split at g1
  · rename_i w
    obtain ⟨v, rfl, wv1⟩ := one_of wv
    refine ⟨by simp, fun a na => ⟨a, v, rfl, upd_same, fun dx hd ne => ⟨rfl, dx, [(f, v)], upd_same, by rw [upd_ne ne, upd_same], ?_, ?_⟩⟩⟩
    · rw [upd_ne ne] at hd
      exact hd
    · rw [upd_ne ne] at hd
      have eqH : upd (del (upd (upd (upd H1 a (exo a C none)) dx (exd dx [(f, v)])) a (exo a C (some dx))) a) dx (.xd [(f, v)]) = upd H1 dx (.xd [(f, v)]) := by
        funext b
        by_cases hb : b = dx
        · rw [hb, upd_same, upd_same]
        · rw [upd_ne hb, upd_ne hb]
          by_cases ha : b = a
          · rw [ha, del_same, na]
          · rw [del_ne ha, upd_ne ha, upd_ne hb, upd_ne ha]
      rw [eqH]
      obtain ⟨vw2, st2, e2⟩ := vw1.alloc hd (o := .xd [(f, w)]) (u := .xd [(f, v)]) ⟨_, .cons ⟨rfl, wv1⟩ .nil, upd_same⟩
      rw [← hcv]
      exact g1 _ _ s (some dx) st2 vw2 (es1.mono st2.pre) ⟨dx, e2, rfl⟩
  · exact g1.elim
end

/-! ### try .. except x as n: a suite that returns -/
theorem View.known {T : Tx} {ps : Pl} {h : Hv} {H : Hp} (v : View T ps h H) {j : Nat} {a : Addr} (e : ps[j]? = some a) : View (T.known j a) ps h H := ⟨v.len, v.nd, v.ob, v.tab, ⟨v.fact, e⟩, v.tup, v.hold⟩
theorem View.less {T : Tx} {ps : Pl} {h : Hv} {H : Hp} {j : Nat} {a : Addr} (v : View (T.known j a) ps h H) : View T ps h H := ⟨v.len, v.nd, v.ob, v.tab, v.fact.1, v.tup, v.hold⟩
def mTry (i : Nat) (exm : String → Option Bool) (su : Nat → MS) (b : MS) : MS := fun r h => match b r h with
  | .exc c d r1 h1 => (match exm c with
    | some true => (match d with
      | some j => if i < r1.length then (match su j r1 h1 with
        | .rt w h2 => .rt w h2
        | _ => .bad) else .bad
      | none => .bad)
    | some false => .exc c d r1 h1
    | none => .bad)
  | y => y
section
variable {T : Tx} {X : Cx} {x n : Str} {c : Value} {body suite : List Stmt} {b0 : Stmt} {np pos pos' : Pos} {bM : MS} {sM : Addr → Nat → MS} {su : Nat → MS} {exm : String → Option Bool} {okc : Value → Prop}
theorem ss_try (i : Nat) (hN : X.N.Nodup) (hc : Names X x c) (hexm : ∀ v b, exm v = some b → PySem.W.exmOne X.K (T.cv v) c = some b) (hokc : ∀ v, exm v = some true → okc (T.cv v))
    (hb : ∀ (pn : List (Addr × Obj)) (xe : Value → Shared → Prop), SSs T (X.tr pn xe) body bM)
    (hsu : ∀ (a : Addr) (oe : Obj) (cls : Value) (dd : Addr) (pn : List (Addr × Obj)) (j : Nat), okc cls → Zc cls (some dd) oe → (∃ vs, oe.data = .fields vs) → SSs (T.known j dd) (X.suite a ((a, oe) :: pn)) (b0 :: suite) (sM a j))
    (hind : ∀ a j r h w h2, i < r.length → su j r h = .rt w h2 → sM a j (r.set i (some (.fix a))) h = .rt w h2)
    (hs : X.stack = X.env :: X.outer := by rfl) (hf : X.env.frame = some X.env.locals := by rfl) (hi : X.N[i]? = some n := by rfl) (hln : X.env.kindOf n = some .local := by rfl) :
    SS T X (.Try body [.ExceptHandler (some (.Name x np)) (some n) (b0 :: suite) pos'] [] [] pos) (mTry i exm su bM) := fun E cn => by
  let ts : Addr → Value → Option Addr → TS := fun a cls d D s H => okc cls ∧ ∃ j dd, d = some dd ∧ tS (T.known j dd) No (sM a j) D s H
  have base : PS X (.Try body [.ExceptHandler (some (.Name x np)) (some n) (b0 :: suite) pos'] [] [] pos) (fun D s H => tS T (wAs X.K c i ts E D) bM D s H) := ps_try_as (tb := fun W => tS T W bM) (ts := ts) hs hf hN hi hln hc cn.tk (fun W pn xe tk po => hb pn xe W ⟨tk, po⟩) fun a oe cls d pn hz hd => ⟨fun pins s σ H D I h => by
    obtain ⟨hk, j, dd, rfl, h⟩ := h
    exact ((hsu a oe cls dd pn j hk hz hd) No ⟨takes0, PassesOwn.never⟩).run pins s σ H D I h⟩
  refine ⟨fun pins s σ H D I h => base.run pins s σ H D I ?_⟩
  obtain ⟨ps, r, hv, es, vw, gd⟩ := h
  refine ⟨ps, r, hv, es, vw, ?_⟩
  unfold mTry at gd
  cases q : bM r hv with
  | nx r1 h1 => rw [q] at gd; exact gd
  | rt r1 h1 => rw [q] at gd; exact gd
  | bk r1 h1 => rw [q] at gd; exact gd
  | ct r1 h1 => rw [q] at gd; exact gd
  | bad => rw [q] at gd; exact gd
  | exc cv d r1 h1 =>
    rw [q] at gd
    intro qs H' s' e st vw' es' dv
    dsimp only at gd
    cases ex : exm cv with
    | none => rw [ex] at gd; exact gd.elim
    | some b =>
      rw [ex] at gd
      cases b with
      | false => exact ⟨false, hexm _ _ ex, (fun z => by cases z), fun _ => gd qs H' s' e st vw' es' dv⟩
      | true =>
        cases d with
        | none => exact gd.elim
        | some j =>
          obtain ⟨dd, ej, rfl⟩ := dv
          refine ⟨true, hexm _ _ ex, fun _ a ha => ?_, (fun z => by cases z)⟩
          dsimp only at gd
          split at gd
          · rename_i hl
            cases z : su j r1 h1 with
            | nx _ _ => rw [z] at gd; exact gd.elim
            | bk _ _ => rw [z] at gd; exact gd.elim
            | ct _ _ => rw [z] at gd; exact gd.elim
            | exc _ _ _ _ => rw [z] at gd; exact gd.elim
            | bad => rw [z] at gd; exact gd.elim
            | rt w h2 =>
              rw [z] at gd
              refine ⟨hokc _ ex, j, dd, rfl, qs, r1.set i (some (.fix a)), h1, es'.set i rfl, vw'.known ej, ?_⟩
              rw [hind a j r1 h1 _ _ hl z]
              exact fun rs H2 v st2 vw2 wv => gd rs H2 v (st.trans st2) vw2.less wv
          · exact gd.elim
end

/-! ### the caught error's field -/
def mXf (j : Nat) (f : Str) : Ws → Hv → Res W := fun _ h => match h[j]? with
  | some (.xd fs) => ofO (fs.lookup f) h
  | _ => .bad
def mXfA (i : Nat) (a : Addr) (j : Nat) (f : Str) : Ws → Hv → Res W := fun r h => match r[i]? with
  | some (some (.fix b)) => if b = a then mXf j f r h else .bad
  | _ => .bad
theorem paired_lookup {ps : Pl} {f : Str} : ∀ {fs : List (Str × W)} {vs : List (Str × V)} {w : W}, Paired (PW2 ps) fs vs → fs.lookup f = some w → ∃ v, vs.lookup f = some v ∧ WV ps w v
  | [], _, _, .nil, e => by cases e
  | (k, u) :: fs, (k', u') :: vs, w, .cons r t, e => by
    obtain ⟨rfl, r⟩ := r
    rw [List.lookup_cons] at e ⊢
    cases q : f == k with
    | true => rw [q] at e; cases e; exact ⟨u', by simp, r⟩
    | false =>
      rw [q] at e
      obtain ⟨v, h1, h2⟩ := paired_lookup t e
      exact ⟨v, by simpa [q] using h1, h2⟩
section
variable {T : Tx} {X : Cx}
theorem se_xf (i : Nat) {a dd C : Addr} {oe : Obj} {cls : Value} {pn : List (Addr × Obj)} {j : Nat} {n f : Str} {p pos : Pos} (Z : XfC X.K C) (hno : PySem.W.findIn X.K (.ref C) f = some none) (hz : Zc cls (some dd) oe) (hf : ∃ vs, oe.data = .fields vs) (hcls : cls = .ref C)
    (hN : X.N[i]? = some n := by rfl) (hv : Vis X.env.scope n := by first | exact Or.inl rfl | exact Or.inr (Or.inl rfl) | exact Or.inr (Or.inr rfl)) (hd : (n == ("__debug__" : Str)) = false := by decide) (hcd : (n == ("__classdict__" : Str)) = false := by decide)
    (hb : attributeBase (.Name n p) f X.env (eval (.Name n p) X.env) = eval (.Name n p) X.env := by rfl) :
    SE (T.known j dd) (X.suite a ((a, oe) :: pn)) (.Attribute (.Name n p) f pos) (mXfA i a j f) := fun E cn => PEi (pe_xf Z hno hz hf (pe_var (X := X.suite a ((a, oe) :: pn)) (i := i) hN hv hd hcd) hb) fun s H Q ⟨ps, r, hv, es, vw, gd⟩ => by
  unfold mXfA at gd
  split at gd
  · rename_i b eb
    split at gd
    · rename_i hba
      subst hba
      obtain ⟨v, e1, e2⟩ := es.2 i _ eb
      cases e2
      unfold mXf at gd
      split at gd
      · rename_i fs ej
        obtain ⟨w, ew, g⟩ := ofO_of gd
        have ed : ps[j]? = some dd := vw.fact.2
        obtain ⟨vs, rr, eH⟩ := vw.ob _ dd _ ed ej
        obtain ⟨v, ev, wv⟩ := paired_lookup rr ew
        exact ⟨_, e1, rfl, hcls, dd, vs, v, rfl, eH, ev, Good.now g vw wv⟩
      · exact gd.elim
    · exact gd.elim
  · exact gd.elim
end

/-! ### a def -/
def startW (N : List Str) (ws : List W) : Ws := ws.map some ++ List.replicate (N.length - ws.length) none
def mDef (N : List Str) (b : MS) : MFn := fun ws h => match b (startW N ws) h with
  | .rt w h1 => .val w h1
  | .nx _ h1 => .val .non h1
  | .exc c d _ h1 => .exc c d h1
  | _ => .bad
theorem es_start {N : List Str} {ps : Pl} {ws : List W} {vs : List V} (h : Paired (WV ps) ws vs) : ES ps (startW N ws) (L2.start N vs) := by
  have hl : ws.length = vs.length := h.length
  refine ⟨by simp [startW, L2.start, hl], fun i w e => ?_⟩
  unfold startW at e
  unfold L2.start
  by_cases hi : i < ws.length
  · rw [List.getElem?_append_left (by simpa using hi)] at e
    rw [List.getElem?_append_left (by simpa [← hl] using hi)]
    rw [List.getElem?_map] at e ⊢
    cases q : ws[i]? with
    | none => simp [q] at e
    | some w' =>
      rw [q] at e
      cases e
      obtain ⟨v, ev, wv⟩ := paired_get h q
      exact ⟨v, by rw [ev]; rfl, wv⟩
  · rw [List.getElem?_append_right (by simpa using Nat.le_of_not_lt hi)] at e
    rw [List.getElem?_replicate] at e
    split at e
    · cases e
    · cases e
section
variable {P : Program} {w : World} {K : PySem.W.Frag} {mg : Str → Option Value} {base : Heap} {T : Tx} {N qs : List Str} {x qual : Str} {st : Stmt} {f : Addr} {fd : FuncData} {k : Nat} {b : MS}
theorem def_read {vs : List V} {H : Hp} {Q : VK} {E : XK} (h : spV T qs.length (mDef N b) vs H Q E) : ∃ d, tS (T.hold d) (fun c d _ H' => E c d H') b { nx := fun _ H' => Q .non H', rt := Q } (L2.start N vs) H := by
  obtain ⟨hl, d9, ps, hv, ws, vw, wv, gd⟩ := h
  refine ⟨d9, ps, startW N ws, hv, es_start wv, vw, ?_⟩
  unfold mDef at gd
  cases q : b (startW N ws) hv with
  | nx r1 h1 => rw [q] at gd; exact fun rs H' s st vw' es => gd rs H' .non st vw' rfl
  | rt w1 h1 => rw [q] at gd; exact gd
  | bk _ _ => rw [q] at gd; exact gd.elim
  | ct _ _ => rw [q] at gd; exact gd.elim
  | exc c d r1 h1 => rw [q] at gd; exact fun rs H' s e st vw' es dv => gd rs H' e st vw' dv
  | bad => rw [q] at gd; exact gd.elim
/-- THE RULE for a def -/
theorem fn_def (F : Fun K x qual st f fd) (S : FnScope N qs (defScope st))
    (hb : ∀ (d9 : Hd) (cdv : Value) (A : Around) (outer : List Env) (s : Shared) (H : Hp) (E : XK), Room k (A.deeper (envOfC qual (defScope st) s.heap.objs.size f cdv)) → SSs (T.hold d9) (cxOf (L2.CX P w) P w K mg base N qual (defScope st) f cdv A outer s H E) (defBody st) b) :
    FnOk P w K mg base (L2.CX P w) (k + 1) f fd qs (spV T qs.length (mDef N b)) :=
  F.okX S (fun vs H Q E h => h.1) fun cdv A outer s H vs Q E hr h => (def_read h).elim fun d9 h => ⟨_, hb d9 cdv A outer s H E hr _ ⟨takes_of rfl rfl rfl rfl, passes_of rfl⟩, h⟩
end
end VL
end
section
namespace VL
open PySem L2 PySem.Spec PyProof.Rows

/-! ### defs that are called while no repr runs -/
structure FnG (P : Program) (w : World) (K : PySem.W.Frag) (mg : Str → Option Value) (base : Heap) (T : Tx) (k : Nat) (f : Addr) (n : Nat) (m : MFn) : Prop where
  run : ∀ (A : Around) (outer : List Env) (s : Shared) (H : Hp) (us : List Value) (vs : List V) (Q : VK) (E : XK), Room k A → A.guards = some [] → Env0 P w K mg base A outer s H → Vals vs us → spV T n m vs H Q E →
    codeAny (model P w) A (.call (.ref f) ⟨us, []⟩) (CR (L2.CX P w) outer P w H s Q E) s
theorem can_G {T : Tx} {X : Cx} {k : Nat} {f : Addr} {n : Nat} {m : MFn} (F : FnG X.prog X.w X.K X.mg X.base T k f n m) (hr : Room k X.A) (hg : X.A.guards = some []) : Can T X f n m := fun pins s σ H us vs Q E I r h => F.run X.A X.stack s H us vs Q E hr hg I.env0 r h
section
variable {P : Program} {w : World} {K : PySem.W.Frag} {mg : Str → Option Value} {base : Heap} {T : Tx} {N qs : List Str} {x qual : Str} {st : Stmt} {f : Addr} {fd : FuncData} {k : Nat} {b : MS}
/-- the def st stands at f, its code object is cdv -/
structure FunC (K : PySem.W.Frag) (x qual : Str) (st : Stmt) (f : Addr) (fd : FuncData) (cdv : Value) : Prop where
  ex : ∃ (oc : Value) (od : Option Addr) (kV doc pm : Value) (an : Option Addr) (ct : Value) (osl : Array (Option Value)),
    fd = PySem.W.fnOf x qual (defArgs st) (defBody st) (defScope st)
      .none kV doc pm an cdv ct ∧ K.lookup f = some ⟨oc, od, .func fd, osl⟩ ∧ PySem.W.codeIn K cdv qual = true
  kp : PySem.W.keepIn K (Value.ref f) = true
theorem Fun.code (F : Fun K x qual st f fd) : ∃ cdv, FunC K x qual st f fd cdv := by
  obtain ⟨oc, od, kV, doc, pm, an, cdv, ct, osl, e, l, c⟩ := F.ex
  exact ⟨cdv, ⟨oc, od, kV, doc, pm, an, ct, osl, e, l, c⟩, F.kp⟩
theorem fn_defC {cdv : Value} (F : FunC K x qual st f fd cdv) (S : FnScope N qs (defScope st)) (hbd : Binds K fd qs [])
    (hb : ∀ (d9 : Hd) (A : Around) (outer : List Env) (s : Shared) (H : Hp) (E : XK), Room k (A.deeper (envOfC qual (defScope st) s.heap.objs.size f cdv)) → A.guards = some [] → SSs (T.hold d9) (cxOf (L2.CX P w) P w K mg base N qual (defScope st) f cdv A outer s H E) (defBody st) b) :
    FnG P w K mg base T (k + 1) f qs.length (mDef N b) := ⟨fun A outer s H us vs Q E hr hg e0 r h => by
  obtain ⟨oc, od, kV, doc, pm, an, ct, osl, rfl, lk, hcd⟩ := F.ex
  have hl : vs.length = qs.length := h.1
  have kin : K.In s.heap := e0.mod.kin.keeps fun b o e => (e0.bs b o e).1
  have bt := hbd s us kin (by rw [List.append_nil, ← r.length]; exact hl)
  rw [List.append_nil] at bt
  exact LamX.run_ofS (N := N) (ps := qs) lk hcd S hr e0 bt r hl fun hr' => (def_read h).elim fun d9 h => ⟨_, hb d9 A outer s H E hr' hg _ ⟨takes_of rfl rfl rfl rfl, passes_of rfl⟩, h⟩⟩
theorem fn_defG (F : Fun K x qual st f fd) (S : FnScope N qs (defScope st)) (hbd : Binds K fd qs [])
    (hb : ∀ (d9 : Hd) (cdv : Value) (A : Around) (outer : List Env) (s : Shared) (H : Hp) (E : XK), Room k (A.deeper (envOfC qual (defScope st) s.heap.objs.size f cdv)) → A.guards = some [] → SSs (T.hold d9) (cxOf (L2.CX P w) P w K mg base N qual (defScope st) f cdv A outer s H E) (defBody st) b) :
    FnG P w K mg base T (k + 1) f qs.length (mDef N b) := by
  obtain ⟨cdv, C⟩ := Fun.code F
  exact fn_defC C S hbd (fun d9 => hb d9 cdv)
end

/-! ### heard(lambda: e): try: return call() / except x as n: a suite that returns -/
def mHeard (exm : String → Option Bool) (su : Nat → MS) (fb : Ws → Hv → Res W) : Ws → Hv → Res W := fun r h => match fb r h with
  | .val w h1 => .val w h1
  | .exc c (some j) h1 => (match exm c with
    | some true => (match su j [none, none] h1 with
      | .rt w h2 => .val w h2
      | _ => .bad)
    | _ => .bad)
  | _ => .bad
section
variable {X : Cx} {T : Tx} {sM : Addr → Nat → MS} {su : Nat → MS} {exm : String → Option Bool} {okc : Value → Prop} {cx : Value}
/-- what the suite is to do with an error of the class cls whose own dict is at d -/
def tSuite (T : Tx) (okc : Value → Prop) (sM : Addr → Nat → MS) : Addr → Value → Option Addr → TS := fun a cls d D s H => okc cls ∧ ∃ j dd, d = some dd ∧ tS (T.known j dd) No (sM a j) D s H
def wHeard (K : PySem.W.Frag) (T : Tx) (cx : Value) (okc : Value → Prop) (sM : Addr → Nat → MS) (Q : VK) : XK := fun cls d H => ∃ b, PySem.W.exmOne K cls cx = some b ∧
  (b = true → ∀ (D : Ends) (s : L2.St) (a : Addr), D.rt = Q → s.length = 2 → H a = none → tSuite T okc sM a cls d D (s.set 1 (some (.ref a))) H) ∧ (b = false → False)
def TTh (K : PySem.W.Frag) (T : Tx) (cx : Value) (okc : Value → Prop) (sM : Addr → Nat → MS) : (XK → Hp → VK → Prop) → Hp → VK → Prop := fun tl H Q => tl (wHeard K T cx okc sM Q) H Q
/-- the context in which heard's body runs -/
abbrev hCx (X : Cx) (Ng : List Str) (x : Str) (sg : Scope) (g : Addr) (cdg : Value) (s : Shared) (H : Hp) : Cx := (cxOf C8.CX0 X.prog X.w X.K X.mg X.base Ng x sg g cdg X.A X.stack s H C8.E0).nox
theorem heard_gives {x a n e q : Str} {sg : Scope} {g : Addr} {cdg : Value} {b0 : Stmt} {suite : List Stmt} {p1 p2 p3 p4 p7 p8 : Pos} (hnd : ([a, n] : List Str).Nodup)
    (hc : ∀ s H, Names (hCx X [a, n] x sg g cdg s H) e cx)
    (hsu : ∀ (s : Shared) (H : Hp) (ad : Addr) (oe : Obj) (cls : Value) (dd : Addr) (pn : List (Addr × Obj)) (j : Nat), okc cls → Zc cls (some dd) oe → (∃ vs, oe.data = .fields vs) → SSs (T.known j dd) ((hCx X [a, n] x sg g cdg s H).suite ad ((ad, oe) :: pn)) (b0 :: suite) (sM ad j))
    (hkn : sg.names.lookup n = some .local) :
    LamX.GivesTo X [a, n] x sg g cdg [.Try [.Return (some (.Call (.Name a p1) [] [] p2)) p3] [.ExceptHandler (some (.Name e p4)) (some n) (b0 :: suite) p7] [] [] p8] a q (TTh X.K T cx okc sM) := by
  intro f c' s H Q tl act hco h
  refine ⟨_, pss_one (ps_try_as (X := hCx X [a, n] x sg g cdg s H) (i := 1) (ts := tSuite T okc sM) (Wout := No)
    (tb := fun Wx D s' H' => ∃ Ec : XK, (∀ cls d (s2 : L2.St) H2, s2.length = 2 → Ec cls d H2 → Wx cls d s2 H2) ∧ s'[0]? = some (some (.ref f)) ∧ H' c' = some (LamX.CodeO c' q) ∧ tl Ec H' D.rt) rfl rfl hnd rfl hkn (hc s H) takes0 (fun Wx pn xe tk _ => ⟨fun pins s1 σ1 H1 D I h1 => ?_⟩)
    fun ad oe cls d pn hz hf => ⟨fun pins s1 σ1 H1 D I h1 => ?_⟩), ?_⟩
  · obtain ⟨Ec, hW, hs, h2, h3⟩ := h1
    have tk2 : Takes ((cxOf C8.CX0 X.prog X.w X.K X.mg X.base [a, n] x sg g cdg X.A X.stack s H C8.E0).tr pn xe) (fun cls d s2 H2 => s2.length = 2 → Wx cls d s2 H2) := fun u s' xx => by
      obtain ⟨ad, B, sI, pins', s3, H3, cls, d, e1, J, e2, e3, e4, e5, e6, e7, wz⟩ := xx
      exact tk u s' ⟨ad, B, sI, pins', s3, H3, cls, d, e1, J, e2, e3, e4, e5, e6, e7, wz J.len⟩
    have hp := act _ pn xe Ec p1 p2 tk2 fun cls d s2 H2 hh hl => hW cls d s2 H2 hl hh
    exact (pss_one (ps_ret (pos := p3) hp)).run pins s1 σ1 H1 D I ⟨hs, h2, h3⟩
  · obtain ⟨hk, j, dd, rfl, h2⟩ := h1
    exact ((hsu s H ad oe cls dd pn j hk hz hf) No ⟨takes0, PassesOwn.never⟩).run pins s1 σ1 H1 D I h2
  · refine ⟨wHeard X.K T cx okc sM Q, fun cls d s2 H2 hl hw => ?_, rfl, hco, h⟩
    obtain ⟨b, e1, e2, e3⟩ := hw
    exact ⟨b, e1, fun hb ad ha => e2 hb _ s2 ad rfl hl ha, fun hb => (e3 hb).elim⟩
theorem View.ext {ps : Pl} {h : Hv} {H H1 : Hp} (v : View T ps h H) (e : LamX.ExtN H H1) (t : LamX.Tabs T.tb H1) : View T ps h H1 ∧ Step ps H ps H1 := by
  refine ⟨⟨v.len, v.nd, fun i a o h1 h2 => ?_, t, v.fact, fun a vs tt => (v.tup a vs tt).put fun y => e a _ y (fun z q => by cases q), fun b u hb => e b u (v.hold b u hb) (fun z q => by
    obtain ⟨o1, y1, ew⟩ := T.hd.fz b u hb
    rw [ew] at q
    cases q)⟩, ⟨Pl.Le.refl _, fun _ _ h n _ => absurd h n, fun a o h1 h2 _ => e a o h1 h2⟩⟩
  have q := v.ob i a o h1 h2
  obtain ⟨u, hu, ht⟩ := q.there
  exact q.put fun u' hu' => by
    rw [hu] at hu'
    cases hu'
    exact e a u hu ht
theorem heard_read {E : WX} {s : L2.St} {H : Hp} {Q : VK} {fb : Ws → Hv → Res W} (hexm : ∀ v b, exm v = some b → PySem.W.exmOne X.K (T.cv v) cx = some b) (hokc : ∀ v, exm v = some true → okc (T.cv v)) (hind : ∀ a j r h w h2, 1 < r.length → su j r h = .rt w h2 → sM a j (r.set 1 (some (.fix a))) h = .rt w h2)
    (h : tE T E (mHeard exm su fb) s H Q) : LamX.tLam T.tb (TTh X.K T cx okc sM) (fun E' => tE T (fun c d _ H' => E' c d H') fb) s H Q := by
  obtain ⟨ps, r, hv, es, vw, gd⟩ := h
  refine ⟨vw.tab, fun H1 eN tN => ?_⟩
  obtain ⟨vw1, st1⟩ := vw.ext eN tN
  have gd := Good.step gd st1
  refine ⟨ps, r, hv, es, vw1, ?_⟩
  unfold mHeard at gd
  cases q : fb r hv with
  | bad => rw [q] at gd; exact gd.elim
  | val w h1 => rw [q] at gd; exact gd
  | exc c d h1 =>
    rw [q] at gd
    cases d with
    | none => exact gd.elim
    | some j =>
      dsimp only at gd
      intro qs H' e st vw' dv
      obtain ⟨dd, ej, rfl⟩ := dv
      cases ex : exm c with
      | none => rw [ex] at gd; exact gd.elim
      | some b =>
        rw [ex] at gd
        cases b with
        | false => exact gd.elim
        | true =>
          dsimp only at gd
          cases z : su j [none, none] h1 with
          | nx _ _ => rw [z] at gd; exact gd.elim
          | bk _ _ => rw [z] at gd; exact gd.elim
          | ct _ _ => rw [z] at gd; exact gd.elim
          | exc _ _ _ _ => rw [z] at gd; exact gd.elim
          | bad => rw [z] at gd; exact gd.elim
          | rt w h2 =>
            rw [z] at gd
            refine ⟨true, hexm _ _ ex, fun _ D s2 a hD hl ha => ⟨hokc _ ex, j, dd, rfl, qs, [none, none].set 1 (some (.fix a)), h1, ?_, vw'.known ej, ?_⟩, fun z => by cases z⟩
            · have e0 : ES qs [none, none] s2 := ⟨by rw [hl]; rfl, fun i w e => by
                match i, e with
                | 0, e => cases e
                | 1, e => cases e
                | i + 2, e => simp at e⟩
              exact e0.set 1 rfl
            · rw [hind a j [none, none] h1 _ _ (by decide) z]
              intro rs H2 v st2 vw2 wv
              rw [hD]
              exact gd rs H2 v (st.trans st2) vw2.less wv
/-- heard(lambda: e) -/
theorem se_heard {k : Nat} {x a n e : Str} {g c P : Addr} {pg : Arguments} {sg : Scope} {dV kV doc pm cdv ct oc : Value} {an od : Option Addr} {osl : Array (Option Value)} {b0 : Stmt} {suite : List Stmt} {p1 p2 p3 p4 p7 p8 : Pos}
    {params : Arguments} {body : Expr} {scope : Scope} {fb : Ws → Hv → Res W} {p lpos pos : Pos}
    (hexm : ∀ v b, exm v = some b → PySem.W.exmOne X.K (T.cv v) cx = some b) (hokc : ∀ v, exm v = some true → okc (T.cv v)) (hind : ∀ a j r h w h2, 1 < r.length → su j r h = .rt w h2 → sM a j (r.set 1 (some (.fix a))) h = .rt w h2)
    (hm : X.mg x = some (.ref g)) (hk : PySem.W.keepIn X.K (.ref g) = true)
    (lk : X.K.lookup g = some ⟨oc, od, .func (PySem.W.fnOf x x pg [.Try [.Return (some (.Call (.Name a p1) [] [] p2)) p3] [.ExceptHandler (some (.Name e p4)) (some n) (b0 :: suite) p7] [] [] p8] sg dV kV doc pm an cdv ct), osl⟩) (hcg : PySem.W.codeIn X.K cdv x = true)
    (hb : L2.Binds X.K (PySem.W.fnOf x x pg [.Try [.Return (some (.Call (.Name a p1) [] [] p2)) p3] [.ExceptHandler (some (.Name e p4)) (some n) (b0 :: suite) p7] [] [] p8] sg dV kV doc pm an cdv ct) [a] []) (Sg : FnScope [a, n] [a] sg) (hva : Vis sg a)
    (hc : ∀ s H, Names (hCx X [a, n] x sg g cdv s H) e cx)
    (hsu : ∀ (s : Shared) (H : Hp) (ad : Addr) (oe : Obj) (cls : Value) (dd : Addr) (pn : List (Addr × Obj)) (j : Nat), okc cls → Zc cls (some dd) oe → (∃ vs, oe.data = .fields vs) → SSs (T.known j dd) ((hCx X [a, n] x sg g cdv s H).suite ad ((ad, oe) :: pn)) (b0 :: suite) (sM ad j))
    (hkn : sg.names.lookup n = some .local)
    (TB : LamX.TabB X.base X.mg c P) (hcode : X.env.code = .ref c) (hmT : (P, X.env.qual ++ "<lambda>") ∈ T.tb) (hu : ∀ p ∈ T.tb, p.1 = P → p.2 = X.env.qual ++ "<lambda>") (hr : Room (k + 2) X.A) (L : LamX.LamS X.env.scope scope) (hdef : defaultsOf params X.env = ([], [])) (hbind : ∀ (q : Str) (cl : List (Str × Addr)) (pm cv ctv : Value), bindArgs (PySem.W.kla_fn "<lambda>" q params body scope cl pm cv ctv) ⟨[], []⟩ = pure [])
    (hbody : ∀ (A : Around) (outer : List Env) (s : Shared) (H : Hp) (E : XK) (f c' : Addr), Room k (A.deeper (LamX.lamEnv X scope s.heap.objs.size f c')) → SE T (LamX.lamCx X A outer s H E scope f c') body fb)
    (hg : Gl X x := by rfl) (hdb : (x == ("__debug__" : Str)) = false := by decide) (hd : (a == ("__debug__" : Str)) = false := by decide) (hcd : (a == ("__classdict__" : Str)) = false := by decide) :
    SE T X (.Call (.Name x p) [.Lambda params body scope lpos] [] pos) (mHeard exm su fb) := fun E cn => by
  refine PEi (LamX.pe_lamcall (T := T.tb) (TT := TTh X.K T cx okc sM) (t := fun E' => tE T (fun c d _ H' => E' c d H') fb) hg hm hk lk hcg hb Sg rfl hva (heard_gives Sg.nd hc hsu hkn) TB hcode hmT hu hr L hdef hbind
    (fun A outer s H E' f c' hr' => hbody A outer s H E' f c' hr' _ ⟨takes_of rfl rfl rfl rfl, passes_of rfl⟩) hdb hd hcd) fun s H Q h => heard_read hexm hokc hind h
end
end VL
end
section
namespace VL
open PySem L2 PySem.Spec PyProof.Rows

/-! ### the end of a law -/
section
variable {P : Program} {w : World} {K : PySem.W.Frag} {mg mb : Str → Option Value} {k : Nat} {fa a : Addr} {cs : List (Addr × Addr)} {s1 : Shared} {vs : List Value} {ns : List Int} {T : Tx} {m : MFn}
theorem mem_lookup2 {l : List (Addr × Obj)} {b : Addr} {o : Obj} (h : l.lookup b = some o) : (b, o) ∈ l := by
  induction l with
  | nil => cases h
  | cons p r ih =>
    obtain ⟨c, u⟩ := p
    rw [List.lookup_cons] at h
    by_cases e : b = c
    · subst e
      simp at h
      rw [h]
      exact List.mem_cons_self
    · have e2 : (b == c) = false := by simpa using e
      rw [e2] at h
      exact .tail _ (ih h)
theorem paired_ints {ps : Pl} : ∀ l : List Int, Paired (WV ps) (l.map W.int) (l.map V.int)
  | [] => .nil
  | _ :: r => .cons rfl (paired_ints r)
/-- the abstract heap at the law's entry: the script, and the tables of code objects -/
def entryH (a : Addr) (o : Obj) (xs : List V) (ts : List Addr) : Hp := fun b => if b = a then some (.frz o (.lst xs)) else if b ∈ ts then some (.tbl #[]) else none
theorem entry_a {o : Obj} {xs : List V} {ts : List Addr} : entryH a o xs ts a = some (.frz o (.lst xs)) := if_pos rfl
theorem entry_t {o : Obj} {xs : List V} {ts : List Addr} {b : Addr} (hb : b ∈ ts) (hn : b ≠ a) : entryH a o xs ts b = some (.tbl #[]) := (if_neg hn).trans (if_pos hb)
theorem entry_n {o : Obj} {xs : List V} {ts : List Addr} {b : Addr} (hb : b ∉ ts) (hn : b ≠ a) : entryH a o xs ts b = none := (if_neg hn).trans (if_neg hb)
theorem entry_some {o : Obj} {xs : List V} {ts : List Addr} {b : Addr} {u : HO} (h : entryH a o xs ts b = some u) : (b = a ∧ u = .frz o (.lst xs)) ∨ (b ≠ a ∧ b ∈ ts ∧ u = .tbl #[]) := by
  by_cases hb : b = a
  · left
    subst hb
    rw [entry_a] at h
    exact ⟨rfl, (Option.some.inj h).symm⟩
  · right
    by_cases ht : b ∈ ts
    · rw [entry_t ht hb] at h
      exact ⟨hb, ht, (Option.some.inj h).symm⟩
    · rw [entry_n ht hb] at h
      cases h
abbrev scrO (vs : List Value) : Obj := { cls := .type "list", data := .seq vs.toArray }
abbrev tabO : Obj := { cls := .none, data := .fields #[] }
theorem law_callV (KX : K.In s1.heap) (gl : s1.heap.Ns mainGlobals mg) (bl : s1.heap.Ns builtinsNs mb) (blb : ∀ x : Str, x ≠ "__name__" → mb x = bootBuiltins x) (lim : s1.heap.NoLimit) (hgens : s1.gens = #[])
    (tabs : ∀ p ∈ cs, s1.heap.get? p.2 = some tabO) (noK : ∀ p ∈ cs, K.lookup p.2 = none) (heads : ∀ p ∈ cs, PySem.W.CodeHd s1.heap p.1 p.2)
    (bmod : ∃ (bm : Addr) (ob : Obj), mg "__builtins__" = some (.ref bm) ∧ bm ≠ builtinsNs ∧ s1.heap.get? bm = some ob ∧ ob.cls = .type "module" ∧ ob.dict = some builtinsNs ∧ ob.data = .plain)
    (scr : s1.heap.get? a = some (scrO vs)) (nis : IntsAre vs ns) (len : ns.length ≤ sizeLine) (room : Room k callerA) (Kl : K.all (fun p => !(p.2.cls == .type "list")) = true)
    (inT : ∀ p ∈ T.tb, p.1 ∈ cs.map (·.2)) (fact : T.C [a]) (F : ∀ base : Heap, K.In base → base.Ns mainGlobals mg → (∀ p ∈ cs, LamX.TabB base mg p.1 p.2) → FnG P w K mg base T k fa 1 m)
    (mir : ∃ h', m [.ref 0] [.rol (ns.map W.int)] = .val (.bl true) h') :
    codeAny (model P w) callerA (.call (.ref fa) ⟨[.ref a], []⟩) (fun r s' => r = .ok (.ret (.bool true)) ∧ OldK s1.heap s'.heap ∧ s'.os = s1.os ∧ AllBare s'.gens) s1 := by
  have rel := vals_ints nis
  have tabAt : ∀ b ∈ cs.map (·.2), s1.heap.get? b = some tabO := fun b hb => by
    obtain ⟨p, hp, rfl⟩ := List.mem_map.mp hb
    exact tabs p hp
  have neT : ∀ b ∈ cs.map (·.2), b ≠ a := fun b hb z => by
    have q := tabAt b hb
    rw [z, scr] at q
    have q2 := congrArg Obj.data (Option.some.inj q)
    cases q2
  have noKa : K.lookup a = none := by
    cases e : K.lookup a with
    | none => rfl
    | some o =>
      have q := KX a o e
      rw [scr] at q
      have mem := mem_lookup2 e
      have z := List.all_eq_true.mp Kl _ mem
      have c : o.cls = .type "list" := by rw [← Option.some.inj q]
      simp [c] at z
  let H : Hp := entryH a (scrO vs) (ns.map V.int) (cs.map (·.2))
  have hok : HOk P w H s1.heap := fun b u e => by
    rcases entry_some e with ⟨rfl, rfl⟩ | ⟨_, ht, rfl⟩
    · exact ⟨scr, by rw [List.length_map]; exact len, vs, _, rel, scr⟩
    · exact tabAt b ht
  -- what is not the script and no table is not tracked
  have free : ∀ {b : Addr} {o : Obj}, s1.heap.get? b = some o → (∀ z n, o.data ≠ .seq z n) → o.data ≠ .fields #[] → H b = none := fun {b o} e n1 n2 => by
    by_cases hb : b = a
    · subst hb
      rw [scr] at e
      cases e
      exact absurd rfl (n1 vs.toArray _)
    · by_cases ht : b ∈ cs.map (·.2)
      · rw [tabAt b ht] at e
        cases e
        exact absurd rfl n2
      · exact entry_n ht hb
  have nsFree : ∀ {b : Addr} {f : Str → Option Value}, s1.heap.Ns b f → (hidT s1.heap H).Ns b f := fun {b f} ⟨o, es, ep, e, d, r⟩ => by
    refine ⟨o, es, ep, hidT_get e (free e (fun z n q => ?_) fun q => ?_), d, r⟩
    · rw [d] at q; cases q
    · rw [d] at q; cases q
  have KB : K.In (hidT s1.heap H) := fun b o e => by
    have nb : b ≠ a := fun z => by rw [z, noKa] at e; cases e
    have nt : b ∉ cs.map (·.2) := fun z => by
      obtain ⟨p, hp, rfl⟩ := List.mem_map.mp z
      rw [noK p hp] at e; cases e
    exact hidT_get (KX b o e) (entry_n nt nb)
  have MD : L2.Mod K mg (hidT s1.heap H) := by
    obtain ⟨mc, l1, l2⟩ := lim
    exact ⟨KB, nsFree gl, ⟨mb, nsFree bl, blb⟩, mc, nsFree l1, l2⟩
  have TB : ∀ p ∈ cs, LamX.TabB (hidT s1.heap H) mg p.1 p.2 := fun p hp => by
    obtain ⟨og, eg, epg, hg0, dg, rg⟩ := id gl
    have tp := tabs p hp
    refine ⟨?_, ?_, fun z => ?_⟩
    · obtain ⟨o, us, file, tf, flags, tg, inF, text, tt, e1, q1, q2, q3, q4, q5, q6, q7, q8, hne⟩ := heads p hp
      refine ⟨o, us, file, tf, flags, tg, inF, text, tt, hidT_get e1 (free e1 (fun z n q => ?_) fun q => ?_), q1, q2, q3, q4, q5, q6, q7, q8, hne⟩
      · rw [q2] at q; cases q
      · rw [q2] at q; cases q; simp at q3
    · obtain ⟨bm, ob, e1, e2, e3, e4, e5, e6⟩ := bmod
      refine ⟨bm, ob, e1, e2, fun z => ?_, fun z => ?_, hidT_get e3 (free e3 (fun z n q => ?_) fun q => ?_), e4, e5, e6⟩
      · rw [z, hg0] at e3; cases e3; rw [dg] at e6; cases e6
      · rw [z, tp] at e3; cases e3; cases e6
      · rw [e6] at q; cases q
      · rw [e6] at q; cases q
    · rw [z, tp] at hg0; cases hg0; cases dg
  have E0 : Env0 P w K mg (hidT s1.heap H) callerA [] s1 H := ⟨rfl, MD, fun b o e => of_hidT e, Nat.le_of_eq (hidT_size _ _), trivial, (fun b hb => by cases hb), hok, .of_eq hgens⟩
  -- the view at the entry
  have view : View (T.hold Hd.no) (Pl.of [a]) [.rol (ns.map W.int)] H := by
    refine ⟨rfl, (show ([a] : List Addr).Nodup by simp), fun i b o e1 e2 => ?_, fun p hp => ?_, fact, (fun _ _ z => z.elim), fun _ _ z => z.elim⟩
    · have e1' : ([a] : List Addr)[i]? = some b := e1
      match i, e1', e2 with
      | 0, e1', e2 =>
        cases e1'; cases e2
        refine ⟨ns.map V.int, scrO vs, ?_, entry_a⟩
        exact paired_ints ns
      | i + 1, e1', e2 => simp at e1'
    · exact LamX.TabS.nil (entry_t (inT p hp) (neT _ (inT p hp)))
  obtain ⟨h', em⟩ := mir
  have prom : spV T 1 m [.ref a] H (fun v _ => v = .bl true) (fun _ _ _ => False) := ⟨rfl, Hd.no, Pl.of [a], _, [.ref 0], view, .cons ⟨a, rfl, rfl⟩ .nil, by
    rw [em]
    exact fun qs H' v _ _ wv => wv⟩
  refine codeAny_mono ((F _ KB (nsFree gl) TB).run callerA [] s1 H [.ref a] [.ref a] _ _ room rfl E0 (.cons rfl .nil) prom) fun fin s' hq => ?_
  match fin, hq with
  | .error e, hq =>
    obtain ⟨_, _, _, _, _, _, _, _, _, _, _, _, z⟩ := hq
    exact z.elim
  | .ok .next, hq => exact hq.elim
  | .ok .brk, hq => exact hq.elim
  | .ok .cont, hq => exact hq.elim
  | .ok (.ret u), hq =>
    obtain ⟨v, H2, e1, e2, un, hok2, rv, q⟩ := hq
    cases q
    cases rv
    have kept : ∀ b o, b ∉ cs.map (·.2) → s1.heap.get? b = some o → s'.heap.get? b = some o := fun b o nt e => by
      by_cases hb : b = a
      · subst hb
        have z2 := hok2 b _ (un.frzs b _ _ entry_a)
        rw [scr] at e
        cases e
        exact z2.1
      · exact un.keep b o e (entry_n nt hb) (fun z => by cases z) (fun z => by cases z)
    have grown : ∀ c ∈ cs, ∃ ys : Array Value, s'.heap.get? c.2 = some { cls := .none, data := .fields ys } := fun c hc => by
      have mc : c.2 ∈ cs.map (·.2) := List.mem_map.mpr ⟨c, hc, rfl⟩
      obtain ⟨ys, z⟩ := un.tbls c.2 #[] (entry_t mc (neT _ mc))
      exact ⟨_, hok2 c.2 _ z⟩
    have part : ∀ b, (∃ c, c ∈ cs ∧ c.2 = b) ∨ b ∉ cs.map (·.2) := fun b => (Classical.em (b ∈ cs.map (·.2))).imp List.mem_map.mp id
    refine ⟨rfl, ⟨fun b o e => ?_, fun b o e => ?_⟩, e1, e2⟩
    · rcases part b with ⟨c, hc, rfl⟩ | nb
      · obtain ⟨ys, hy⟩ := grown c hc
        rw [tabs c hc] at e; cases e
        exact .inr (.inl ⟨((heads c hc).tab (tabs c hc)).isCodeTable, rfl, #[], ys, rfl, by rw [Array.empty_append]; exact hy⟩)
      · exact .inl (kept b o nb e)
    · rcases part b with ⟨c, hc, rfl⟩ | nb
      · obtain ⟨ys, hy⟩ := grown c hc; exact ⟨_, hy⟩
      · exact ⟨o, kept b o nb e⟩
end
end VL
end
section
namespace VL
open PySem L2 PySem.Spec PyProof.Rows

/-! ### {} -/
section
variable {T : Tx} {X : Cx} {pos : Pos}
theorem se_dict0 : SE T X (.Dict [] [] pos) (fun _ h => mNew (.dic []) h) := fun E cn => PEi pe_dnewK fun s H Q ⟨ps, r, h, es, vw, gd⟩ p hp => good_new vw gd (fun H' p' e => ⟨[], .nil, e⟩) hp
/-! ### repr, {} too -/
def mReprE : MFn := fun ws h => match ws with
  | [.ref p] => (match h[p]? with
    | some (.dic []) => .val (.str ("{}" : Str)) h
    | _ => mRepr ws h)
  | _ => mRepr ws h
def rReprE (K : PySem.W.Frag) : List V → Hp → VK → Prop := fun xs H Q => (∃ a, xs = [.ref a] ∧ H a = some (.dK []) ∧ Q (.str ("{}" : Str)) H) ∨ rRepr K xs H Q
theorem rc_reprE {K : PySem.W.Frag} (hK : T.K = K := by rfl) : RC T (rReprE K) mReprE := by
  subst hK
  intro ps h H ws vs Q E vw wv gd
  unfold mReprE at gd
  split at gd
  · split at gd
    · rename_i e1
      obtain ⟨v, rfl, a, ea, rfl⟩ := one_of wv
      obtain ⟨kv, rr, eH⟩ := vw.ob _ a _ ea e1
      cases rr
      exact .inl ⟨a, rfl, eH, Good.now gd vw rfl⟩
    · exact .inr (rc_repr rfl ps h H _ vs Q E vw wv gd)
  · exact .inr (rc_repr rfl ps h H _ vs Q E vw wv gd)
theorem call_reprE (hg : X.A.guards = some []) (hu : X.A.units + 64 < cLine) : CallR X (.builtin "repr") (rReprE X.K) := by
  intro pins s σ H xs us Q I r h; rcases h with ⟨a, rfl, ea, q⟩ | h
  · obtain ⟨u, rfl, ru⟩ := vals1 r
    cases ru
    have hob : ObjOk X.prog X.w H s.heap a (.dK []) := I.hok a _ ea
    obtain ⟨_, hsm, kv, rkv, o, es, ep, h1, h2, h3, h4, h5, _⟩ := hob
    cases rkv
    have e0 : es.toList = [] := by
      cases q : es.toList with
      | nil => rfl
      | cons a b => rw [q] at h5; cases h5
    have rd : Reads s.heap (.ref a) (.dict []) ([a] ++ [] ++ []) := .dict (kvs := []) h1 h2.1 h3 (by rw [e0]; exact .nil) (by rw [e0]; exact .nil)
    have ns : sysModules ∉ ([a] ++ [] ++ [] : List Addr) := by
      have z : ¬ a = sysModules := by simpa using hsm
      simpa using fun q => z q.symm
    have sh : (PyData.dict []).shown = ("{}" : Str) := by decide +kernel
    have dp : (PyData.dict []).depth ≤ 60 := by decide +kernel
    have un : X.A.units + ((PyData.dict []).depth + 1) < cLine := by omega
    refine repr_of_reads' rd (by decide +kernel) (fun _ => ns) hg un (fun _ _ e => e) (fun h' u tk hk => ?_) (by rw [sh]; decide)
    rw [sh]
    exact ⟨.str _, H, I.kept hk, ⟨_, rfl⟩, q⟩
  · exact call_reprD hg hu pins s σ H xs us Q I r h
end

/-! ### a suite that returns an expression -/
theorem hind_ret {i : Nat} {fA : Addr → Nat → Ws → Hv → Res W} {f : Nat → Ws → Hv → Res W} (hf : ∀ a j r h, i < r.length → fA a j (r.set i (some (.fix a))) h = f j r h) (a : Addr) (j : Nat) (r : Ws) (h : Hv) (w : W) (h2 : Hv) (hl : i < r.length)
    (e : mRet (f j) r h = .rt w h2) : mRet (fA a j) (r.set i (some (.fix a))) h = .rt w h2 := by
  unfold mRet at e ⊢
  rw [hf a j r h hl]
  cases q : f j r h with
  | val w1 h1 => rw [q] at e; exact e
  | exc c d h1 => rw [q] at e; cases e
  | bad => rw [q] at e; cases e
theorem mXfA_at {i : Nat} {a : Addr} {j : Nat} {f : Str} {r : Ws} {h : Hv} (hl : i < r.length) : mXfA i a j f (r.set i (some (.fix a))) h = mXf j f r h := by
  unfold mXfA
  rw [List.getElem?_set_self hl]
  simp [mXf]
/-- the errors of these classes are taken -/
def exmC (cs : List String) : String → Option Bool := fun n => if cs.contains n then some true else none
theorem exmC_ok {K : PySem.W.Frag} {T : Tx} {n : String} {v : Value} (h : PySem.W.exmOne K (T.cv n) v = some true) : ∀ m b, exmC [n] m = some b → PySem.W.exmOne K (T.cv m) v = some b := fun m b e => by
  unfold exmC at e
  split at e
  · rename_i z
    have z2 : m = n := by simpa using z
    subst z2
    cases e
    exact h
  · cases e
theorem exmC_c {n m : String} (e : exmC [n] m = some true) : m = n := by
  unfold exmC at e
  split at e
  · rename_i z
    simpa using z
  · cases e
/-! ### a call that needs nothing of the view, and hands back a plain value -/
mutual
def plainW : W → Bool
  | .ref _ => false
  | .tup xs => plainWs xs
  | _ => true
def plainWs : List W → Bool
  | [] => true
  | x :: xs => plainW x && plainWs xs
end
theorem plainWs_all : ∀ xs : List W, plainWs xs = xs.all plainW
  | [] => rfl
  | x :: xs => by simp only [plainWs, List.all_cons, plainWs_all xs]
def mFresh (m : MFn) : Ws → Hv → Res W := fun _ h => match m [] [] with
  | .val w _ => if plainW w then .val w h else .bad
  | _ => .bad
mutual
theorem plainW_any {ps qs : Pl} (ht : ∀ a vs, ps.tu a vs → qs.tu a vs) : ∀ {w : W} {v : V}, plainW w = true → WV ps w v → WV qs w v
  | .ref i, _, hp, _ => by cases hp
  | .non, _, _, h => h
  | .bl b, _, _, h => h
  | .int b, _, _, h => h
  | .str b, _, _, h => h
  | .fix b, _, _, h => h
  | .ty b, _, _, h => h
  | .tup xs, _, hp, ⟨a, vs, e1, e2, e3⟩ => ⟨a, vs, e1, ht _ _ e2, plainWs_any ht (by unfold plainW at hp; exact hp) e3⟩
theorem plainWs_any {ps qs : Pl} (ht : ∀ a vs, ps.tu a vs → qs.tu a vs) : ∀ {ws : List W} {vs : List V}, plainWs ws = true → WVL ps ws vs → WVL qs ws vs
  | [], _, _, h => h
  | w :: ws, _, hp, ⟨v, us, e1, e2, e3⟩ => by
    unfold plainWs at hp
    rw [Bool.and_eq_true] at hp
    exact ⟨v, us, e1, plainW_any ht hp.1 e2, plainWs_any ht hp.2 e3⟩
end
theorem View.nil {T : Tx} {ps : Pl} {h : Hv} {H : Hp} (v : View T ps h H) (hC : T.C []) : View T (ps.off []) [] H := ⟨rfl, List.nodup_nil, fun i a o e _ => by
  have e' : ([] : List Addr)[i]? = some a := e
  simp at e', v.tab, hC, v.tup, v.hold⟩
theorem View.over {T : Tx} {ps qs : Pl} {h h' : Hv} {H H1 : Hp} (v : View T ps h H) (s : Step (ps.off []) H qs H1) (v1 : View T qs h' H1) : View T (qs.off ps.l) h H1 ∧ Step ps H (qs.off ps.l) H1 := by
  have keep : ∀ a o, H a = some o → (∀ z, o ≠ .tbl z) → H1 a = some o := fun a o e ht => s.fr a o e ht (fun z => by
    have z' : a ∈ ([] : List Addr) := z
    simp at z')
  have le : Pl.Le ps (qs.off ps.l) := ⟨List.prefix_refl _, s.pre.2⟩
  refine ⟨⟨v.len, v.nd, fun i a o e1 e2 => ?_, v1.tab, v.fact, v1.tup, v1.hold⟩, ⟨le, fun _ _ h n _ => absurd h n, fun a o e ht _ => keep a o e ht⟩⟩
  have q := v.ob i a o e1 e2
  obtain ⟨u, hu, ht⟩ := q.there
  exact (q.put fun u' hu' => by
    rw [hu] at hu'
    cases hu'
    exact keep a u hu ht).mono le
section
variable {T : Tx} {X : Cx} {f : Addr} {m : MFn} {x : Str} {p pos : Pos}
theorem se_fresh (C : Can T X f 0 m) (hC : T.C []) (hg : Gl X x) (hm : X.mg x = some (.ref f)) (hk : PySem.W.keepIn X.K (.ref f) = true) (hdb : (x == ("__debug__" : Str)) = false := by decide) : SE T X (.Call (.Name x p) [] [] pos) (mFresh m) := fun E cn => ⟨fun pins s σ H Q I h => by
  refine wpAny_Call_Name_kw (ld_glob (X := X) I hg hm ?_ hdb)
  obtain ⟨ps, r, hv, es, vw, gd⟩ := h
  refine PySem.W.callWith_K0 I.kIn hk (C.wp (us := []) cn I .nil ⟨rfl, T.hd, _, [], [], vw.nil hC, .nil, ?_⟩)
  unfold mFresh at gd
  cases q : m [] [] with
  | bad => rw [q] at gd; exact gd.elim
  | exc c d h1 => rw [q] at gd; exact gd.elim
  | val w h1 =>
    rw [q] at gd
    dsimp only at gd
    split at gd
    · rename_i hp
      intro qs H' v st vw' wv
      obtain ⟨v2, s2⟩ := vw.over st vw'
      exact gd _ H' v s2 v2 (plainW_any (ps := qs) (qs := qs.off ps.l) (fun _ _ z => z) hp wv)
    · exact gd.elim⟩
end

/-! ### the walk -/
/-- what is known of the law at the head's heap h -/
def LawV (l : PySem.W.OpenLaw) (w : World) (K : PySem.W.Frag) (k n : Nat) (mg : Str → Option Value) (fa : Addr) (h : Heap) : Prop :=
  ∃ (cs : List (Addr × Addr)) (T : Tx) (m : MFn), (∀ p ∈ cs, h.get? p.2 = some tabO) ∧ (∀ p ∈ cs, K.lookup p.2 = none) ∧ (∀ p ∈ cs, PySem.W.CodeHd h p.1 p.2) ∧ K.all (fun p => !(p.2.cls == .type "list")) = true ∧ (∀ p ∈ T.tb, p.1 ∈ cs.map (·.2)) ∧ (∀ a, T.C [a]) ∧
    (∀ base : Heap, K.In base → base.Ns mainGlobals mg → (∀ p ∈ cs, LamX.TabB base mg p.1 p.2) → FnG l.prog w K mg base T k fa 1 m) ∧
    ∀ ns : List Int, ns.length ≤ n → (∀ z ∈ ns, Builtin.Int.intBits z ≤ 1048576) → ∃ h', m [.ref 0] [.rol (ns.map W.int)] = .val (.bl true) h'
theorem walk_V {l : PySem.W.OpenLaw} {n k : Nat} {q : Program} {loose : List Str} {XP : (Str → Option Value) → Heap → Prop} {YP : World → Heap → Prop} {d : DefRec} {K : Params → PySem.W.Frag} (hn : l.most = some n) (hn2 : n ≤ sizeLine) (hdf : d.params.defaults = []) (hr : Room k callerA)
    (hY : ∀ (w : World) (h : Heap), YP w h → (K w.params).In h) (F : ∀ (w : World) (mg : Str → Option Value) (fa : Addr) (h : Heap), YP w h → (K w.params).In h → h.Ns mainGlobals mg → mg d.name = some (.ref fa) → LawV l w (K w.params) k n mg fa h) :
    PySem.W.WalkO q loose XP YP l.row.toRowW d [] (fun f vs => PySem.call f vs) := Att.attach_callB hn hdf fun w s0 s1 mg mb fa o pm cd doc a vs ns G Y ho hd hcd hmg hobj hints hlen hbits hg => by
  have KX := hY w _ Y
  obtain ⟨cs, T, m, h1, h2, h3, h4, h5, h6, h7, h8⟩ := F w mg fa _ Y KX G.T.g hmg
  exact law_callV KX G.T.g G.T.b G.T.builtins G.T.nolimit hg h1 h2 h3 G.T.bmain hobj hints (Nat.le_trans hlen hn2) hr h4 h5 (h6 a) h7 (h8 ns hlen hbits)
end VL
end
section
namespace VL
open PySem L2
/-! ### the mirrors' operations on known values -/
section
variable {i j : Int} {h : Hv}
@[simp] theorem mAdd_int : mAdd (.int i) (.int j) h = .val (.int (i + j)) h := rfl
@[simp] theorem mSub_int : mSub (.int i) (.int j) h = .val (.int (i - j)) h := rfl
theorem mMul_int (hb : i.natAbs.log2 + j.natAbs.log2 < 1000000) : mMul (.int i) (.int j) h = .val (.int (i * j)) h := by
  simp [mMul, mulB, hb]
theorem mDiv_int (h1 : j ≠ 0) (h2 : j.natAbs.log2 < 9000) : mDiv (.int i) (.int j) h = .val (.int (i.fdiv j)) h := by
  simp [mDiv, mI, divB, h1, h2]
theorem mMod_int (h1 : j ≠ 0) : mMod (.int i) (.int j) h = .val (.int (i.fmod j)) h := by
  simp [mMod, mI, h1]
theorem mPow_int (h1 : 0 ≤ j) (h2 : j ≤ 1000000) (h3 : i.natAbs < 2 ^ 64) : mPow (.int i) (.int j) h = .val (.int (i ^ j.toNat)) h := by
  have e : powB i j = true := by
    simp only [powB, Bool.and_eq_true, decide_eq_true_eq]
    exact ⟨h1, h2, h3⟩
  simp [mPow, mI, e]
@[simp] theorem mLt_int : mLt (.int i) (.int j) h = .val (.bl (decide (i < j))) h := rfl
@[simp] theorem mLe_int : mLe (.int i) (.int j) h = .val (.bl (decide (i ≤ j))) h := rfl
@[simp] theorem mGt_int : mGt (.int i) (.int j) h = .val (.bl (decide (j < i))) h := rfl
@[simp] theorem mGe_int : mGe (.int i) (.int j) h = .val (.bl (decide (j ≤ i))) h := rfl
@[simp] theorem mNeg_int : mNeg (.int i) h = .val (.int (-i)) h := rfl
@[simp] theorem mAbs_int : mAbs [.int i] h = .val (.int (i.natAbs : Int)) h := by
  have e : (if i < 0 then -i else i) = (i.natAbs : Int) := by split <;> omega
  simp [mAbs, e]
@[simp] theorem mMax_int : mMax [.int i, .int j] h = .val (.int (max i j)) h := by
  have e : (if j > i then j else i) = max i j := by split <;> omega
  simp [mMax, e]
@[simp] theorem mInt_int : mInt [.int i] h = .val (.int i) h := rfl
@[simp] theorem mInt_bl {b : Bool} : mInt [.bl b] h = .val (.int (if b then 1 else 0)) h := rfl
theorem shaped_int (i : Int) : SeqAt.shaped (.int i) = true := by
  simp [SeqAt.shaped, PyData.canLay0, PyData.depth]
theorem shaped_bool (b : Bool) : SeqAt.shaped (.bool b) = true := by
  simp [SeqAt.shaped, PyData.canLay0, PyData.depth]
@[simp] theorem mEq_int : mEq false (.int i) (.int j) h = .val (.bl (decide (i = j))) h := by
  have e1 : toD dF h (.int i) = some (.int i) := rfl
  have e2 : toD dF h (.int j) = some (.int j) := rfl
  simp [mEq, e1, e2, shaped_int, PyData.eqv, Bool.beq_eq_decide_eq]
@[simp] theorem mNe_int : mEq true (.int i) (.int j) h = .val (.bl (decide (i ≠ j))) h := by
  have e1 : toD dF h (.int i) = some (.int i) := rfl
  have e2 : toD dF h (.int j) = some (.int j) := rfl
  simp [mEq, e1, e2, shaped_int, PyData.eqv, Bool.beq_eq_decide_eq]
@[simp] theorem mNe_bl {a b : Bool} : mEq true (.bl a) (.bl b) h = .val (.bl (decide (a ≠ b))) h := by
  have e1 : toD dF h (.bl a) = some (.bool a) := rfl
  have e2 : toD dF h (.bl b) = some (.bool b) := rfl
  cases a <;> cases b <;> simp [mEq, e1, e2, shaped_bool, PyData.eqv]
end
/-! ### and of the pieces -/
section
variable {α β : Type} {a : α} {h : Hv} {k : α → Hv → Res β} {ks : α → Hv → ResS} {r : Ws} {c : String} {d : Option Nat}
@[simp] theorem bind_val : (Res.val a h).bind k = k a h := rfl
@[simp] theorem bind_exc : (Res.exc c d h : Res α).bind k = .exc c d h := rfl
@[simp] theorem andS_val : (Res.val a h).andS r ks = ks a h := rfl
@[simp] theorem andS_exc : (Res.exc c d h : Res α).andS r ks = .exc c d r h := rfl
@[simp] theorem asB_bl {b : Bool} : asB (.bl b) h = .val b h := rfl
@[simp] theorem mC_eq {w : W} : mC w r h = .val w h := rfl
@[simp] theorem mNil_eq : mNil r h = .val [] h := rfl
@[simp] theorem mNext_eq : mNext r h = .nx r h := rfl
@[simp] theorem m2_eq {g : MOp} {fa fb : Ws → Hv → Res W} : m2 g fa fb r h = (fa r h).bind fun x h1 => (fb r h1).bind fun y h2 => g x y h2 := rfl
@[simp] theorem m1_eq {g : W → Hv → Res W} {fa : Ws → Hv → Res W} : m1 g fa r h = (fa r h).bind g := rfl
@[simp] theorem mCons_eq {f : Ws → Hv → Res W} {g : Ws → Hv → Res (List W)} : mCons f g r h = (f r h).bind fun w h1 => (g r h1).bind fun ws h2 => .val (w :: ws) h2 := rfl
@[simp] theorem mB_eq {m : MFn} {g : Ws → Hv → Res (List W)} : mB m g r h = (g r h).bind m := rfl
@[simp] theorem mT_eq {f : Ws → Hv → Res W} : mT f r h = (f r h).bind asB := rfl
@[simp] theorem mNotT_eq {t : Ws → Hv → Res Bool} : mNotT t r h = (t r h).bind fun b h1 => .val (!b) h1 := rfl
@[simp] theorem mAndT_eq {t u : Ws → Hv → Res Bool} : mAndT t u r h = (t r h).bind fun b h1 => if b then u r h1 else .val false h1 := rfl
@[simp] theorem mOrT_eq {t u : Ws → Hv → Res Bool} : mOrT t u r h = (t r h).bind fun b h1 => if b then .val true h1 else u r h1 := rfl
@[simp] theorem mNotV_eq {f : Ws → Hv → Res W} : mNotV f r h = (mT f r h).bind fun b h1 => .val (.bl (!b)) h1 := rfl
@[simp] theorem mAndV_eq {f g : Ws → Hv → Res W} : mAndV f g r h = (mT f r h).bind fun b h1 => if b then g r h1 else .val (.bl false) h1 := rfl
@[simp] theorem mOrV_eq {f g : Ws → Hv → Res W} : mOrV f g r h = (mT f r h).bind fun b h1 => if b then .val (.bl true) h1 else g r h1 := rfl
@[simp] theorem mIf_eq {t : Ws → Hv → Res Bool} {f g : Ws → Hv → Res W} : mIf t f g r h = (t r h).bind fun b h1 => if b then f r h1 else g r h1 := rfl
@[simp] theorem mExpr_eq {f : Ws → Hv → Res W} : mExpr f r h = (f r h).andS r fun _ h1 => .nx r h1 := rfl
@[simp] theorem mRet_eq {f : Ws → Hv → Res W} : mRet f r h = (f r h).andS r fun w h1 => .rt w h1 := rfl
@[simp] theorem mSet_eq {i : Nat} {f : Ws → Hv → Res W} : mSet i f r h = (f r h).andS r fun w h1 => .nx (r.set i (some w)) h1 := rfl
@[simp] theorem mIfS_eq {t : Ws → Hv → Res Bool} {f g : MS} : mIfS t f g r h = (t r h).andS r fun b h1 => if b then f r h1 else g r h1 := rfl
@[simp] theorem mTup_eq {g : Ws → Hv → Res (List W)} : mTup g r h = (g r h).bind fun ws h1 => if ws.length ≤ 100000 then .val (.tup ws) h1 else .bad := rfl
@[simp] theorem mLst_eq {g : Ws → Hv → Res (List W)} : mLst g r h = (g r h).bind fun ws h1 => if ws.length ≤ 100000 then mNew (.lst ws) h1 else .bad := rfl
@[simp] theorem mCall_eq {n : Nat} {m : MFn} {g : Ws → Hv → Res (List W)} : mCall n m g r h = (g r h).bind fun ws h1 => if ws.length = n then m ws h1 else .bad := rfl
@[simp] theorem mNew_eq {o : O} : mNew o h = .val (.ref h.length) (h ++ [o]) := rfl
@[simp] theorem mGn_eq {i : Nat} {w : W} : mGn i w r h = .nx (r.set i (some w)) h := rfl
/-- one statement behind another -/
def thenS (x : ResS) (g : MS) : ResS := match x with
  | .nx r1 h1 => g r1 h1
  | y => y
@[simp] theorem mSeq_eq {f g : MS} : mSeq f g r h = thenS (f r h) g := rfl
@[simp] theorem thenS_nx {g : MS} : thenS (.nx r h) g = g r h := rfl
@[simp] theorem thenS_rt {g : MS} {w : W} : thenS (.rt w h) g = .rt w h := rfl
@[simp] theorem thenS_exc {g : MS} : thenS (.exc c d r h) g = .exc c d r h := rfl
/-- a def's end -/
def endS (x : ResS) : Res W := match x with
  | .rt w h1 => .val w h1
  | .nx _ h1 => .val .non h1
  | .exc c d _ h1 => .exc c d h1
  | _ => .bad
theorem mDef_eq {N : List Str} {b : MS} {ws : List W} : mDef N b ws h = endS (b (startW N ws) h) := by
  unfold mDef endS
  rfl
@[simp] theorem endS_rt {w : W} : endS (.rt w h) = .val w h := rfl
@[simp] theorem endS_nx : endS (.nx r h) = .val .non h := rfl
@[simp] theorem endS_exc : endS (.exc c d r h) = .exc c d h := rfl
end
@[simp] theorem mVar0 {w : W} {r : Ws} {h : Hv} : mVar 0 (some w :: r) h = .val w h := rfl
@[simp] theorem mVarS {i : Nat} {x : Option W} {r : Ws} {h : Hv} : mVar (i + 1) (x :: r) h = mVar i r h := rfl
/-! ### items -/
theorem mIx_tup {h : Hv} {xs : List W} {i : Int} : mIx (.tup xs) (.int i) h = ofO (atI xs i) h := rfl
@[simp] theorem ofO_some {α : Type} {a : α} {h : Hv} : ofO (some a) h = .val a h := rfl
theorem mIx_lst {p : Nat} {h : Hv} {xs : List W} {i : Int} {w : W} (e : h[p]? = some (.lst xs)) (ei : atI xs i = some w) : mIx (.ref p) (.int i) h = .val w h := by
  simp [mIx, e, ei, ofO]
@[simp] theorem atI0 {α : Type} {x : α} {xs : List α} : atI (x :: xs) 0 = some x := atI_nat (j := 0) rfl
@[simp] theorem atI1 {α : Type} {x y : α} {xs : List α} : atI (x :: y :: xs) 1 = some y := atI_nat (j := 1) rfl
theorem get_last {h : Hv} {o : O} : (h ++ [o])[h.length]? = some o := by simp
theorem get_old {h : Hv} {t : Hv} {p : Nat} {o : O} (e : h[p]? = some o) : (h ++ t)[p]? = some o := by
  rw [List.getElem?_append_left (List.getElem?_eq_some_iff.mp e).1]
  exact e
end VL
end
section
/-! ### isinstance of a caught error that bears fields -/
namespace VX
open PySem PySem.W PySem.Spec PySem.Calls PyProof.Rows
variable {prog : Program} {w : World} {A : Around} {E : Value → Shared → Prop} {s : Shared} {K : Frag} {x D : Addr} {ox : Obj} {od : Option Obj}
theorem found_cls (Z : L2.ExcC K D) : findObj K D od "__class__" = some (.bind (.builtin "getset_descriptor.__get__") (.builtin "object.__class__")) := by
  obtain ⟨cd, hc, _⟩ := any_some Z.hd
  simp only [findObj, hc, Z.ha, Z.hn, Z.ht, Option.bind_some]
theorem cls_of {Q : Option Value → Shared → Prop} (Z : L2.ExcC K D) (X : K.In s.heap) (I : W.InstAt s.heap x ox D od) (h : Q (some (.ref D)) { s with toks := s.toks + 1 }) : wpAny (model prog w) A (getAttr? (.ref x) "__class__") Q E s := by
  obtain ⟨hp, g, d, t, os⟩ := s
  have T0 := I.type (M := model prog w)
  have T1 := looks_findIn (M := model prog w) X Z.hg
  have T2 := looks_findIn (M := model prog w) X Z.hk
  have T3 := looks_find (M := model prog w) X I (found_cls (od := od) Z)
  have sb : Looks (model prog w) hp (isInstance (.ref x) (.type "BaseException")) true := T0.andThen (looks_subIn X Z.hs)
  have n0 : (false && onTheHeap (Value.builtin "BaseException.__getattribute__")) = false := rfl
  have n2 : (Value.builtin "BaseException.__getattribute__" == Value.builtin "object.__getattribute__") = false := by decide +kernel
  have n1 : (onTheHeap (Value.ref D) && Value.builtin "BaseException.__getattribute__" == Value.builtin "object.__getattribute__") = false := by rw [n2, Bool.and_false]
  unfold getAttr? getAttrBy? getAttrBy; refine wpAny_bind (wpAny_mkText (wpAny_bind (wpAny_attempt (wpAny_holding (wpAny_bind (T0.at (wpAny_bind (T1.at ?_))))))))
  show wpAny _ _ (if (onTheHeap (Value.ref D) && Value.builtin "BaseException.__getattribute__" == Value.builtin "object.__getattribute__") = true then _ else _) _ _ _; rw [n1, if_neg Bool.false_ne_true]
  unfold getAttrByItsOwn hookBefore; refine wpAny_bind ?_
  rw [if_pos (show onTheHeap (Value.ref D) = true from rfl)]; refine T2.at (wpAny_bind (wpAny_attempt (wpAny_holding ?_)))
  unfold callGetattribute; rw [n0, if_neg Bool.false_ne_true]
  unfold boundAndCalled; rw [PySem.F.excAttr_ValueError.ga.bind (.ref x)]
  refine wpAny_bind (wpAny_pure ?_); show wpAny _ _ (call (.builtin "BaseException.__getattribute__") [.ref x, .str "__class__" t]) _ _ _
  refine wpAny_call (codeAny_call_builtin PySem.F.excAttr_ValueError.ga.plain PySem.F.entry_bexc_ga ?_); refine @check_slot (model prog w) _ _ ⟨hp, g, d, t + 1, os⟩ "BaseException.__getattribute__" "BaseException" "__getattribute__" (.ref x) [.str "__class__" t] [] _ (by decide +kernel) (by decide +kernel) sb (PySem.F.args_bexc_ga (.ref x) (.str "__class__" t)) ?_
  unfold Builtin.«object.__getattribute__»; refine wpAny_bind (wpAny_of_eq (a := ((Value.ref x : Value), [Value.str "__class__" t])) (by first | rfl | (simp only [slotArgs]; rfl)) ?_)
  refine wpAny_bind (wpAny_pure (wpAny_bind (T0.at (wpAny_bind (T3.at ?_))))); show wpAny _ _ (holding [Value.builtin "object.__class__"] (call (.builtin "getset_descriptor.__get__") [.builtin "object.__class__", .ref x, .ref D]) >>= ret) _ _ _
  refine wpAny_bind (wpAny_holding (wpAny_call (class_get (s := ⟨hp, g, d, t + 1, os⟩) (ox := ox) (od := od) X I Z.hm ?_))); refine wpAny_pure ?_
  show wpAny _ _ (handedOut (.ref D)) _ _ _; rw [handedOut_of (v := .ref D) rfl]
  first | exact wpAny_pure (wpAny_pure h) | exact wpAny_pure h | exact wpAny_pure (wpAny_bind (wpAny_pure (wpAny_pure h)))
theorem kit_of (Z : L2.ExcC K D) : KitX K (.ref x) (.ref D) (fun h => ∃ od, W.InstAt h x ox D od) where
  ty := fun _ _ _ ⟨_, I⟩ => I.type
  it := fun M h X _ => by
    obtain ⟨cd, hc, _⟩ := any_some Z.hd
    unfold clsIn at hc; split at hc
    · rename_i c1 d1 cd1 sl1 ho; intro A1 Q1 E1 s1 k q; unfold isType loadHead; exact wpAny_bind (wpAny_loadPart (k _ _ (X _ _ ho)) (wpAny_pure q))
    · cases hc
  ne := fun h tp dd its n sl X htp => (W.handS_kitx_exc (x := x) (ox := ox) Z.hg Z.hk Z.hs Z.hd Z.ha Z.hn Z.ht Z.hm).ne h tp dd its n sl X htp
  ca := fun X ⟨od, I⟩ k => cls_of Z X I k
end VX
namespace VL
open PySem L2 PySem.Spec PyProof.Rows
/-- isinstance(e, c), e the caught error, its fields at dd -/
def rIsF (K : PySem.W.Frag) (D a dd : Addr) : List V → Hp → VK → Prop := fun xs H Q => ∃ (c : V) (cv : Value) (b : Bool) (fs : List (Str × V)), xs = [.ref a, c] ∧ (∀ u, RelV c u → u = cv) ∧ PySem.W.kitOne K (.ref D) cv = some b ∧ H dd = some (.xd fs) ∧ Q (.bl b) H
theorem call_isF {X : Cx} {a D dd : Addr} {oe : Obj} {pn : List (Addr × Obj)} (Z : ExcC X.K D) (hz : Zc (.ref D) (some dd) oe) (hf : ∃ vs, oe.data = .fields vs) : CallR (X.suite a ((a, oe) :: pn)) (.builtin "isinstance") (rIsF X.K D a dd) := by
  intro pins s σ H xs us Q I r h; obtain ⟨c, cv, b, fs, rfl, hcv, e, ea, q⟩ := h
  cases r with
  | cons rx rr => cases rr with
    | cons rt rr =>
      cases rr; cases rx; obtain rfl := hcv _ rt
      obtain ⟨hget, _⟩ := I.pin (a, oe) (List.mem_append_left _ List.mem_cons_self)
      obtain ⟨vs, hv⟩ := hf
      have hx : ObjOk X.prog X.w H s.heap dd (.xd fs) := I.hok dd _ ea
      obtain ⟨mA, hns, hr⟩ := hx
      obtain ⟨od, ho, hl⟩ := lookIn_ns hns; have J : PySem.W.InstAt s.heap a oe D (some od) := ⟨hget, hz.1, (by unfold PySem.W.notCls; rw [hv] <;> rfl), (by rw [hz.2]; exact ho)⟩
      exact PySem.W.kia_one (VX.kit_of (x := a) (ox := oe) Z) I.kIn ⟨_, J⟩ e (fun z => nomatch z) fun tk => ⟨.bl b, H, I.kept (t' := tk) fun _ _ z => z, rfl, q⟩
def mIsx (j : Nat) (b : Bool) : Ws → Hv → Res W := fun _ h => match h[j]? with
  | some (.xd _) => .val (.bl b) h
  | _ => .bad
def mIsxA (i : Nat) (a : Addr) (j : Nat) (b : Bool) : Ws → Hv → Res W := fun r h => match r[i]? with
  | some (some (.fix c)) => if c = a then mIsx j b r h else .bad
  | _ => .bad
section
variable {T : Tx} {X : Cx}
theorem mIsxA_at {i : Nat} {a : Addr} {j : Nat} {b : Bool} {r : Ws} {h : Hv} (hl : i < r.length) : mIsxA i a j b (r.set i (some (.fix a))) h = mIsx j b r h := by
  unfold mIsxA
  rw [List.getElem?_set_self hl]
  simp [mIsx]
theorem se_isx (i : Nat) {a dd C : Addr} {oe : Obj} {cls : Value} {pn : List (Addr × Obj)} {j : Nat} {b : Bool} {n : Str} {p pn1 pos : Pos} {ec : Expr} {c : V} {cv : Value} (Z : ExcC X.K C) (hz : Zc cls (some dd) oe) (hf : ∃ vs, oe.data = .fields vs) (hcls : cls = .ref C)
    (hgi : Gl (X.suite a ((a, oe) :: pn)) "isinstance") (hmi : X.mg "isinstance" = none) (hc : PE (X.suite a ((a, oe) :: pn)) ec (tC c)) (hcv : ∀ u, RelV c u → u = cv) (hk : PySem.W.kitOne X.K (.ref C) cv = some b)
    (hN : X.N[i]? = some n := by rfl) (hv : Vis X.env.scope n := by first | exact Or.inl rfl | exact Or.inr (Or.inl rfl) | exact Or.inr (Or.inr rfl)) (hd : (n == ("__debug__" : Str)) = false := by decide) (hcd : (n == ("__classdict__" : Str)) = false := by decide)
    (hs1 : starEach [.Name n pn1, ec] X.env = (false, eval (.Name n pn1) X.env) :: starEach [ec] X.env := by rfl) (hs2 : starEach [ec] X.env = (false, eval ec X.env) :: starEach [] X.env := by rfl) (hpl : (backTo pos (starEach [ec] X.env)).any (·.1) = false := by rfl) :
    SE (T.known j dd) (X.suite a ((a, oe) :: pn)) (.Call (.Name "isinstance" p) [.Name n pn1, ec] [] pos) (mIsxA i a j b) := fun E cn =>
  PEi (pe_callB (call_isF (pn := pn) (dd := dd) Z (hcls ▸ hz) hf) hgi hmi (by decide +kernel) (pa_cons (pe_var (X := X.suite a ((a, oe) :: pn)) (i := i) hN hv hd hcd) (pa_cons hc pa_nil hs2) hs1) (by decide) (by decide) hs1 hpl) fun s H Q ⟨ps, r, hv, es, vw, gd⟩ => by
    unfold mIsxA at gd
    split at gd
    · rename_i b2 eb
      split at gd
      · rename_i hba
        subst hba
        obtain ⟨v, e1, e2⟩ := es.2 i _ eb
        cases e2
        unfold mIsx at gd
        split at gd
        · rename_i fs ej
          have ed : ps[j]? = some dd := vw.fact.2
          obtain ⟨vs, rr, eH⟩ := vw.ob _ dd _ ed ej
          exact ⟨_, e1, c, cv, b, vs, rfl, hcv, hk, eH, Good.now gd vw rfl⟩
        · exact gd.elim
      · exact gd.elim
    · exact gd.elim
end
/-! ### xs[::-1] -/
def mRevO (w : W) (h : Hv) : Res W := match w with
  | .ref p => (match h[p]? with
    | some (.lst xs) => mNew (.lst xs.reverse) h
    | some (.rol xs) => mNew (.lst xs.reverse) h
    | _ => .bad)
  | _ => .bad
def mRev (f : Ws → Hv → Res W) : Ws → Hv → Res W := fun r h => (f r h).bind mRevO
section
variable {T : Tx} {X : Cx} {e : Expr} {f : Ws → Hv → Res W}
theorem paired_rev {ps : Pl} : ∀ {xs : List W} {ys : List V}, Paired (WV ps) xs ys → Paired (WV ps) xs.reverse ys.reverse
  | _, _, .nil => .nil
  | _, _, .cons r t => by
    simp only [List.reverse_cons]
    exact paired_app (paired_rev t) (.cons r .nil)
theorem se_rev {k : Nat} {p1 p2 p3 pos : Pos} (he : SE T X e f) : SE T X (.Subscript e (.Slice none none (some (.UnaryOp .USub (.Constant (.int 1) k p1) p2)) p3) pos) (mRev f) := fun E cn => PEi (pe_revL (he E cn)) fun s H Q ⟨ps, r, hv, es, vw, gd⟩ => by
  refine ⟨ps, r, hv, es, vw, (Good.bind (R := WV) (S := WV) gd).imp (fun v H1 q => ?_) fun _ _ _ z => z⟩
  obtain ⟨qs, w, h1, st, vw1, wv, g1⟩ := q
  unfold mRevO at g1
  split at g1
  · obtain ⟨a, ea, rfl⟩ := wv
    split at g1
    · rename_i xs e1
      obtain ⟨vs, rr, eH⟩ := vw1.ob _ a _ ea e1
      exact ⟨a, vs, rfl, SqL.of eH, fun p hp => good_new vw1 g1 (fun H' p' e => ⟨_, paired_rev rr, e⟩) hp⟩
    · rename_i xs e1
      obtain ⟨vs, ob, rr, eH⟩ := vw1.ob _ a _ ea e1
      exact ⟨a, vs, rfl, .inl (.inr ⟨ob, eH⟩), fun p hp => good_new vw1 g1 (fun H' p' e => ⟨_, paired_rev rr, e⟩) hp⟩
    · exact g1.elim
  · exact g1.elim
/-! ### str of a whole number -/
def mStrI : MFn := fun ws h => match ws with
  | [.int i] => if i.natAbs.log2 < 1920 then .val (.str (Str.ofString (toString i))) h else .bad
  | _ => .bad
theorem rc_strI : RC T (fun xs H Q => ∃ i, xs = [.int i] ∧ i.natAbs.log2 < 1920 ∧ Q (.str (toString i)) H) mStrI := by
  intro ps h H ws vs Q E vw wv gd
  unfold mStrI at gd
  split at gd
  · split at gd
    · rename_i hc
      obtain ⟨v, rfl, e⟩ := one_of wv
      cases e
      exact ⟨_, rfl, hc, Good.now gd vw rfl⟩
    · exact gd.elim
  · exact gd.elim
end
end VL
end
section
namespace VL
open PySem L2 PySem.Spec PyProof.Rows
/-! ### own error classes over any of Python's errors -/
structure OexG (K : PySem.W.Frag) (C : Addr) : Prop where
  wh : ∃ (B newId initId : String) (bmB : List Value), ExcBaseFacts B newId initId bmB ∧ StoreFacts B bmB "object.__setattr__" "object" ∧ ∃ nm q N bs bm sn sub ab col dd k0 k1 k2 k3 k5,
    K.lookup C = some (excClassObj nm q C N bs bm true sn sub ab col dd k0 k1 k2 k3 k5 newId) ∧ PySem.W.excTail bmB bm = true
  st : PySem.W.findIn K (.ref C) "__setattr__" = some (some (.builtin "object.__setattr__"))
  be : PySem.W.subIn K (.ref C) (.type "BaseException") = some true
  ty : PySem.W.typeIn K (.ref C) = some (.type "type")
  kp : PySem.W.keepIn K (Value.ref C) = true
section
open Builtin Builtin.ObjectAttr PySem.HandSPX
variable {prog : Program} {w : World} {A : Around} {R : Result → Shared → Prop} {hp : Heap} {g : Array GenState} {dr : Drawn} {t : Nat} {os : OsState} {K : PySem.W.Frag}
/-- the first field of an error -/
theorem osaG {name : Str} {tk : Tok} {v : Value} {x C : Addr} {fv : Array Value} {cd : ClassData} {B : String} {bmB : List Value} (SF : StoreFacts B bmB "object.__setattr__" "object") (X : K.In hp) (hx : hp.get? x = some { cls := .ref C, data := .fields fv })
    (hcd : PySem.W.clsIn K C = some cd) (hov : PySem.W.excOver K C bmB = true) (hd : cd.hasDict = true) (hn : PySem.W.findIn K (.ref C) name = some none)
    (hq : ∀ h2 t2 dx, (∀ b o, b ≠ x → hp.get? b = some o → h2.get? b = some o) → hp.objs.size ≤ dx → dx ≠ x → h2.get? x = some { cls := .ref C, dict := some dx, data := .fields fv } → h2.Ns1 dx (fun y => if y = name then some v else none) → R (.ok (.ret .none)) ⟨h2, g, dr, t2, os⟩) :
    codeAny (model prog w) A (.call (.builtin "object.__setattr__") ⟨[.ref x, .str name tk, v], []⟩) R ⟨hp, g, dr, t, os⟩ := by
  refine PySem.W.osa_openX SF X (od := none) (r := none) ⟨hx, rfl, rfl, trivial⟩ hov (by unfold PySem.W.takerIn; rw [hn]; rfl) fun b => ?_
  have xs : x ≠ hp.objs.size := Nat.ne_of_lt (Heap.lt_size hx)
  have lc : PySem.W.Looks (model prog w) hp (classData C) cd := PySem.W.looks_clsIn X hcd
  obtain ⟨nm, bs, mro, ns, qn, hd', sn, sb, ab, col, del⟩ := cd
  obtain rfl : hd' = true := hd
  dsimp only; unfold storeInOwnDict ownDictForStores
  repeat (first | with_reducible refine store_in_new ?_ ?_ | with_reducible refine wpAny_loadPart_at hx ?_ | with_reducible refine lc.at ?_ | wp_step)
  · exact ⟨_, #[], _, (Heap.get?_update_ne _ _ _ _ xs.symm).trans (Heap.get?_push_at rfl rfl), rfl, fun e he => absurd he (by simp), fun _ => rfl⟩
  · intro h2 t2 n2 sb2
    have px : (hp.push { cls := .type "dict", data := .dict #[] }).get? x = some { cls := .ref C, data := .fields fv } := Heap.get?_push_of_some _ hx
    exact hq h2 t2 hp.objs.size (fun b o nb ob => (sb2.2 b (Nat.ne_of_lt (Heap.lt_size ob))).trans ((Heap.get?_update_ne _ _ _ _ nb).trans (Heap.get?_push_of_some _ ob))) (Nat.le_refl _) xs.symm ((sb2.2 x xs).trans (Heap.get?_update_self _ px rfl)) n2
end
section
variable {X : Cx} {pins : List (Addr × Obj)} {z : L2.St} {H : Hp} {s : Shared} {a C : Addr} {f : Str} {y : V} {u : Value} {Q : Unit → Shared → Prop} {E : Value → Shared → Prop} {A : Around}
theorem ostG (T : OexG X.K C) (I : Inv X pins z H s) (e : H a = some (exo a C none)) (hno : PySem.W.findIn X.K (.ref C) f = some none) (ry : RelV y u)
    (k : ∀ dx s2, H dx = none → dx ≠ a → Inv X pins z (upd (upd H dx (exd dx [(f, y)])) a (exo a C (some dx))) s2 → Q () s2) : wpAny (model X.prog X.w) A (setAttr (.ref a) f u) Q E s := by
  obtain ⟨B, newId, initId, bmB, FB, SF, nm, q, N, bs, bm, sn, sub, ab, col, dd, k0, k1, k2, k3, k5, hC, hbm⟩ := T.wh
  have hcl : PySem.W.clsIn X.K C = some ⟨nm, bs, .ref C :: bm, N, q, true, sn, sub, ab, col, false⟩ := by
    unfold PySem.W.clsIn
    rw [hC] <;> rfl
  have hov : PySem.W.excOver X.K C bmB = true := by
    unfold PySem.W.excOver
    rw [hcl]
    simp [hbm]
  obtain ⟨t1, ho⟩ := exo_at I.hok e; obtain ⟨hp, g, d, t, os⟩ := s
  refine PySem.W.set_plain I.kIn (ox := { cls := .ref C, dict := none, data := .fields #[.ref t1, .none, .none, .none, .bool false, .none] }) (od := none) ⟨ho, rfl, rfl, trivial⟩ T.st (osaG SF I.kIn ho hcl hov rfl hno fun h2 t2 dx kk dn dne hx hn => ?_)
  have fr : H dx = none := I.hok.fresh dn
  have nd : ∀ b o, hp.get? b = some o → b ≠ dx := fun b o r => Nat.ne_of_lt (Nat.lt_of_lt_of_le (Heap.lt_size r) dn)
  have na : ∀ b, H b = none → b ≠ a := fun b r c => by rw [c, e] at r; cases r
  have ch : ∀ b o, H b = some o → b ≠ dx := fun b o r c => by rw [c, fr] at r; cases r
  refine k dx _ fr dne (I.un (t' := t2) ⟨fun b o r n _ _ => kk b o (na b n) r, fun b o r n _ _ => ⟨o.slots, kk b o (na b n) r⟩, fun b o r n _ => ?_, fun b o r _ => ?_, fun b xs r => ?_, fun b o v r => ?_, fun b ps r => ⟨#[], ?_⟩⟩ fun b o r => ?_)
  · rw [upd_ne (na b n), upd_ne (nd b o r), n]
  · by_cases c : b = a
    · subst c; exact ⟨_, hx⟩
    · exact ⟨o, kk b o c r⟩
  · rw [upd_ne (at_ne e r exo_tup), upd_ne (ch b _ r), r]
  · rw [upd_ne (at_ne e r exo_frz), upd_ne (ch b _ r), r]
  · rw [upd_ne (at_ne e r exo_tbl), upd_ne (ch b _ r), r]; simp
  · by_cases c : b = a
    · subst c
      rw [upd_same] at r
      cases r
      exact exo_ok hx
    · rw [upd_ne c] at r
      by_cases c2 : b = dx
      · subst c2
        rw [upd_same] at r
        cases r
        exact exd_ok hn (relO_put (fs := []) ry fun _ => trivial)
      · rw [upd_ne c2] at r
        refine (I.hok b o r).stay (fun m v hm z2 => kk m v ?_ z2) (fun m hm => ?_) fun m xs hm => ?_
        · rcases hm with hm | hm
          · exact hm ▸ c
          · exact at_ne e hm exo_own
        · rw [upd_ne (at_ne e hm exo_own), upd_ne (ch m _ hm), hm]
        · rw [upd_ne (at_ne e hm exo_tup), upd_ne (ch m _ hm), hm]
end
/-- self.f = e, of an error that has no field yet -/
def tOstG (K : PySem.W.Frag) (f : Str) (to te : TE) : TS := fun D z H => te z H fun y H1 => to z H1 fun x H2 => ∃ a C : Addr, x = .ref a ∧ OexG K C ∧ PySem.W.findIn K (.ref C) f = some none ∧ H2 a = some (exo a C none) ∧ ∀ dx, H2 dx = none → dx ≠ a → D.nx z (upd (upd H2 dx (exd dx [(f, y)])) a (exo a C (some dx)))
section
variable {X : Cx} {o e : Expr} {es : List Expr} {to te : TE} {ta : TA} {f : Str} {p p' pos : Pos}
theorem ps_ostG (ho : PE X o to) (he : PE X e te) (hs : swapsWith e (some (.Attribute o f p')) pos.line X.env = pure false := by rfl) : PS X (.Assign [.Attribute o f p'] e pos) (tOstG X.K f to te) :=
  ⟨fun pins s z H D I h => plainObj_wpAny_Assign_Attribute (thn (he.run pins s z H _ I h) fun v s1 ⟨y, H1, I1, r1, q1⟩ => thn (ho.run pins s1 z H1 _ I1 q1) fun u s2 ⟨x, H2, I2, r2, a, C, ex, T, hno, ea, q⟩ => by
    subst ex; obtain rfl : u = Value.ref a := r2
    exact ostG T I2 ea hno r1 fun dx s3 n ne J => ⟨z, _, J, q dx n ne⟩) hs⟩
theorem pmk_oexG {CX : CXT} {x : Str} {C fI : Addr} {k : Nat} {fd : FuncData} {ps : List Str} {sp : Sp} {ds : List Value} {dvs : List V} (T : OexG X.K C) (iC : PySem.W.findIn X.K (.ref C) "__init__" = some (some (.ref fI))) (tI : PySem.W.typeIn X.K (.ref fI) = some (.type "function"))
    (hr : Room (k + 1) X.A) (F1 : FnOk X.prog X.w X.K X.mg X.base CX k fI fd ps sp) (hb : Binds X.K fd ps ds) (hd : Vals dvs ds) (hx : Passes CX X (fun _ _ _ => False)) (hg : Gl X x) (hm : X.mg x = some (.ref C)) (ha : PA X (e :: es) ta)
    (hdb : (x == ("__debug__" : Str)) = false := by decide) (he : starEach (e :: es) X.env = (false, eval e X.env) :: starEach es X.env := by rfl) (hpl : (backTo pos (starEach es X.env)).any (·.1) = false := by rfl) : PMk X (.Call (.Name x p) (e :: es) [] pos) (tMkO C sp dvs ta) := fun pins s z H Q I h => by
  obtain ⟨B, newId, initId, bmB, FB, SF, nm, q, N, bs, bm, sn, sub, ab, col, dd, k0, k1, k2, k3, k5, hC, hbm⟩ := T.wh
  refine wpAny_Call_Name_kw (ld_glob I hg hm (PySem.W.callWith_K (h₀ := X.base) I.ok.mod.kin T.kp (thn (ha.run pos pins s z H _ I h) fun us s1 ⟨vs, H1, I1, r1, hz, q1⟩ => ⟨I1.kIn, ?_⟩) he hpl) hdb)
  show wpAny _ _ (call (.ref C) us) _ _ _; obtain ⟨hp, g, dr, tk, os⟩ := s1
  let b := hp.objs.size + 1
  let h2 := (hp.push (PySem.W.kdv_tup us)).push (PySem.HandSPX.excO C hp.objs.size)
  have le : hp.objs.size ≤ b := Nat.le_succ _
  have hq := q1 b (I1.hok.fresh le)
  have kk : ∀ c o, hp.get? c = some o → h2.get? c = some o := fun c o r => Heap.get?_push_of_some _ (Heap.get?_push_of_some _ r)
  have gb : h2.get? b = some (PySem.HandSPX.excO C hp.objs.size) := by
    show ((hp.push (PySem.W.kdv_tup us)).push (PySem.HandSPX.excO C hp.objs.size)).get? (hp.objs.size + 1) = _
    heap_get
  have I2 : Inv X pins z (upd H1 b (exo b C none)) ⟨h2, g, dr, tk, os⟩ := I1.laid (t' := tk) (a := b) (h' := h2) kk le (exo_ok gb)
  have r2 : Vals (V.ref b :: (vs ++ dvs)) (Value.ref b :: (us ++ ds)) := .cons rfl (r1.append hd)
  have ln : (Value.ref b :: us ++ ds).length = ps.length := r2.length.symm.trans (F1.len _ _ _ _ hq)
  have lu : us.length ≤ sizeLine := by rw [← Paired.length r1, sizeLine_eq]; omega
  refine wpAny_call (PySem.HandSPX.call_own FB (fun Y => PySem.W.excTail_contains Y bm hbm) (I1.kIn _ _ hC) (PySem.W.looks_findIn I1.kIn iC) (fun self => PySem.W.bind_fn I1.kIn self tI) lu (codeAny_mono (F1.run _ X.stack _ _ ⟨Value.ref b :: us, []⟩ (Value.ref b :: (us ++ ds)) _ _ (fun _ _ _ => False) (hr.make C us []) (I2.env0.make C us []) (hb _ (Value.ref b :: us) I2.kIn ln) r2 hq) fun r s2 hq2 => ?_))
  cases r with
  | error er => exact hx pins z _ _ er s2 I2 hq2
  | ok fl => cases fl with
    | ret u =>
      obtain ⟨v, H2, o2, br, un2, hok2, rv, ev, d, fs, ea, ed, hd1, q2⟩ := hq2
      subst ev; obtain ⟨h3, g2, d2, t2, o3⟩ := s2
      exact ⟨rv, mk_end (raises_own T.be T.ty) I1 le kk un2 hok2 o2 br ea ed hd1 q2⟩
    | next => exact hq2.elim
    | brk => exact hq2.elim
    | cont => exact hq2.elim
end
/-- what the text says of the error's class -/
structure ErrG (P : Program) (w : World) (K : PySem.W.Frag) (mg : Str → Option Value) (base : Heap) (x f : Str) (C : Addr) : Prop where
  oex : OexG K C
  mgC : mg x = some (.ref C)
  ini : ∃ fI fd, PySem.W.findIn K (.ref C) "__init__" = some (some (.ref fI)) ∧ PySem.W.typeIn K (.ref fI) = some (.type "function") ∧ FnOk P w K mg base CX0 1 fI fd ["self", f] (spInit K C f) ∧ Binds K fd ["self", f] []
section
variable {T : Tx} {X : Cx} {C : Addr} {cn9 : String} {x f : Str} {e : Expr} {g : Ws → Hv → Res (List W)} {p pos pos' : Pos}
theorem ss_raiseG (Z : ErrG X.prog X.w X.K X.mg X.base x f C) (hcv : T.cv cn9 = .ref C) (hr : Room 2 X.A) (hg : Gl X x) (ha : SA T X [e] g) (hc : X.calm = true := by rfl) (hdb : (x == ("__debug__" : Str)) = false := by decide)
    (he : starEach [e] X.env = (false, eval e X.env) :: starEach [] X.env := by rfl) (hpl : (backTo pos' (starEach [] X.env)).any (·.1) = false := by rfl) : SS T X (.Raise (some (.Call (.Name x p) [e] [] pos')) none pos) (mRaise cn9 f g) := fun E cn => by
  obtain ⟨fI, fd, h1, h2, h3, h4⟩ := Z.ini
  refine PSi (ps_raise hc cn.tk (pmk_oexG Z.oex h1 h2 hr h3 h4 .nil pass0 hg Z.mgC (ha E cn) hdb he hpl)) fun D s H ⟨ps, r, hv, es, vw, gd⟩ => ?_
  refine ⟨ps, r, hv, es, vw, (good_andS (R := WVs) es gd).imp (fun vs H1 q => ?_) fun _ _ _ z => z⟩
  obtain ⟨qs, ws, hh, st, vw1, wv, es1, g1⟩ := q
  split at g1
  · rename_i w
    obtain ⟨v, rfl, wv1⟩ := one_of wv
    refine ⟨by simp, fun a na => ⟨a, v, rfl, upd_same, fun dx hd ne => ⟨rfl, dx, [(f, v)], upd_same, by rw [upd_ne ne, upd_same], ?_, ?_⟩⟩⟩
    · rw [upd_ne ne] at hd
      exact hd
    · rw [upd_ne ne] at hd
      have eqH : upd (del (upd (upd (upd H1 a (exo a C none)) dx (exd dx [(f, v)])) a (exo a C (some dx))) a) dx (.xd [(f, v)]) = upd H1 dx (.xd [(f, v)]) := by
        funext b
        by_cases hb : b = dx
        · rw [hb, upd_same, upd_same]
        · rw [upd_ne hb, upd_ne hb]
          by_cases ha : b = a
          · rw [ha, del_same, na]
          · rw [del_ne ha, upd_ne ha, upd_ne hb, upd_ne ha]
      rw [eqH]
      obtain ⟨vw2, st2, e2⟩ := vw1.alloc hd (o := .xd [(f, w)]) (u := .xd [(f, v)]) ⟨_, .cons ⟨rfl, wv1⟩ .nil, upd_same⟩
      rw [← hcv]
      exact g1 _ _ s (some dx) st2 vw2 (es1.mono st2.pre) ⟨dx, e2, rfl⟩
  · exact g1.elim
end
end VL
end
section
namespace VL
open PySem L2 PySem.Spec PyProof.Rows
/-! ### several clauses 'except x as n' -/
abbrev Tsu := Addr → Value → Option Addr → TS
/-- the ends of a suite in which slot i is the error's name -/
abbrev offI (i : Nat) (D : Ends) : Ends := { nx := fun z H => D.nx (z.set i none) H, rt := D.rt, bk := fun z H => D.bk (z.set i none) H, ct := fun z H => D.ct (z.set i none) H }
def wAsM (K : PySem.W.Frag) (i : Nat) (Wo : WX) (D : Ends) : List (Value × Tsu) → WX
  | [] => Wo
  | (c, ts) :: r => fun cls d z H => ∃ b, PySem.W.exmOne K cls c = some b ∧ (b = true → ∀ a, H a = none → ts a cls d (offI i D) (z.set i (some (.ref a))) H) ∧ (b = false → wAsM K i Wo D r cls d z H)
inductive HdA (X : Cx) (n : Str) : List ExceptHandler → List (Value × Tsu) → Prop
  | nil : HdA X n [] []
  | cons {x : Str} {c : Value} {ts : Tsu} {b0 : Stmt} {su : List Stmt} {np p2 : Pos} {hds : List ExceptHandler} {l : List (Value × Tsu)} (hc : Names X x c)
      (hsu : ∀ (a : Addr) (oe : Obj) (cls : Value) (d : Option Addr) (pn : List (Addr × Obj)), Zc cls d oe → (∃ vs, oe.data = .fields vs) → PSs (X.suite a ((a, oe) :: pn)) (b0 :: su) (ts a cls d)) (r : HdA X n hds l) : HdA X n (.ExceptHandler (some (.Name x np)) (some n) (b0 :: su) p2 :: hds) ((c, ts) :: l)
section
variable {X : Cx} {n : Str} {i : Nat} {body : List Stmt} {h0 : ExceptHandler} {hds : List ExceptHandler} {l : List (Value × Tsu)} {pos : Pos} {tb : WX → TS} {Wo : WX}
theorem ps_try_asM (hs : X.stack = X.env :: X.outer) (hf : X.env.frame = some X.env.locals) (hN : X.N.Nodup) (hi : X.N[i]? = some n) (hln : X.env.kindOf n = some .local) (tk : Takes X Wo)
    (hb : ∀ (W : WX) (pn : List (Addr × Obj)) (xe : Value → Shared → Prop), Takes (X.tr pn xe) W → PassesOwn (model X.prog X.w) X.A X.env xe → PSs (X.tr pn xe) body (tb W)) (hh : HdA X n (h0 :: hds) l) :
    PS X (.Try body (h0 :: hds) [] [] pos) (fun D z H => tb (wAsM X.K i Wo D l) D z H) := ⟨fun pins s z H D I h => by
  have ok := I.ok
  have frm : X.A.frames = some (X.env :: X.outer) := ok.frames.trans (by rw [hs])
  refine wpAny_Try_except (wpAny_mono ((hb (wAsM X.K i Wo D l) (X.pn ++ pins) (fun e t1 => wpAny (model X.prog X.w) X.A (noteFrame e X.env) (fun _ t2 => wpAny (model X.prog X.w) X.A (setFlight e none) (fun _ t3 =>
    wpAny (model X.prog X.w) X.A (handleBy e X.env (h0 :: hds)) (SP X pins D) X.xe t3) X.xe t2) X.xe t1) (fun u s' xx => ?_) PassesOwn.looking).run [] s z H D (I.toTry _) h) (fun f s1 hsp => ?_) fun _ _ he => he)
  · obtain ⟨a, B, sI, pins', z', H', cls, d, rfl, J', nb, up, sky, na, os, ag, w⟩ := xx
    have J : Inv X pins z' H' sI := J'.ofTry ok; show wpAny (model X.prog X.w) X.A (noteFrame (.ref a) X.env) _ _ _
    refine Sky.land Zc.steady frm hf (show Sky B (X.env :: X.outer) a (Zc cls d) X.env.locals s'.heap from hs ▸ sky) fun h3 fl3 up3 => ?_
    have J3 : Inv X pins z' H' { s' with heap := h3 } := J.landed nb fl3.1 (up.trans up3) os ag
    obtain ⟨o3, w3, x3, y3, u3⟩ := fl3.there
    have nfr : a ∉ frs (X.env :: X.outer) := fun hm => by
      obtain ⟨_, o', e', hnf⟩ := fl3.2.2.1.mem hm
      cases x3.symm.trans e'; exact hnf _ u3
    have nL : a ≠ X.env.locals := fun c => nfr (List.mem_filterMap.mpr ⟨X.env, List.mem_cons_self, hf.trans (by rw [c])⟩)
    have nF : a ∉ X.fs := fun hm => by obtain ⟨e, he, q⟩ := List.mem_filterMap.mp hm; exact nfr (List.mem_filterMap.mpr ⟨e, List.mem_cons_of_mem _ he, q⟩)
    have S3 := J3.suite x3 u3 na nL nF
    have lt : PySem.W.Looks (model X.prog X.w) h3 (typeOf (.ref a)) cls := fun A Q E s k q => wpAny_typeOf_ref (k _ _ x3) (by rw [y3.1]; exact q)
    have go : ∀ {hs' : List ExceptHandler} {l' : List (Value × Tsu)}, HdA X n hs' l' → wAsM X.K i Wo D l' cls d z' H' → wpAny (model X.prog X.w) X.A (handleBy (.ref a) X.env hs') (SP X pins D) X.xe { s' with heap := h3 } := fun hk => by
      induction hk with
      | nil =>
        intro w
        refine wpAny_handleBy_nil ?_
        obtain ⟨_, _, _, oe, vs, T, oT, ts', he, hz, hd, h1, hr⟩ := id fl3
        have fin : wpAny (model X.prog X.w) X.A (setFlight (.ref a) X.env.frame) (fun _ s4 => wpAny (model X.prog X.w) X.A (throw (.ref a) : Sem Flow) (SP X pins D) X.xe s4) X.xe { s' with heap := h3 } :=
          hf.symm ▸ HandSPX.setFlight_upZ fl3 fun h4 hh4 up4 => wpAny_throw (tk _ _ ⟨a, B, sI, pins, z', H', cls, d, rfl, J, nb, (up.trans up3).trans up4, .inr (.inr (hs.symm ▸ hh4)), na, os, ag, w⟩)
        unfold PySem.passOn; refine wpAny_bind (wpAny_field he hd h1 ?_)
        rw [if_neg (show ¬ (Value.ref T == Value.none) = true from by simp)]
        first | exact wpAny_bind (wpAny_pure (wpAny_bind fin)) | exact wpAny_bind fin
      | @cons x c ts b0 su np p2 hds2 l2 hc hsu r ih =>
        rintro ⟨b, hb1, hyes, hno⟩
        have lm := PySem.W.exm_one (M := model X.prog X.w) J3.kIn lt hb1
        have test : ∀ {Q : Value → Shared → Prop} {E : Value → Shared → Prop}, Q c { s' with heap := h3 } → wpAny (model X.prog X.w) (X.A.mark (some (.ref a))) (eval (.Name x np) X.env) Q E { s' with heap := h3 } := fun q => by
          rcases hc with ⟨hg, hdbg, hm | ⟨hm, hv, hnn⟩⟩
          · exact ld_glob (X := X.suite a ((a, o3) :: (X.pn ++ pins))) S3 hg hm q hdbg
          · exact ld_blt (X := X.suite a ((a, o3) :: (X.pn ++ pins))) S3 hg hm hv q hnn hdbg
        refine wpAny_handleBy_cons (codeAny_handlers_test (test (lm.here ?_))) (fun q => by cases q)
        cases b with
        | true =>
          refine codeAny_handlers_suite_as (HandSPX.lands_againZ fl3 fun h4 fl4 up4 => ?_)
          have J4 : Inv X pins z' H' { s' with heap := h4 } := J.landed nb fl4.1 ((up.trans up3).trans up4) os ag
          obtain ⟨o4, w4, x4, y4, u4⟩ := fl4.there
          refine store_ok (X := X.suite a ((a, o4) :: (X.pn ++ pins))) (v := .ref a) (J4.suite x4 u4 na nL nF) hN hi (.inl hln) rfl (fun s5 S5 => wpAny_mono ((hsu a o4 cls d (X.pn ++ pins) y4 ⟨_, u4⟩).run [] s5 _ H' _ S5 (hyes rfl a na)) (fun f s6 hsp => ?_) fun _ _ q => q.elim) (.inr hln)
          have bye : ∀ {z6 : L2.St} {H6 : Hp} {Q : Shared → Prop}, Inv (X.suite a ((a, o4) :: (X.pn ++ pins))) [] z6 H6 s6 → (∀ s7, Inv X pins (z6.set i none) H6 s7 → Q s7) → wpAny (model X.prog X.w) X.A (do bindName X.env n .none; unbindBehindTheSuite X.env n p2) (fun _ s7 => Q s7) X.xe s6 := fun {z6 H6 Q} S6 hq => gone_ok (S6.unsuite ok) hN hi hln hq
          cases f with
          | ret u =>
            obtain ⟨v6, z6, H6, S6, r6, q6⟩ := hsp; exact bye S6 fun s7 J7 => ⟨_, _, _, J7, r6, q6⟩
          | next =>
            obtain ⟨z6, H6, S6, q6⟩ := hsp; exact bye S6 fun s7 J7 => ⟨_, _, J7, q6⟩
          | brk =>
            obtain ⟨z6, H6, S6, q6⟩ := hsp; exact bye S6 fun s7 J7 => ⟨_, _, J7, q6⟩
          | cont =>
            obtain ⟨z6, H6, S6, q6⟩ := hsp; exact bye S6 fun s7 J7 => ⟨_, _, J7, q6⟩
        | false =>
          show wpAny _ X.A (handleBy (.ref a) X.env hds2) _ _ _; exact ih (hno rfl)
    exact go hh w
  · cases f with
    | ret u => obtain ⟨v, z', H', J', r, q⟩ := hsp; exact ⟨v, z', H', J'.ofTry ok, r, q⟩
    | next => obtain ⟨z', H', J', q⟩ := hsp; exact wpAny_execs_nil ⟨z', H', J'.ofTry ok, q⟩
    | brk => obtain ⟨z', H', J', q⟩ := hsp; exact ⟨z', H', J'.ofTry ok, q⟩
    | cont => obtain ⟨z', H', J', q⟩ := hsp; exact ⟨z', H', J'.ofTry ok, q⟩⟩
end
end VL
end
section
namespace VL
open PySem L2 PySem.Spec PyProof.Rows
/-! ### heard(lambda: e) with several clauses -/
def mHeardM (sel : String → Option (Nat → MS)) (fb : Ws → Hv → Res W) : Ws → Hv → Res W := fun r h => match fb r h with
  | .val w h1 => .val w h1
  | .exc c (some j) h1 => (match sel c with
    | some su => (match su j [none, none] h1 with
      | .rt w h2 => .val w h2
      | _ => .bad)
    | none => .bad)
  | _ => .bad
/-- a clause: its class, the classes it takes, its suite -/
structure Cl where
  cx : Value
  ok : Value → Prop
  sM : Addr → Nat → MS
def Cl.ts (T : Tx) (c : Cl) : Value × Tsu := (c.cx, tSuite T c.ok c.sM)
def wHM (K : PySem.W.Frag) (T : Tx) : List Cl → VK → XK
  | [], _ => fun _ _ _ => False
  | c :: r, Q => fun cls d H => ∃ b, PySem.W.exmOne K cls c.cx = some b ∧ (b = true → ∀ (D : Ends) (s : L2.St) (a : Addr), D.rt = Q → s.length = 2 → H a = none → tSuite T c.ok c.sM a cls d D (s.set 1 (some (.ref a))) H) ∧ (b = false → wHM K T r Q cls d H)
theorem wHM_as {K : PySem.W.Frag} {T : Tx} {D : Ends} : ∀ {l : List Cl} {cls : Value} {d : Option Addr} {s : L2.St} {H : Hp}, s.length = 2 → wHM K T l D.rt cls d H → wAsM K 1 No D (l.map (Cl.ts T)) cls d s H
  | [], _, _, _, _, _, h => h.elim
  | c :: r, cls, d, s, H, hl, ⟨b, e1, e2, e3⟩ => ⟨b, e1, fun hb a ha => e2 hb _ s a rfl hl ha, fun hb => wHM_as hl (e3 hb)⟩
theorem wHM_mem {K : PySem.W.Frag} {T : Tx} {Q : VK} {c : Cl} {post : List Cl} {cls : Value} {d : Option Addr} {H : Hp} (h1 : PySem.W.exmOne K cls c.cx = some true) (h2 : ∀ (D : Ends) (s : L2.St) (a : Addr), D.rt = Q → s.length = 2 → H a = none → tSuite T c.ok c.sM a cls d D (s.set 1 (some (.ref a))) H) :
    ∀ {pre : List Cl}, (∀ p ∈ pre, PySem.W.exmOne K cls p.cx = some false) → wHM K T (pre ++ c :: post) Q cls d H
  | [], _ => ⟨true, h1, fun _ => h2, fun z => by cases z⟩
  | p :: pre, hp => ⟨false, hp p List.mem_cons_self, (fun z => by cases z), fun _ => wHM_mem h1 h2 fun q hq => hp q (List.mem_cons_of_mem _ hq)⟩
section
variable {X : Cx} {T : Tx} {l : List Cl}
abbrev TTm (K : PySem.W.Frag) (T : Tx) (l : List Cl) : (XK → Hp → VK → Prop) → Hp → VK → Prop := fun tl H Q => tl (wHM K T l Q) H Q
theorem hdA_cons {n x : Str} {c : Cl} {b0 : Stmt} {su : List Stmt} {np p2 : Pos} {hds : List ExceptHandler} (hc : Names X x c.cx)
    (hsu : ∀ (ad : Addr) (oe : Obj) (cls : Value) (dd : Addr) (pn : List (Addr × Obj)) (j : Nat), c.ok cls → Zc cls (some dd) oe → (∃ vs, oe.data = .fields vs) → SSs (T.known j dd) (X.suite ad ((ad, oe) :: pn)) (b0 :: su) (c.sM ad j)) (r : HdA X n hds (l.map (Cl.ts T))) :
    HdA X n (.ExceptHandler (some (.Name x np)) (some n) (b0 :: su) p2 :: hds) ((c :: l).map (Cl.ts T)) :=
  .cons hc (fun ad oe cls d pn hz hf => ⟨fun pins s1 z1 H1 D I h1 => by
    obtain ⟨hk, j, dd, rfl, h2⟩ := h1
    exact ((hsu ad oe cls dd pn j hk hz hf) No ⟨takes0, PassesOwn.never⟩).run pins s1 z1 H1 D I h2⟩) r
theorem heard_givesM {x a n q : Str} {sg : Scope} {g : Addr} {cdg : Value} {h0 : ExceptHandler} {hds : List ExceptHandler} {p1 p2 p3 p8 : Pos} (hnd : ([a, n] : List Str).Nodup)
    (hh : ∀ s H, HdA (hCx X [a, n] x sg g cdg s H) n (h0 :: hds) (l.map (Cl.ts T))) (hkn : sg.names.lookup n = some .local) :
    LamX.GivesTo X [a, n] x sg g cdg [.Try [.Return (some (.Call (.Name a p1) [] [] p2)) p3] (h0 :: hds) [] [] p8] a q (TTm X.K T l) := by
  intro f c' s H Q tl act hco h
  refine ⟨_, pss_one (ps_try_asM (X := hCx X [a, n] x sg g cdg s H) (i := 1) (Wo := No)
    (tb := fun Wx D s' H' => ∃ Ec : XK, (∀ cls d (s2 : L2.St) H2, s2.length = 2 → Ec cls d H2 → Wx cls d s2 H2) ∧ s'[0]? = some (some (.ref f)) ∧ H' c' = some (LamX.CodeO c' q) ∧ tl Ec H' D.rt) rfl rfl hnd rfl hkn takes0 (fun Wx pn xe tk _ => ⟨fun pins s1 z1 H1 D I h1 => ?_⟩) (hh s H)), ?_⟩
  · obtain ⟨Ec, hW, hs, h2, h3⟩ := h1
    have tk2 : Takes ((cxOf C8.CX0 X.prog X.w X.K X.mg X.base [a, n] x sg g cdg X.A X.stack s H C8.E0).tr pn xe) (fun cls d s2 H2 => s2.length = 2 → Wx cls d s2 H2) := fun u s' xx => by
      obtain ⟨ad, B, sI, pins', s3, H3, cls, d, e1, J, e2, e3, e4, e5, e6, e7, wz⟩ := xx
      exact tk u s' ⟨ad, B, sI, pins', s3, H3, cls, d, e1, J, e2, e3, e4, e5, e6, e7, wz J.len⟩
    have hp := act _ pn xe Ec p1 p2 tk2 fun cls d s2 H2 hh hl => hW cls d s2 H2 hl hh
    exact (pss_one (ps_ret (pos := p3) hp)).run pins s1 z1 H1 D I ⟨hs, h2, h3⟩
  · exact ⟨wHM X.K T l Q, fun cls d s2 H2 hl hw => wHM_as hl hw, rfl, hco, h⟩
/-- which clause takes the errors of the class c -/
def Sels (K : PySem.W.Frag) (T : Tx) (l : List Cl) (sel : String → Option (Nat → MS)) : Prop := ∀ c su, sel c = some su → ∃ pre cl post, l = pre ++ cl :: post ∧ (∀ p ∈ pre, PySem.W.exmOne K (T.cv c) p.cx = some false) ∧ PySem.W.exmOne K (T.cv c) cl.cx = some true ∧ cl.ok (T.cv c) ∧
  ∀ a j r h w h2, 1 < r.length → su j r h = .rt w h2 → cl.sM a j (r.set 1 (some (.fix a))) h = .rt w h2
theorem heard_readM {sel : String → Option (Nat → MS)} {E : WX} {s : L2.St} {H : Hp} {Q : VK} {fb : Ws → Hv → Res W} (hsel : Sels X.K T l sel)
    (h : tE T E (mHeardM sel fb) s H Q) : LamX.tLam T.tb (TTm X.K T l) (fun E' => tE T (fun c d _ H' => E' c d H') fb) s H Q := by
  obtain ⟨ps, r, hv, es, vw, gd⟩ := h
  refine ⟨vw.tab, fun H1 eN tN => ?_⟩
  obtain ⟨vw1, st1⟩ := vw.ext eN tN
  have gd := Good.step gd st1
  refine ⟨ps, r, hv, es, vw1, ?_⟩
  unfold mHeardM at gd
  cases q : fb r hv with
  | bad => rw [q] at gd; exact gd.elim
  | val w h1 => rw [q] at gd; exact gd
  | exc c d h1 =>
    rw [q] at gd
    cases d with
    | none => exact gd.elim
    | some j =>
      dsimp only at gd
      intro qs H' e st vw' dv
      obtain ⟨dd, ej, rfl⟩ := dv
      cases ex : sel c with
      | none => rw [ex] at gd; exact gd.elim
      | some su =>
        rw [ex] at gd
        dsimp only at gd
        obtain ⟨pre, cl, post, rfl, hp, ht, hok, hind⟩ := hsel c su ex
        cases z : su j [none, none] h1 with
        | nx _ _ => rw [z] at gd; exact gd.elim
        | bk _ _ => rw [z] at gd; exact gd.elim
        | ct _ _ => rw [z] at gd; exact gd.elim
        | exc _ _ _ _ => rw [z] at gd; exact gd.elim
        | bad => rw [z] at gd; exact gd.elim
        | rt w h2 =>
          rw [z] at gd
          refine wHM_mem ht (fun D s2 a hD hl ha => ⟨hok, j, dd, rfl, qs, [none, none].set 1 (some (.fix a)), h1, ?_, vw'.known ej, ?_⟩) hp
          · have e0 : ES qs [none, none] s2 := ⟨by rw [hl]; rfl, fun i w e => by
              match i, e with
              | 0, e => cases e
              | 1, e => cases e
              | i + 2, e => simp at e⟩
            exact e0.set 1 rfl
          · rw [hind a j [none, none] h1 _ _ (by decide) z]
            intro rs H2 v st2 vw2 wv
            rw [hD]
            exact gd rs H2 v (st.trans st2) vw2.less wv
theorem se_heardM {sel : String → Option (Nat → MS)} {k : Nat} {x a n : Str} {g c P : Addr} {pg : Arguments} {sg : Scope} {dV kV doc pm cdv ct oc : Value} {an od : Option Addr} {osl : Array (Option Value)} {h0 : ExceptHandler} {hds : List ExceptHandler} {p1 p2 p3 p8 : Pos}
    {params : Arguments} {body : Expr} {scope : Scope} {fb : Ws → Hv → Res W} {p lpos pos : Pos}
    (hsel : Sels X.K T l sel) (hm : X.mg x = some (.ref g)) (hk : PySem.W.keepIn X.K (.ref g) = true)
    (lk : X.K.lookup g = some ⟨oc, od, .func (PySem.W.fnOf x x pg [.Try [.Return (some (.Call (.Name a p1) [] [] p2)) p3] (h0 :: hds) [] [] p8] sg dV kV doc pm an cdv ct), osl⟩) (hcg : PySem.W.codeIn X.K cdv x = true)
    (hb : L2.Binds X.K (PySem.W.fnOf x x pg [.Try [.Return (some (.Call (.Name a p1) [] [] p2)) p3] (h0 :: hds) [] [] p8] sg dV kV doc pm an cdv ct) [a] []) (Sg : FnScope [a, n] [a] sg) (hva : Vis sg a)
    (hh : ∀ s H, HdA (hCx X [a, n] x sg g cdv s H) n (h0 :: hds) (l.map (Cl.ts T))) (hkn : sg.names.lookup n = some .local)
    (TB : LamX.TabB X.base X.mg c P) (hcode : X.env.code = .ref c) (hmT : (P, X.env.qual ++ "<lambda>") ∈ T.tb) (hu : ∀ p ∈ T.tb, p.1 = P → p.2 = X.env.qual ++ "<lambda>") (hr : Room (k + 2) X.A) (L : LamX.LamS X.env.scope scope) (hdef : defaultsOf params X.env = ([], [])) (hbind : ∀ (q : Str) (cl : List (Str × Addr)) (pm cv ctv : Value), bindArgs (PySem.W.kla_fn "<lambda>" q params body scope cl pm cv ctv) ⟨[], []⟩ = pure [])
    (hbody : ∀ (A : Around) (outer : List Env) (s : Shared) (H : Hp) (E : XK) (f c' : Addr), Room k (A.deeper (LamX.lamEnv X scope s.heap.objs.size f c')) → SE T (LamX.lamCx X A outer s H E scope f c') body fb)
    (hg : Gl X x := by rfl) (hdb : (x == ("__debug__" : Str)) = false := by decide) (hd : (a == ("__debug__" : Str)) = false := by decide) (hcd : (a == ("__classdict__" : Str)) = false := by decide) :
    SE T X (.Call (.Name x p) [.Lambda params body scope lpos] [] pos) (mHeardM sel fb) := fun E cn => by
  refine PEi (LamX.pe_lamcall (T := T.tb) (TT := TTm X.K T l) (t := fun E' => tE T (fun c d _ H' => E' c d H') fb) hg hm hk lk hcg hb Sg rfl hva (heard_givesM Sg.nd hh hkn) TB hcode hmT hu hr L hdef hbind
    (fun A outer s H E' f c' hr' => hbody A outer s H E' f c' hr' _ ⟨takes_of rfl rfl rfl rfl, passes_of rfl⟩) hdb hd hcd) fun s H Q h => heard_readM hsel h
end
end VL
end
section
namespace VL
open PySem L2
/-! ### a, b, .. = a tuple or a list -/
def mGs (n : Nat) (k : List W → MS) : MG := fun w r h => match w with
  | .tup ws => if ws.length = n then k ws r h else .bad
  | .ref p => match h[p]? with
    | some (.lst ws) => if ws.length = n then k ws r h else .bad
    | _ => .bad
  | _ => .bad
section
variable {T : Tx} {X : Cx} {es : List Expr} {k : List W → MS} {pos : Pos}
theorem PG_or {e : Expr} {t u : TG} (a : PG X e t) (b : PG X e u) : PG X e (fun v s H Q => t v s H Q ∨ u v s H Q) := ⟨fun pins s z H v w Q I r h => h.elim (a.run pins s z H v w Q I r) (b.run pins s z H v w Q I r)⟩
theorem sg_seq {kk n : Nat} (h : SGs T X es k) (hc : X.calm = true := by rfl) (hn : (assignEach es X.env).length = n := by rfl) (hst : (assignEach es X.env).findIdx? (·.1) = none := by rfl) (hK : T.K = X.K := by rfl) : SG T X (.Tuple es kk pos) (mGs n k) := fun E cn =>
  PGi (PG_or (pg_tup hc (h E cn) hn hst) (pg_lst hc (h E cn) hn hst)) fun v s H Q ⟨ps, r, h, w, es, vw, wv, gd⟩ => by
    unfold mGs at gd
    split at gd
    · rename_i ws
      split at gd
      · rename_i hl
        obtain ⟨a, vs, rfl, ht, rr⟩ := wv.tup_of
        have l1 : ws.length = vs.length := rr.length
        exact .inl ⟨a, vs, rfl, hK ▸ TupAt.sq (vw.tup a vs ht), by rw [← l1]; exact hl, ps, r, h, ws, es, vw, rr, gd⟩
      · exact gd.elim
    · rename_i p
      obtain ⟨a, ea, rfl⟩ := wv
      split at gd
      · rename_i ws e1
        split at gd
        · rename_i hl
          obtain ⟨vs, rr, eH⟩ := vw.ob _ a _ ea e1
          have l1 : ws.length = vs.length := rr.length
          exact .inr ⟨a, vs, rfl, SqL.of eH, by rw [← l1]; exact hl, ps, r, h, ws, es, vw, rr, gd⟩
        · exact gd.elim
      · exact gd.elim
    · exact gd.elim
end
/-! ### sorted of whole numbers -/
def insI (a : Int) : List Int → List Int
  | [] => [a]
  | b :: l => if a ≤ b then a :: b :: l else b :: insI a l
def sortI : List Int → List Int
  | [] => []
  | a :: l => insI a (sortI l)
theorem insI_perm (a : Int) : ∀ l, (insI a l).Perm (a :: l)
  | [] => List.Perm.refl _
  | b :: l => by
    unfold insI
    split
    · exact List.Perm.refl _
    · exact ((insI_perm a l).cons b).trans (List.Perm.swap a b l)
theorem sortI_perm : ∀ l, (sortI l).Perm l
  | [] => List.Perm.refl _
  | a :: l => (insI_perm a (sortI l)).trans ((sortI_perm l).cons a)
theorem insI_sorted (a : Int) : ∀ l : List Int, l.Pairwise (· ≤ ·) → (insI a l).Pairwise (· ≤ ·)
  | [], _ => List.pairwise_singleton _ _
  | b :: l, h => by
    unfold insI
    obtain ⟨hb1, h2⟩ := List.pairwise_cons.mp h; have h1 := hb1
    split
    · rename_i ab
      refine List.pairwise_cons.mpr ⟨fun c hc => ?_, h⟩
      rcases List.mem_cons.mp hc with rfl | q
      · exact ab
      · exact Int.le_trans ab (h1 c q)
    · rename_i ab
      refine List.pairwise_cons.mpr ⟨fun c hc => ?_, insI_sorted a l h2⟩
      rcases List.mem_cons.mp ((insI_perm a l).mem_iff.mp hc) with rfl | q
      · omega
      · exact h1 c q
theorem sortI_sorted : ∀ l : List Int, (sortI l).Pairwise (· ≤ ·)
  | [] => List.Pairwise.nil
  | a :: l => insI_sorted a _ (sortI_sorted l)
theorem sorted_one : ∀ (l m : List Int), l.Perm m → l.Pairwise (· ≤ ·) → m.Pairwise (· ≤ ·) → l = m
  | [], m, p, _, _ => p.nil_eq
  | a :: l, [], p, _, _ => by have := p.length_eq; simp at this
  | a :: l, b :: m, p, hl, hm => by
    obtain ⟨l1, l2⟩ := List.pairwise_cons.mp hl
    obtain ⟨m1, m2⟩ := List.pairwise_cons.mp hm
    have ha : a ∈ b :: m := p.mem_iff.mp List.mem_cons_self
    have hb : b ∈ a :: l := p.mem_iff.mpr List.mem_cons_self
    have e : a = b := by
      rcases List.mem_cons.mp ha with q | q
      · exact q
      · rcases List.mem_cons.mp hb with q2 | q2
        · exact q2.symm
        · have := l1 b q2
          have := m1 a q
          omega
    subst e
    rw [sorted_one l m (List.Perm.cons_inv p) l2 m2]
def intsOf : List W → Option (List Int)
  | [] => some []
  | .int i :: l => (intsOf l).map (i :: ·)
  | _ => none
theorem intsOf_eq : ∀ {l : List W} {ns : List Int}, intsOf l = some ns → l = ns.map W.int
  | [], ns, e => by cases e; rfl
  | .int i :: l, ns, e => by
    unfold intsOf at e
    cases q : intsOf l with
    | none => rw [q] at e; exact nomatch e
    | some ms =>
      rw [q] at e
      cases e
      rw [List.map_cons, ← intsOf_eq q]
  | .non :: l, ns, e => by cases e
  | .bl _ :: l, ns, e => by cases e
  | .str _ :: l, ns, e => by cases e
  | .ref _ :: l, ns, e => by cases e
  | .fix _ :: l, ns, e => by cases e
  | .ty _ :: l, ns, e => by cases e
def mSorted : MFn := fun ws h => match ws with
  | [.ref p] => match h[p]? with
    | some (.lst xs) => match intsOf xs with
      | some ns => if ns.length < 64 then mNew (.lst ((sortI ns).map W.int)) h else .bad
      | none => .bad
    | _ => .bad
  | _ => .bad
theorem pair_ints {ps : Pl} : ∀ {ns : List Int} {vs : List V}, Paired (WV ps) (ns.map W.int) vs → vs = ns.map V.int
  | [], _, .nil => rfl
  | i :: ns, _, .cons r t => by
    cases r
    rw [List.map_cons, pair_ints t]
theorem ints_pair {ps : Pl} : ∀ {ns : List Int}, Paired (WV ps) (ns.map W.int) (ns.map V.int)
  | [] => .nil
  | i :: ns => .cons rfl ints_pair
section
variable {T : Tx} {X : Cx}
theorem rc_sorted {K : PySem.W.Frag} (hK : T.K = K := by rfl) : RC T (rSorted K) mSorted := by
  subst hK
  intro ps h H ws vs Q E vw wv gd
  unfold mSorted at gd
  split at gd
  · obtain ⟨v, rfl, a, ea, rfl⟩ := one_of wv
    split at gd
    · rename_i xs e1
      split at gd
      · rename_i ns en
        split at gd
        · rename_i hl
          obtain ⟨us, rr, eH⟩ := vw.ob _ a _ ea e1
          have el := intsOf_eq en
          subst el
          have eu := pair_ints rr
          subst eu
          refine ⟨a, ns, rfl, SqL.of eH, hl, fun ms p pm st hp => ?_⟩
          have em : ms = sortI ns := sorted_one _ _ (pm.trans (sortI_perm ns).symm) st (sortI_sorted ns)
          subst em
          exact good_new vw gd (fun H' p' e => ⟨_, ints_pair, e⟩) hp
        · exact gd.elim
      · exact gd.elim
    · exact gd.elim
  · exact gd.elim
end
end VL
end
section
/-! ### KeyError: stores -/
namespace VX
open PySem PySem.F
abbrev keyM : List Value := [.type "KeyError", .type "LookupError", .type "Exception", .type "BaseException", .type "object"]
theorem keyStore : StoreFacts "KeyError" keyM "object.__setattr__" "object" := {
  mro := by kernel_rfl, entry := entry_object_sa, kind := by decide +kernel, split := by decide +kernel, hasOwner := by decide +kernel, args := fun a b c => by { unfold argsOk; kernel_rfl }, passes := fun self => by kernel_rfl,
  slot := .of (owner := "object") (n := "__setattr__") (by rw [typeLookup_type, builtinLookup_eq_fast]; kernel_rfl) (by decide +kernel) (by decide +kernel) (by decide +kernel) (by first | exact .inl (by decide +kernel) | exact .inr (by decide +kernel)) (by rw [isSubtype_type]; kernel_rfl) }
end VX
/-! ### an own error class called, with keywords or without -/
namespace PySem.HandSPX
open PyProof.Rows PySem.Spec PySem
section
variable {prog : Program} {w : World} {A : Around} {E : Value → Shared → Prop} {R : Result → Shared → Prop} {hp : Heap} {g : Array GenState} {dr : Drawn} {tk : Nat} {os : OsState}
variable {nm q : Str} {C N : Addr} {bs bm bmB : List Value} {hdct : Bool} {sn : List Str} {sub : List Value} {ab : Bool} {col : Option Bool} {dd : Option Addr} {k0 k1 k2 k3 k5 : Option Value} {B newId initId : String} {kw : List (Str × Value)} {rest : List Value}
theorem check_newK (FB : ExcBaseFacts B newId initId bmB) (c0 : bm.contains (.type B) = true) {Q : Unit → Shared → Prop} (hC : hp.get? C = some (excClassObj nm q C N bs bm hdct sn sub ab col dd k0 k1 k2 k3 k5 newId)) (hq : Q () ⟨hp, g, dr, tk, os⟩) :
    wpAny (model prog w) A (checkBuiltinCall newId ⟨.ref C :: rest, kw⟩) Q E ⟨hp, g, dr, tk, os⟩ := by
  have c1 : (Value.ref C :: bm).contains (.type B) = true := by rw [List.contains_cons, c0, Bool.or_true]
  have st := FB.noStar
  simp only [checkBuiltinCall, FB.newKind, FB.newSplit, FB.newRow]
  repeat (first | refine wpAny_loadPart_at hC ?_ | (refine wpAny_isSubtype_exc hC ?_; rw [c1]) | refine wpAny_staticBase_exc hC ?_ | refine wpAny_madeBy_exc hC ?_ | simp only [bne_self_eq_false, Bool.false_eq_true, if_false] | wp_step)
  exact hq
theorem newK (FB : ExcBaseFacts B newId initId bmB) (c0 : bm.contains (.type B) = true) (cA : bm.contains (.type "AttributeError") = false) (cN : bm.contains (.type "NameError") = false) (hC : hp.get? C = some (excClassObj nm q C N bs bm hdct sn sub ab col dd k0 k1 k2 k3 k5 newId))
    (hq : R (.ok (.ret (.ref (hp.objs.size + 1)))) ⟨(hp.push (W.kdv_tup rest)).push (excO C hp.objs.size), g, dr, tk, os⟩) (hrest : rest.length ≤ sizeLine) : codeAny (model prog w) A (.builtin newId ⟨.ref C :: rest, kw⟩) R ⟨hp, g, dr, tk, os⟩ := by
  have en := FB.ends
  have c1 : (Value.ref C :: bm).contains (.type B) = true := by rw [List.contains_cons, c0, Bool.or_true]
  have c2 : (Value.ref C :: bm).contains (.type "AttributeError") = false := by rw [List.contains_cons, cA]; rfl
  have c3 : (Value.ref C :: bm).contains (.type "NameError") = false := by rw [List.contains_cons, cN]; rfl
  refine codeAny_builtinAt FB.entry ?_
  unfold Builtin.«BaseException.__new__»; refine wpAt_bind ?_; show wpAt _ _ _ (stack >>= _) _ _ _
  refine wpAt_bind (wpAt_stack fun p9 below9 => wpAt_of_wpAny ?_); wp_walk
  refine wpAt_of_wpAny ?_
  rw [FB.owner]
  repeat (first | with_reducible refine wpAny_madeHere_exc FB.canon hC ?_ | with_reducible refine wpAny_loadPart_at hC ?_ | (with_reducible refine wpAny_isSubtype_exc hC ?_; first | rw [c1] | rw [c2] | rw [c3]) | wp_step)
  show R _ _; rw [Heap.size_push]
  exact hq
theorem type_callK (FB : ExcBaseFacts B newId initId bmB) (c0 : bm.contains (.type B) = true) (cA : bm.contains (.type "AttributeError") = false) (cN : bm.contains (.type "NameError") = false) {fI : Addr} {Q : Fin → Shared → Prop} (hC : hp.get? C = some (excClassObj nm q C N bs bm hdct sn sub ab col dd k0 k1 k2 k3 k5 newId))
    (hi : W.Looks (model prog w) hp (typeLookup (.ref C) "__init__") (some (.ref fI))) (hb : ∀ self, W.Looks (model prog w) hp (bindSpecial (.ref fI) self) (.ref fI, [self])) (hrest : rest.length ≤ sizeLine)
    (hq : codeAny (model prog w) A (.call (.ref fI) ⟨.ref (hp.objs.size + 1) :: rest, kw⟩) (fun r s' => match r with | .ok (.ret v) => v = .none ∧ Q (.done (.ret (.ref (hp.objs.size + 1)))) s' | .ok _ => False | .error e => E e s') ⟨(hp.push (W.kdv_tup rest)).push (excO C hp.objs.size), g, dr, tk, os⟩) :
    wpAny (model prog w) A (Builtin.«type.__call__» ⟨.ref C :: rest, kw⟩) Q E ⟨hp, g, dr, tk, os⟩ := by
  (repeat (first | with_reducible refine wpAny_loadPart_at hC ?_ | with_reducible refine wpAny_madeBy_exc hC ?_ | wp_step)); refine codeAny_call_builtin_code (Code.quiet_builtin _ FB.quiet) (check_newK FB c0 hC ?_); refine newK FB c0 cA cN hC ?_ hrest
  show wpAny _ _ _ _ _ _
  have kk : ∀ b o, hp.get? b = some o → ((hp.push (W.kdv_tup rest)).push (excO C hp.objs.size)).get? b = some o := fun b o e => Heap.get?_push_of_some _ (Heap.get?_push_of_some _ e)
  have gC := kk _ _ hC
  have ge : ((hp.push (W.kdv_tup rest)).push (excO C hp.objs.size)).get? (hp.objs.size + 1) = some (excO C hp.objs.size) := by heap_get
  have cC : (Value.ref C :: bm).contains (.ref C) = true := by simp
  have i1 := hi.keeps kk
  have b1 := (hb (.ref (hp.objs.size + 1))).keeps kk
  unfold isInstance; repeat (first | with_reducible refine wpAny_loadPart_at ge ?_ | (with_reducible refine wpAny_isSubtype_exc gC ?_; rw [cC]) | wp_step)
  show wpAny _ _ (typeLookup (.ref C) _) _ _ _; refine i1.at ?_
  refine wpAny_holding (wpAny_bind (b1.at ?_)); refine wpAny_bind (wpAny_call (codeAny_mono hq fun r s' z => ?_))
  rcases r with e9 | (v9 | _ | _ | _) <;> first | exact z | exact z.elim | skip
  obtain ⟨rfl, z⟩ := z
  first | exact wpAny_pure (wpAny_pure z) | (wp_walk; exact z)
theorem call_ownK (FB : ExcBaseFacts B newId initId bmB) (c0 : bm.contains (.type B) = true) (cA : bm.contains (.type "AttributeError") = false) (cN : bm.contains (.type "NameError") = false) {fI : Addr} (hC : hp.get? C = some (excClassObj nm q C N bs bm hdct sn sub ab col dd k0 k1 k2 k3 k5 newId))
    (hi : W.Looks (model prog w) hp (typeLookup (.ref C) "__init__") (some (.ref fI))) (hb : ∀ self, W.Looks (model prog w) hp (bindSpecial (.ref fI) self) (.ref fI, [self])) (hrest : rest.length ≤ sizeLine)
    (hq : codeAny (model prog w) (A.under (.builtin "type.__call__" ⟨.ref C :: rest, kw⟩)) (.call (.ref fI) ⟨.ref (hp.objs.size + 1) :: rest, kw⟩) (W.InitBack (hp.objs.size + 1) R) ⟨(hp.push (W.kdv_tup rest)).push (excO C hp.objs.size), g, dr, tk, os⟩) :
    codeAny (model prog w) A (.call (.ref C) ⟨rest, kw⟩) R ⟨hp, g, dr, tk, os⟩ := by
  have f1 := tc_lookup
  have f2 := tc_bind (.ref C)
  have hTy : (⟨hp, g, dr, tk, os⟩ : Shared).TypeIs (.ref C) "type" := ⟨_, hC, rfl⟩
  refine codeAny_of_tree ?_; show wpAny _ _ (callAny (.ref C) _) _ _ _
  (repeat (any_goals (first | assumption | with_reducible refine wpAny_loadPart_at hC ?_ | wp_step))); refine ⟨rfl, ?_⟩; refine codeAny_call_builtin_at (Code.quiet_builtin _ (by decide +kernel)) entry_typeCall ?_
  refine wpAny_check_type_call_sub hC (type_callK FB c0 cA cN hC hi hb hrest ?_)
  refine codeAny_mono hq fun r9 s9 z => ?_
  rcases r9 with e9 | (v9 | _ | _ | _) <;> exact z
end
end PySem.HandSPX
end
section
namespace VL
open PySem L2 PySem.Spec PyProof.Rows
/-! ### own error classes over any of Python's errors, KeyError too: the class that makes and the class that stores may differ -/
structure OexH (K : PySem.W.Frag) (C : Addr) : Prop where
  wh : ∃ (B newId initId : String) (bmN : List Value) (B2 : String) (bmS : List Value), ExcBaseFacts B newId initId bmN ∧ StoreFacts B2 bmS "object.__setattr__" "object" ∧ ∃ nm q N bs bm sn sub ab col dd k0 k1 k2 k3 k5,
    K.lookup C = some (excClassObj nm q C N bs bm true sn sub ab col dd k0 k1 k2 k3 k5 newId) ∧ PySem.W.excTail bmS bm = true ∧ bm.contains (.type B) = true ∧ bm.contains (.type "AttributeError") = false ∧ bm.contains (.type "NameError") = false
  st : PySem.W.findIn K (.ref C) "__setattr__" = some (some (.builtin "object.__setattr__"))
  be : PySem.W.subIn K (.ref C) (.type "BaseException") = some true
  ty : PySem.W.typeIn K (.ref C) = some (.type "type")
  kp : PySem.W.keepIn K (Value.ref C) = true
section
variable {X : Cx} {pins : List (Addr × Obj)} {z : L2.St} {H : Hp} {s : Shared} {a C : Addr} {f : Str} {y : V} {u : Value} {Q : Unit → Shared → Prop} {E : Value → Shared → Prop} {A : Around}
theorem ostH (T : OexH X.K C) (I : Inv X pins z H s) (e : H a = some (exo a C none)) (hno : PySem.W.findIn X.K (.ref C) f = some none) (ry : RelV y u)
    (k : ∀ dx s2, H dx = none → dx ≠ a → Inv X pins z (upd (upd H dx (exd dx [(f, y)])) a (exo a C (some dx))) s2 → Q () s2) : wpAny (model X.prog X.w) A (setAttr (.ref a) f u) Q E s := by
  obtain ⟨B, newId, initId, bmB0, B2, bmB, FB, SF, nm, q, N, bs, bm, sn, sub, ab, col, dd, k0, k1, k2, k3, k5, hC, hbm, c0, cA, cN⟩ := T.wh
  have hcl : PySem.W.clsIn X.K C = some ⟨nm, bs, .ref C :: bm, N, q, true, sn, sub, ab, col, false⟩ := by
    unfold PySem.W.clsIn
    rw [hC] <;> rfl
  have hov : PySem.W.excOver X.K C bmB = true := by
    unfold PySem.W.excOver
    rw [hcl]
    simp [hbm]
  obtain ⟨t1, ho⟩ := exo_at I.hok e; obtain ⟨hp, g, d, t, os⟩ := s
  refine PySem.W.set_plain I.kIn (ox := { cls := .ref C, dict := none, data := .fields #[.ref t1, .none, .none, .none, .bool false, .none] }) (od := none) ⟨ho, rfl, rfl, trivial⟩ T.st (osaG SF I.kIn ho hcl hov rfl hno fun h2 t2 dx kk dn dne hx hn => ?_)
  have fr : H dx = none := I.hok.fresh dn
  have nd : ∀ b o, hp.get? b = some o → b ≠ dx := fun b o r => Nat.ne_of_lt (Nat.lt_of_lt_of_le (Heap.lt_size r) dn)
  have na : ∀ b, H b = none → b ≠ a := fun b r c => by rw [c, e] at r; cases r
  have ch : ∀ b o, H b = some o → b ≠ dx := fun b o r c => by rw [c, fr] at r; cases r
  refine k dx _ fr dne (I.un (t' := t2) ⟨fun b o r n _ _ => kk b o (na b n) r, fun b o r n _ _ => ⟨o.slots, kk b o (na b n) r⟩, fun b o r n _ => ?_, fun b o r _ => ?_, fun b xs r => ?_, fun b o v r => ?_, fun b ps r => ⟨#[], ?_⟩⟩ fun b o r => ?_)
  · rw [upd_ne (na b n), upd_ne (nd b o r), n]
  · by_cases c : b = a
    · subst c; exact ⟨_, hx⟩
    · exact ⟨o, kk b o c r⟩
  · rw [upd_ne (at_ne e r exo_tup), upd_ne (ch b _ r), r]
  · rw [upd_ne (at_ne e r exo_frz), upd_ne (ch b _ r), r]
  · rw [upd_ne (at_ne e r exo_tbl), upd_ne (ch b _ r), r]; simp
  · by_cases c : b = a
    · subst c
      rw [upd_same] at r
      cases r
      exact exo_ok hx
    · rw [upd_ne c] at r
      by_cases c2 : b = dx
      · subst c2
        rw [upd_same] at r
        cases r
        exact exd_ok hn (relO_put (fs := []) ry fun _ => trivial)
      · rw [upd_ne c2] at r
        refine (I.hok b o r).stay (fun m v hm z2 => kk m v ?_ z2) (fun m hm => ?_) fun m xs hm => ?_
        · rcases hm with hm | hm
          · exact hm ▸ c
          · exact at_ne e hm exo_own
        · rw [upd_ne (at_ne e hm exo_own), upd_ne (ch m _ hm), hm]
        · rw [upd_ne (at_ne e hm exo_tup), upd_ne (ch m _ hm), hm]
end
/-- self.f = e, of an error that has no field yet -/
def tOstH (K : PySem.W.Frag) (f : Str) (to te : TE) : TS := fun D z H => te z H fun y H1 => to z H1 fun x H2 => ∃ a C : Addr, x = .ref a ∧ OexH K C ∧ PySem.W.findIn K (.ref C) f = some none ∧ H2 a = some (exo a C none) ∧ ∀ dx, H2 dx = none → dx ≠ a → D.nx z (upd (upd H2 dx (exd dx [(f, y)])) a (exo a C (some dx)))
section
variable {X : Cx} {o e : Expr} {es : List Expr} {to te : TE} {ta : TA} {f : Str} {p p' pos : Pos}
theorem ps_ostH (ho : PE X o to) (he : PE X e te) (hs : swapsWith e (some (.Attribute o f p')) pos.line X.env = pure false := by rfl) : PS X (.Assign [.Attribute o f p'] e pos) (tOstH X.K f to te) :=
  ⟨fun pins s z H D I h => plainObj_wpAny_Assign_Attribute (thn (he.run pins s z H _ I h) fun v s1 ⟨y, H1, I1, r1, q1⟩ => thn (ho.run pins s1 z H1 _ I1 q1) fun u s2 ⟨x, H2, I2, r2, a, C, ex, T, hno, ea, q⟩ => by
    subst ex; obtain rfl : u = Value.ref a := r2
    exact ostH T I2 ea hno r1 fun dx s3 n ne J => ⟨z, _, J, q dx n ne⟩) hs⟩
theorem pmk_oexH {CX : CXT} {x : Str} {C fI : Addr} {k : Nat} {fd : FuncData} {ps : List Str} {sp : Sp} {ds : List Value} {dvs : List V} (T : OexH X.K C) (iC : PySem.W.findIn X.K (.ref C) "__init__" = some (some (.ref fI))) (tI : PySem.W.typeIn X.K (.ref fI) = some (.type "function"))
    (hr : Room (k + 1) X.A) (F1 : FnOk X.prog X.w X.K X.mg X.base CX k fI fd ps sp) (hb : Binds X.K fd ps ds) (hd : Vals dvs ds) (hx : Passes CX X (fun _ _ _ => False)) (hg : Gl X x) (hm : X.mg x = some (.ref C)) (ha : PA X (e :: es) ta)
    (hdb : (x == ("__debug__" : Str)) = false := by decide) (he : starEach (e :: es) X.env = (false, eval e X.env) :: starEach es X.env := by rfl) (hpl : (backTo pos (starEach es X.env)).any (·.1) = false := by rfl) : PMk X (.Call (.Name x p) (e :: es) [] pos) (tMkO C sp dvs ta) := fun pins s z H Q I h => by
  obtain ⟨B, newId, initId, bmB0, B2, bmB, FB, SF, nm, q, N, bs, bm, sn, sub, ab, col, dd, k0, k1, k2, k3, k5, hC, hbm, c0, cA, cN⟩ := T.wh
  refine wpAny_Call_Name_kw (ld_glob I hg hm (PySem.W.callWith_K (h₀ := X.base) I.ok.mod.kin T.kp (thn (ha.run pos pins s z H _ I h) fun us s1 ⟨vs, H1, I1, r1, hz, q1⟩ => ⟨I1.kIn, ?_⟩) he hpl) hdb)
  show wpAny _ _ (call (.ref C) us) _ _ _; obtain ⟨hp, g, dr, tk, os⟩ := s1
  let b := hp.objs.size + 1
  let h2 := (hp.push (PySem.W.kdv_tup us)).push (PySem.HandSPX.excO C hp.objs.size)
  have le : hp.objs.size ≤ b := Nat.le_succ _
  have hq := q1 b (I1.hok.fresh le)
  have kk : ∀ c o, hp.get? c = some o → h2.get? c = some o := fun c o r => Heap.get?_push_of_some _ (Heap.get?_push_of_some _ r)
  have gb : h2.get? b = some (PySem.HandSPX.excO C hp.objs.size) := by
    show ((hp.push (PySem.W.kdv_tup us)).push (PySem.HandSPX.excO C hp.objs.size)).get? (hp.objs.size + 1) = _
    heap_get
  have I2 : Inv X pins z (upd H1 b (exo b C none)) ⟨h2, g, dr, tk, os⟩ := I1.laid (t' := tk) (a := b) (h' := h2) kk le (exo_ok gb)
  have r2 : Vals (V.ref b :: (vs ++ dvs)) (Value.ref b :: (us ++ ds)) := .cons rfl (r1.append hd)
  have ln : (Value.ref b :: us ++ ds).length = ps.length := r2.length.symm.trans (F1.len _ _ _ _ hq)
  have lu : us.length ≤ sizeLine := by rw [← Paired.length r1, sizeLine_eq]; omega
  refine wpAny_call (PySem.HandSPX.call_ownK FB c0 cA cN (I1.kIn _ _ hC) (PySem.W.looks_findIn I1.kIn iC) (fun self => PySem.W.bind_fn I1.kIn self tI) lu (codeAny_mono (F1.run _ X.stack _ _ ⟨Value.ref b :: us, []⟩ (Value.ref b :: (us ++ ds)) _ _ (fun _ _ _ => False) (hr.make C us []) (I2.env0.make C us []) (hb _ (Value.ref b :: us) I2.kIn ln) r2 hq) fun r s2 hq2 => ?_))
  cases r with
  | error er => exact hx pins z _ _ er s2 I2 hq2
  | ok fl => cases fl with
    | ret u =>
      obtain ⟨v, H2, o2, br, un2, hok2, rv, ev, d, fs, ea, ed, hd1, q2⟩ := hq2
      subst ev; obtain ⟨h3, g2, d2, t2, o3⟩ := s2
      exact ⟨rv, mk_end (raises_own T.be T.ty) I1 le kk un2 hok2 o2 br ea ed hd1 q2⟩
    | next => exact hq2.elim
    | brk => exact hq2.elim
    | cont => exact hq2.elim
end
/-- what the text says of the error's class -/
structure ErrH (P : Program) (w : World) (K : PySem.W.Frag) (mg : Str → Option Value) (base : Heap) (x f : Str) (C : Addr) : Prop where
  oex : OexH K C
  mgC : mg x = some (.ref C)
  ini : ∃ fI fd, PySem.W.findIn K (.ref C) "__init__" = some (some (.ref fI)) ∧ PySem.W.typeIn K (.ref fI) = some (.type "function") ∧ FnOk P w K mg base CX0 1 fI fd ["self", f] (spInit K C f) ∧ Binds K fd ["self", f] [] ∧ ∀ (s : Shared) (y u : Value), BindsTo s fd ⟨[y], [(f, u)]⟩ ((["self", f] : List Str).zip [y, u])
section
variable {T : Tx} {X : Cx} {C : Addr} {cn9 : String} {x f : Str} {e : Expr} {g : Ws → Hv → Res (List W)} {p pos pos' : Pos}
theorem ss_raiseH (Z : ErrH X.prog X.w X.K X.mg X.base x f C) (hcv : T.cv cn9 = .ref C) (hr : Room 2 X.A) (hg : Gl X x) (ha : SA T X [e] g) (hc : X.calm = true := by rfl) (hdb : (x == ("__debug__" : Str)) = false := by decide)
    (he : starEach [e] X.env = (false, eval e X.env) :: starEach [] X.env := by rfl) (hpl : (backTo pos' (starEach [] X.env)).any (·.1) = false := by rfl) : SS T X (.Raise (some (.Call (.Name x p) [e] [] pos')) none pos) (mRaise cn9 f g) := fun E cn => by
  obtain ⟨fI, fd, h1, h2, h3, h4, _⟩ := Z.ini
  refine PSi (ps_raise hc cn.tk (pmk_oexH Z.oex h1 h2 hr h3 h4 .nil pass0 hg Z.mgC (ha E cn) hdb he hpl)) fun D s H ⟨ps, r, hv, es, vw, gd⟩ => ?_
  refine ⟨ps, r, hv, es, vw, (good_andS (R := WVs) es gd).imp (fun vs H1 q => ?_) fun _ _ _ z => z⟩
  obtain ⟨qs, ws, hh, st, vw1, wv, es1, g1⟩ := q
  split at g1
  · rename_i w
    obtain ⟨v, rfl, wv1⟩ := one_of wv
    refine ⟨by simp, fun a na => ⟨a, v, rfl, upd_same, fun dx hd ne => ⟨rfl, dx, [(f, v)], upd_same, by rw [upd_ne ne, upd_same], ?_, ?_⟩⟩⟩
    · rw [upd_ne ne] at hd
      exact hd
    · rw [upd_ne ne] at hd
      have eqH : upd (del (upd (upd (upd H1 a (exo a C none)) dx (exd dx [(f, v)])) a (exo a C (some dx))) a) dx (.xd [(f, v)]) = upd H1 dx (.xd [(f, v)]) := by
        funext b
        by_cases hb : b = dx
        · rw [hb, upd_same, upd_same]
        · rw [upd_ne hb, upd_ne hb]
          by_cases ha : b = a
          · rw [ha, del_same, na]
          · rw [del_ne ha, upd_ne ha, upd_ne hb, upd_ne ha]
      rw [eqH]
      obtain ⟨vw2, st2, e2⟩ := vw1.alloc hd (o := .xd [(f, w)]) (u := .xd [(f, v)]) ⟨_, .cons ⟨rfl, wv1⟩ .nil, upd_same⟩
      rw [← hcv]
      exact g1 _ _ s (some dx) st2 vw2 (es1.mono st2.pre) ⟨dx, e2, rfl⟩
  · exact g1.elim
end

/-! ### an error as a value -/
theorem kbind1 {K : PySem.W.Frag} {x qual fl : Str} {st : Stmt} {f : Addr} {fd : FuncData} {ps : List Str} (F : Fun K x qual st f fd)
    (h : ∀ (kV doc pm : Value) (an : Option Addr) (cdv ct u v : Value), bindArgs (PySem.W.fnOf x qual (defArgs st) (defBody st) (defScope st) .none kV doc pm an cdv ct) ⟨[u], [(fl, v)]⟩ = pure (ps.zip [u, v])) (s : Shared) (u v : Value) : BindsTo s fd ⟨[u], [(fl, v)]⟩ (ps.zip [u, v]) := by
  obtain ⟨oc, od, kV, doc, pm, an, cdv, ct, osl, e, l, c⟩ := F.ex
  subst e
  exact .of_eq (h kV doc pm an cdv ct u v)
section
variable {X : Cx} {C : Addr} {f x : Str} {e : Expr} {ta : TA} {p pos : Pos}
theorem run_mkV (Z : ErrH X.prog X.w X.K X.mg X.base x f C) (hr : Room 2 X.A) {pins : List (Addr × Obj)} {z : L2.St} {H1 : Hp} {s1 : Shared} {Q : VK} {v : V} {u : Value} {rest : List Value} {kw : List (Str × Value)} (hrk : (rest = [u] ∧ kw = []) ∨ (rest = [] ∧ kw = [(f, u)])) (I1 : Inv X pins z H1 s1) (ru : RelV v u)
    (h : ∀ a dx, H1 a = none → H1 dx = none → dx ≠ a → Q (.ref a) (upd (upd H1 dx (exd dx [(f, v)])) a (exo a C (some dx)))) : wpAny (model X.prog X.w) X.A (call (.ref C) rest kw) (EP X pins z Q) X.xe s1 := by
  obtain ⟨fI, fd, iC, tI, F1, b1, b2⟩ := Z.ini
  obtain ⟨B, newId, initId, bmB0, B2, bmB, FB, SF, nm, q, N, bs, bm, sn, sub, ab, col, dd, k0, k1, k2, k3, k5, hC, hbm, c0, cA, cN⟩ := Z.oex.wh
  rcases s1 with ⟨hp, g, dr, tk, os⟩
  let b := hp.objs.size + 1
  let h2 := (hp.push (PySem.W.kdv_tup rest)).push (PySem.HandSPX.excO C hp.objs.size)
  have le : hp.objs.size ≤ b := Nat.le_succ _
  have nb : H1 b = none := I1.hok.fresh le
  have kk : ∀ c o, hp.get? c = some o → h2.get? c = some o := fun c o r => Heap.get?_push_of_some _ (Heap.get?_push_of_some _ r)
  have gb : h2.get? b = some (PySem.HandSPX.excO C hp.objs.size) := by
    show ((hp.push (PySem.W.kdv_tup rest)).push (PySem.HandSPX.excO C hp.objs.size)).get? (hp.objs.size + 1) = _
    heap_get
  have I2 : Inv X pins z (upd H1 b (exo b C none)) ⟨h2, g, dr, tk, os⟩ := I1.laid (t' := tk) (a := b) (h' := h2) kk le (exo_ok gb)
  have hq : spInit X.K C f [.ref b, v] (upd H1 b (exo b C none)) (fun y H' => y = .non ∧ Q (.ref b) H') (fun _ _ _ => False) := ⟨b, v, rfl, upd_same, fun dx hd ne => ⟨rfl, by
    rw [upd_ne ne] at hd
    have eqH : upd (upd (upd H1 b (exo b C none)) dx (exd dx [(f, v)])) b (exo b C (some dx)) = upd (upd H1 dx (exd dx [(f, v)])) b (exo b C (some dx)) := by
      funext c
      by_cases hb : c = b
      · rw [hb, upd_same, upd_same]
      · rw [upd_ne hb, upd_ne hb]
        by_cases hd2 : c = dx
        · rw [hd2, upd_same, upd_same]
        · rw [upd_ne hd2, upd_ne hd2, upd_ne hb]
    rw [eqH]
    exact h b dx nb hd ne⟩⟩
  have bt : BindsTo (⟨h2, g, dr, tk, os⟩ : Shared) fd ⟨.ref b :: rest, kw⟩ ((["self", f] : List Str).zip [.ref b, u]) := by
    rcases hrk with ⟨rfl, rfl⟩ | ⟨rfl, rfl⟩
    · exact b1 _ [.ref b, u] I2.kIn rfl
    · exact b2 _ _ _
  have lr : rest.length ≤ sizeLine := by
    rcases hrk with ⟨rfl, rfl⟩ | ⟨rfl, rfl⟩ <;> simp [sizeLine_eq]
  refine wpAny_call (PySem.HandSPX.call_ownK FB c0 cA cN (I1.kIn _ _ hC) (PySem.W.looks_findIn I1.kIn iC) (fun self => PySem.W.bind_fn I1.kIn self tI) lr (codeAny_mono (F1.run _ X.stack _ _ ⟨.ref b :: rest, kw⟩ [.ref b, u] [.ref b, v] _ (fun _ _ _ => False) (hr.make C rest kw) (I2.env0.make C rest kw) bt (.cons rfl (.cons ru .nil)) hq) fun r s2 hq2 => ?_))
  cases r with
  | error er => exact pass0 pins z _ _ er s2 I2 hq2
  | ok fl => cases fl with
    | ret w =>
      obtain ⟨y, H', I3, rv, ev, q3⟩ := I2.after hq2
      subst ev
      exact ⟨rv, .ref b, H', I3, rfl, q3⟩
    | next => exact hq2.elim
    | brk => exact hq2.elim
    | cont => exact hq2.elim
def tMkV (C : Addr) (f : Str) (ta : TA) : TE := fun z H Q => ta z H fun vs H1 => ∃ v, vs = [v] ∧ ∀ a dx, H1 a = none → H1 dx = none → dx ≠ a → Q (.ref a) (upd (upd H1 dx (exd dx [(f, v)])) a (exo a C (some dx)))
theorem pe_mkV (Z : ErrH X.prog X.w X.K X.mg X.base x f C) (hr : Room 2 X.A) (hg : Gl X x) (ha : PA X [e] ta) (hdb : (x == ("__debug__" : Str)) = false := by decide)
    (he : starEach [e] X.env = (false, eval e X.env) :: starEach [] X.env := by rfl) (hpl : (backTo pos (starEach [] X.env)).any (·.1) = false := by rfl) : PE X (.Call (.Name x p) [e] [] pos) (tMkV C f ta) := ⟨fun pins s z H Q I h => by
  refine wpAny_Call_Name_kw (ld_glob I hg Z.mgC (PySem.W.callWith_K (h₀ := X.base) I.ok.mod.kin Z.oex.kp (thn (ha.run pos pins s z H _ I h) fun us s1 ⟨vs, H1, I1, r1, v, ev, q1⟩ => ⟨I1.kIn, ?_⟩) he hpl) hdb)
  subst ev
  obtain ⟨u9, rfl, ru⟩ := vals1 r1
  exact run_mkV Z hr (.inl ⟨rfl, rfl⟩) I1 ru q1⟩
theorem pe_mkVK {kws : List Keyword} (Z : ErrH X.prog X.w X.K X.mg X.base x f C) (hr : Room 2 X.A) (hg : Gl X x) (hkw : PK X kws ta) (hall : (backToKw pos (keywordEach kws X.env)).all (·.1.isSome) = true := by rfl) (hks : (backToKw pos (keywordEach kws X.env)).filterMap (·.1) = [f] := by rfl)
    (hdb : (x == ("__debug__" : Str)) = false := by decide) (hpl : ((backTo pos (starEach [] X.env)).any (·.1) || (backToKw pos (keywordEach kws X.env)).any (·.1.isNone)) = false := by rfl) : PE X (.Call (.Name x p) [] kws pos) (tMkV C f ta) := ⟨fun pins s z H Q I h => by
  refine wpAny_Call_Name_kw (ld_glob I hg Z.mgC (PySem.W.callWith_KW0 (h₀ := X.base) I.ok.mod.kin Z.oex.kp hall (thn (hkw.run pos pins s z H _ I h) fun us s1 ⟨vs, H1, I1, r1, v, ev, q1⟩ => ⟨I1.kIn, ?_⟩) hpl) hdb)
  subst ev
  obtain ⟨u9, rfl, ru⟩ := vals1 r1
  rw [hks]
  exact run_mkV Z hr (.inr ⟨rfl, rfl⟩) I1 ru q1⟩
/-- e.n, e an error -/
theorem pe_erf {te : TE} {n : Str} (Y : XfC X.K C) (hno : PySem.W.findIn X.K (.ref C) n = some none) (he : PE X e te) (hb : attributeBase e n X.env (eval e X.env) = eval e X.env := by rfl) :
    PE X (.Attribute e n pos) (fun z H Q => te z H fun y H1 => ∃ a dd fs v, y = .ref a ∧ H1 a = some (exo a C (some dd)) ∧ H1 dd = some (exd dd fs) ∧ fs.lookup n = some v ∧ Q v H1) := ⟨fun pins s z H Q I h => attr_of hb (thn (he.run pins s z H _ I h) fun u s1 hh => by
  obtain ⟨y, H1, I1, rx, a, dd, fs, v, ex, ea, ed, l, q⟩ := hh
  subst ex
  have eu : u = Value.ref a := rx
  subst eu
  obtain ⟨t1, ho⟩ := exo_at I1.hok ea
  obtain ⟨mA, hns, hr⟩ := exd_at I1.hok ed
  obtain ⟨od, hod, hl⟩ := lookIn_ns hns
  obtain ⟨u9, hu, ru⟩ := RelO.some_of (v := v) (o := mA n) (by rw [← l]; exact hr n)
  exact HandSPX.exc_get I1.kIn (ox := { cls := .ref C, dict := some dd, data := .fields #[.ref t1, .none, .none, .none, .bool false, .none] }) (od := some od) ⟨ho, rfl, rfl, hod⟩ Y.ga Y.gg Y.exC (PySem.W.findObj_own Y.hdC hno rfl (by rw [hl, hu])) (handed_of ru) ⟨v, H1, I1.tok _, ru, q⟩)⟩
/-- isinstance(e, c), e an error -/
def rIsV (K : PySem.W.Frag) (cv : Value) : List V → Hp → VK → Prop := fun xs H Q => ∃ (a D dd : Addr) (fs : List (Str × V)) (c : V) (b : Bool), xs = [.ref a, c] ∧ ExcC K D ∧ H a = some (exo a D (some dd)) ∧ H dd = some (exd dd fs) ∧ (∀ u, RelV c u → u = cv) ∧ PySem.W.kitOne K (.ref D) cv = some b ∧ Q (.bl b) H
theorem call_isV {cv : Value} : CallR X (.builtin "isinstance") (rIsV X.K cv) := by
  intro pins s σ H xs us Q I r h; obtain ⟨a, D, dd, fs, c, b, rfl, Z, ea, ed, hcv, e, q⟩ := h
  cases r with
  | cons rx rr => cases rr with
    | cons rt rr =>
      cases rr; cases rx; obtain rfl := hcv _ rt
      obtain ⟨t1, ho⟩ := exo_at I.hok ea
      obtain ⟨mA, hns, hr⟩ := exd_at I.hok ed
      obtain ⟨od, hod, hl⟩ := lookIn_ns hns
      exact PySem.W.kia_one (VX.kit_of (x := a) (ox := { cls := .ref D, dict := some dd, data := .fields #[.ref t1, .none, .none, .none, .bool false, .none] }) Z) I.kIn ⟨some od, ho, rfl, rfl, hod⟩ e (fun z => nomatch z) fun tk => ⟨.bl b, H, I.kept (t' := tk) fun _ _ z => z, rfl, q⟩
end
/-! ### the mirrors -/
def mMkO (c : String) (f : Str) (ws : List W) (h : Hv) : Res W := match ws with
  | [w] => .val (.ref (h.length + 1)) (h ++ [.xdd [(f, w)]] ++ [.err c h.length])
  | _ => .bad
def mMkV (c : String) (f : Str) (g : Ws → Hv → Res (List W)) : Ws → Hv → Res W := fun r h => (g r h).bind (mMkO c f)
def mErO (c : String) (f : Str) (w : W) (h : Hv) : Res W := match w with
  | .ref p => (match h[p]? with
    | some (.err d j) => if d = c then (match h[j]? with
      | some (.xdd fs) => ofO (fs.lookup f) h
      | _ => .bad) else .bad
    | _ => .bad)
  | _ => .bad
def mEr (c : String) (f : Str) (g : Ws → Hv → Res W) : Ws → Hv → Res W := fun r h => (g r h).bind (mErO c f)
def mIvO (tb : List (String × Bool)) (w : W) (h : Hv) : Res W := match w with
  | .ref p => (match h[p]? with
    | some (.err d j) => (match h[j]?, tb.lookup d with
      | some (.xdd _), some b => .val (.bl b) h
      | _, _ => .bad)
    | _ => .bad)
  | _ => .bad
def mIv (tb : List (String × Bool)) (g : Ws → Hv → Res W) : Ws → Hv → Res W := fun r h => (g r h).bind (mIvO tb)
section
variable {T : Tx} {X : Cx} {C : Addr} {cn9 : String} {x f : Str} {e : Expr} {g : Ws → Hv → Res (List W)} {fe : Ws → Hv → Res W} {p pos : Pos}
theorem mk_read {ta : TA} {E : WX} (hcv : T.cv cn9 = .ref C) {s : L2.St} {H : Hp} {Q : VK} (h : tE T E (mMkV cn9 f g) s H Q) : tMkV C f (tA T E g) s H Q := by
  obtain ⟨ps, r, hv, es, vw, gd⟩ := h
  refine ⟨ps, r, hv, es, vw, (Good.bind (R := WVs) (S := WV) gd).imp (fun v H1 q => ?_) fun _ _ _ z => z⟩
  obtain ⟨qs, ws, h1, st, vw1, wv, g1⟩ := q
  unfold mMkO at g1
  split at g1
  · rename_i w
    obtain ⟨v, rfl, wv1⟩ := one_of wv
    refine ⟨v, rfl, fun a dx na nd ne => ?_⟩
    obtain ⟨vw2, st2, e2⟩ := vw1.alloc nd (o := .xdd [(f, w)]) (u := exd dx [(f, v)]) ⟨_, .cons ⟨rfl, wv1⟩ .nil, upd_same⟩
    have na2 : upd H1 dx (exd dx [(f, v)]) a = none := by rw [upd_ne (Ne.symm ne)]; exact na
    obtain ⟨vw3, st3, e3⟩ := vw2.alloc na2 (o := .err cn9 h1.length) (u := exo a C (some dx)) ⟨C, dx, hcv, e2, upd_same⟩
    have ln : (h1 ++ [O.xdd [(f, w)]]).length = h1.length + 1 := by simp
    rw [ln] at e3
    exact g1 _ _ _ (st2.trans st3) vw3 ⟨a, e3, rfl⟩
  · exact g1.elim
theorem se_mkV (Z : ErrH X.prog X.w X.K X.mg X.base x f C) (hcv : T.cv cn9 = .ref C) (hr : Room 2 X.A) (hg : Gl X x) (ha : SA T X [e] g) (hdb : (x == ("__debug__" : Str)) = false := by decide)
    (he : starEach [e] X.env = (false, eval e X.env) :: starEach [] X.env := by rfl) (hpl : (backTo pos (starEach [] X.env)).any (·.1) = false := by rfl) : SE T X (.Call (.Name x p) [e] [] pos) (mMkV cn9 f g) := fun E cn => PEi (pe_mkV Z hr hg (ha E cn) hdb he hpl) fun s H Q h => mk_read (ta := tA T E g) hcv h
theorem kw_read {E : WX} {s : L2.St} {H : Hp} {Q : List V → Hp → Prop} (h : tA T E (mCons fe mNil) s H Q) : tCons (tE T E fe) tNil s H Q := by
  obtain ⟨ps, r, hv, es, vw, gd⟩ := h
  refine ⟨ps, r, hv, es, vw, (Good.bind (R := WV) (S := WVs) gd).imp (fun v H1 q => ?_) fun _ _ _ z => z⟩
  obtain ⟨qs, w, h1, st, vw1, wv, g1⟩ := q
  exact Good.now (R := WVs) g1 vw1 (.cons wv .nil)
theorem PKi {kws : List Keyword} {t t' : TA} (h : PK X kws t) (k : ∀ s H Q, t' s H Q → t s H Q) : PK X kws t' := ⟨fun pos pins s σ H Q I hw => h.run pos pins s σ H Q I (k _ _ _ hw)⟩
theorem se_mkVK {nm : Option Str} {kpos : Pos} (Z : ErrH X.prog X.w X.K X.mg X.base x f C) (hcv : T.cv cn9 = .ref C) (hr : Room 2 X.A) (hg : Gl X x) (he : SE T X e fe) (hall : (backToKw pos (keywordEach [⟨nm, e, kpos⟩] X.env)).all (·.1.isSome) = true := by rfl) (hks : (backToKw pos (keywordEach [⟨nm, e, kpos⟩] X.env)).filterMap (·.1) = [f] := by rfl)
    (hdb : (x == ("__debug__" : Str)) = false := by decide) (hpl : ((backTo pos (starEach [] X.env)).any (·.1) || (backToKw pos (keywordEach [⟨nm, e, kpos⟩] X.env)).any (·.1.isNone)) = false := by rfl) : SE T X (.Call (.Name x p) [] [⟨nm, e, kpos⟩] pos) (mMkV cn9 f (mCons fe mNil)) := fun E cn =>
  PEi (pe_mkVK Z hr hg (PKi (pk_cons (he E cn) pk_nil) fun s H Q h => kw_read h) hall hks hdb hpl) fun s H Q h => mk_read (ta := tA T E (mCons fe mNil)) hcv h
theorem se_er {n : Str} (Y : XfC X.K C) (hno : PySem.W.findIn X.K (.ref C) n = some none) (hcv : T.cv cn9 = .ref C) (he : SE T X e fe) (hb : attributeBase e n X.env (eval e X.env) = eval e X.env := by rfl) : SE T X (.Attribute e n pos) (mEr cn9 n fe) := fun E cn => PEi (pe_erf Y hno (he E cn) hb) fun s H Q ⟨ps, r, hv, es, vw, gd⟩ => by
  refine ⟨ps, r, hv, es, vw, (Good.bind (R := WV) (S := WV) gd).imp (fun v H1 q => ?_) fun _ _ _ z => z⟩
  obtain ⟨qs, w, h1, st, vw1, wv, g1⟩ := q
  unfold mErO at g1
  split at g1
  · obtain ⟨a, ea, rfl⟩ := wv
    split at g1
    · rename_i d j e1
      split at g1
      · rename_i hd
        subst hd
        split at g1
        · rename_i fs e2
          obtain ⟨w, ew, g2⟩ := ofO_of g1
          obtain ⟨C', dx, hc, ej, eH⟩ := vw1.ob _ a _ ea e1
          rw [hcv] at hc
          cases hc
          obtain ⟨vs, rr, eX⟩ := vw1.ob _ dx _ ej e2
          obtain ⟨v, ev, wv⟩ := paired_lookup rr ew
          exact ⟨a, dx, vs, v, rfl, eH, eX, ev, Good.now g2 vw1 wv⟩
        · exact g1.elim
      · exact g1.elim
    · exact g1.elim
  · exact g1.elim
theorem se_iv {ec : Expr} {c : V} {cv : Value} {tb : List (String × Bool)} (htb : ∀ d b, tb.lookup d = some b → ∃ D, T.cv d = .ref D ∧ ExcC X.K D ∧ PySem.W.kitOne X.K (.ref D) cv = some b) (hgi : Gl X "isinstance") (hmi : X.mg "isinstance" = none) (he : SE T X e fe) (hc : PE X ec (tC c)) (hcv : ∀ u, RelV c u → u = cv)
    (hs1 : starEach [e, ec] X.env = (false, eval e X.env) :: starEach [ec] X.env := by rfl) (hs2 : starEach [ec] X.env = (false, eval ec X.env) :: starEach [] X.env := by rfl) (hpl : (backTo pos (starEach [ec] X.env)).any (·.1) = false := by rfl) :
    SE T X (.Call (.Name "isinstance" p) [e, ec] [] pos) (mIv tb fe) := fun E cn =>
  PEi (pe_callB (call_isV (cv := cv)) hgi hmi (by decide +kernel) (pa_cons (he E cn) (pa_cons hc pa_nil hs2) hs1) (by decide) (by decide) hs1 hpl) fun s H Q ⟨ps, r, hv, es, vw, gd⟩ => by
    refine ⟨ps, r, hv, es, vw, (Good.bind (R := WV) (S := WV) gd).imp (fun v H1 q => ?_) fun _ _ _ z => z⟩
    obtain ⟨qs, w, h1, st, vw1, wv, g1⟩ := q
    unfold mIvO at g1
    split at g1
    · obtain ⟨a, ea, rfl⟩ := wv
      split at g1
      · rename_i d j e1
        split at g1
        · rename_i fs b e2 e3
          obtain ⟨C', dx, hc', ej, eH⟩ := vw1.ob _ a _ ea e1
          obtain ⟨D, h2, h3, h4⟩ := htb d b e3
          rw [hc'] at h2
          cases h2
          obtain ⟨vs, rr, eX⟩ := vw1.ob _ dx _ ej e2
          exact ⟨a, C', dx, vs, c, b, rfl, h3, eH, eX, hcv, h4, Good.now g1 vw1 rfl⟩
        · exact g1.elim
      · exact g1.elim
    · exact g1.elim
end
end VL
end
section
namespace VL
open PySem L2 PySem.Spec PyProof.Rows
/-! ### a piece that needs little of the view: some plain names, and at most one flat object -/
def plainO : Option W → Option W
  | some w => if plainW w then some w else none
  | none => none
def keepR (ks : List Nat) : Nat → Ws → Ws
  | _, [] => []
  | i, o :: r => (if ks.contains i then plainO o else none) :: keepR ks (i + 1) r
def offR (r : Ws) : Ws := r.map fun _ => none
theorem keepR_len {ks : List Nat} : ∀ (i : Nat) (r : Ws), (keepR ks i r).length = r.length
  | _, [] => rfl
  | i, o :: r => by simp [keepR, keepR_len (i + 1) r]
theorem keepR_at {ks : List Nat} : ∀ (i : Nat) (r : Ws) (j : Nat) (w : W), (keepR ks i r)[j]? = some (some w) → r[j]? = some (some w) ∧ plainW w = true
  | _, [], j, w, h => by simp [keepR] at h
  | i, o :: r, 0, w, h => by
    simp only [keepR, List.getElem?_cons_zero, Option.some.injEq] at h
    split at h
    · cases o with
      | none => cases h
      | some u =>
        simp only [plainO] at h
        split at h
        · rename_i hp
          cases h
          exact ⟨rfl, hp⟩
        · cases h
    · cases h
  | i, o :: r, j + 1, w, h => by
    simp only [keepR, List.getElem?_cons_succ] at h ⊢
    exact keepR_at (i + 1) r j w h
theorem es_keep {ps qs : Pl} (ht : ∀ a vs, ps.tu a vs → qs.tu a vs) {ks : List Nat} {r : Ws} {s : L2.St} (e : ES ps r s) : ES qs (keepR ks 0 r) s := ⟨by rw [keepR_len]; exact e.1, fun i w h => by
  obtain ⟨h1, h2⟩ := keepR_at 0 r i w h
  obtain ⟨v, a, b⟩ := e.2 i w h1
  exact ⟨v, a, plainW_any ht h2 b⟩⟩
theorem es_off {ps qs : Pl} {r : Ws} {s : L2.St} (e : ES ps r s) : ES qs (offR r) s := ⟨by simp [offR, e.1], fun i w h => by
  unfold offR at h
  rw [List.getElem?_map] at h
  cases q : r[i]? with
  | none => rw [q] at h; cases h
  | some o => rw [q] at h; cases h⟩
def mLocal (ks : List Nat) (b : MS) : MS := fun r h => match b (keepR ks 0 r) [] with
  | .nx r1 _ => .nx (offR r1) h
  | .rt w _ => if plainW w then .rt w h else .bad
  | _ => .bad
theorem sss_local_read {T : Tx} {ks : List Nat} {b : MS} {E : WX} {D : Ends} {s : L2.St} {H : Hp} (hC : T.C []) (h : tS T E (mLocal ks b) D s H) : tS T E b D s H := by
  obtain ⟨ps, r, hv, es, vw, gd⟩ := h
  refine ⟨ps.off [], keepR ks 0 r, [], es_keep (ps := ps) (qs := ps.off []) (fun _ _ z => z) es, vw.nil hC, ?_⟩
  unfold mLocal at gd
  cases q : b (keepR ks 0 r) [] with
  | nx r1 h1 =>
    rw [q] at gd
    intro qs H' s' st vw' es'
    obtain ⟨v2, s2⟩ := vw.over st vw'
    exact gd _ H' s' s2 v2 (es_off es')
  | rt w h1 =>
    rw [q] at gd
    dsimp only at gd
    split at gd
    · rename_i hp
      intro qs H' v st vw' wv
      obtain ⟨v2, s2⟩ := vw.over st vw'
      exact gd _ H' v s2 v2 (plainW_any (ps := qs) (qs := qs.off ps.l) (fun _ _ z => z) hp wv)
    · exact gd.elim
  | bk r1 h1 => rw [q] at gd; exact gd.elim
  | ct r1 h1 => rw [q] at gd; exact gd.elim
  | exc c d r1 h1 => rw [q] at gd; exact gd.elim
  | bad => rw [q] at gd; exact gd.elim
theorem sss_local {T : Tx} {X : Cx} {sts : List Stmt} {b : MS} (ks : List Nat) (hC : T.C []) (h : SSs T X sts b) : SSs T X sts (mLocal ks b) := fun E cn => PSsi (h E cn) fun D s H h9 => sss_local_read hC h9
/-! ### what a piece has made is let go -/
mutual
def refLt (n : Nat) : W → Bool
  | .ref i => decide (i < n)
  | .tup xs => refLts n xs
  | _ => true
def refLts (n : Nat) : List W → Bool
  | [] => true
  | x :: xs => refLt n x && refLts n xs
end
def closedO (n : Nat) : O → Bool
  | .lst xs => xs.all (refLt n)
  | .rol xs => xs.all (refLt n)
  | .dic kvs => kvs.all fun p => refLt n p.2
  | .rod kvs => kvs.all fun p => refLt n p.2
  | .rox kvs => kvs.all fun p => refLt n p.2
  | .ins _ fs => fs.all fun p => refLt n p.2
  | .xd fs => fs.all fun p => refLt n p.2
  | .err _ j => decide (j < n)
  | .xdd fs => fs.all fun p => refLt n p.2
def dropR (n : Nat) (r : Ws) : Ws := r.map fun o => match o with
  | some w => if refLt n w then some w else none
  | none => none
def mGc (b : MS) : MS := fun r h => match b r h with
  | .nx r1 h1 => if (h1.take h.length).all (closedO h.length) then .nx (dropR h.length r1) (h1.take h.length) else .bad
  | x => x
section
variable {T : Tx} {ps qs : Pl} {n : Nat}
theorem pre_at (hp : Pl.Le ps qs) {i : Nat} {a : Addr} (hi : i < ps.l.length) (e : qs[i]? = some a) : ps[i]? = some a := by
  obtain ⟨⟨r, hr⟩, _⟩ := hp
  have e2 : qs.l[i]? = some a := e
  rw [← hr, List.getElem?_append_left hi] at e2
  exact e2
mutual
theorem wv_cut (hp : Pl.Le ps qs) (hn : ps.l.length = n) : ∀ {w : W} {v : V}, refLt n w = true → WV qs w v → WV (qs.off ps.l) w v
  | .non, _, _, e => e
  | .bl _, _, _, e => e
  | .int _, _, _, e => e
  | .str _, _, _, e => e
  | .ty _, _, _, e => e
  | .fix _, _, _, e => e
  | .ref i, _, h, ⟨a, e1, e2⟩ => ⟨a, pre_at hp (by rw [hn]; exact of_decide_eq_true h) e1, e2⟩
  | .tup xs, _, h, ⟨a, vs, e1, e2, e3⟩ => ⟨a, vs, e1, e2, wvl_cut hp hn (by unfold refLt at h; exact h) e3⟩
theorem wvl_cut (hp : Pl.Le ps qs) (hn : ps.l.length = n) : ∀ {ws : List W} {vs : List V}, refLts n ws = true → WVL qs ws vs → WVL (qs.off ps.l) ws vs
  | [], _, _, e => e
  | w :: ws, _, h, ⟨v, us, e1, e2, e3⟩ => by
    unfold refLts at h
    rw [Bool.and_eq_true] at h
    exact ⟨v, us, e1, wv_cut hp hn h.1 e2, wvl_cut hp hn h.2 e3⟩
end
theorem pair_cut (hp : Pl.Le ps qs) (hn : ps.l.length = n) : ∀ {xs : List W} {vs : List V}, xs.all (refLt n) = true → Paired (WV qs) xs vs → Paired (WV (qs.off ps.l)) xs vs
  | [], _, _, .nil => .nil
  | x :: xs, _, h, .cons r t => by
    simp only [Bool.and_eq_true, List.all_cons] at h
    exact .cons (wv_cut hp hn h.1 r) (pair_cut hp hn h.2 t)
theorem pair2_cut {k : Type} (hp : Pl.Le ps qs) (hn : ps.l.length = n) : ∀ {xs : List (k × W)} {vs : List (k × V)}, (xs.all fun p => refLt n p.2) = true → Paired (PW2 qs) xs vs → Paired (PW2 (qs.off ps.l)) xs vs
  | [], _, _, .nil => .nil
  | x :: xs, _, h, .cons r t => by
    simp only [Bool.and_eq_true, List.all_cons] at h
    exact .cons ⟨r.1, wv_cut hp hn h.1 r.2⟩ (pair2_cut hp hn h.2 t)
theorem oat_cut {H : Hp} {a : Addr} (hp : Pl.Le ps qs) (hn : ps.l.length = n) : ∀ {o : O}, closedO n o = true → OAt T qs H a o → OAt T (qs.off ps.l) H a o
  | .lst _, h, ⟨vs, r, e⟩ => ⟨vs, pair_cut hp hn h r, e⟩
  | .rol _, h, ⟨vs, ob, r, e⟩ => ⟨vs, ob, pair_cut hp hn h r, e⟩
  | .dic _, h, ⟨vs, r, e⟩ => ⟨vs, pair2_cut hp hn h r, e⟩
  | .rod _, h, ⟨vs, ob, r, e⟩ => ⟨vs, ob, pair2_cut hp hn h r, e⟩
  | .rox _, h, ⟨vs, ob, r, e⟩ => ⟨vs, ob, pair2_cut hp hn h r, e⟩
  | .ins _ _, h, ⟨vs, dx, C, q, r, e⟩ => ⟨vs, dx, C, q, pair2_cut hp hn h r, e⟩
  | .xd _, h, ⟨vs, r, e⟩ => ⟨vs, pair2_cut hp hn h r, e⟩
  | .err _ j, h, ⟨C, dx, e1, e2, e3⟩ => ⟨C, dx, e1, pre_at hp (by rw [hn]; exact of_decide_eq_true h) e2, e3⟩
  | .xdd _, h, ⟨vs, r, e⟩ => ⟨vs, pair2_cut hp hn h r, e⟩
theorem es_cut {r : Ws} {s : L2.St} (hp : Pl.Le ps qs) (hn : ps.l.length = n) (e : ES qs r s) : ES (qs.off ps.l) (dropR n r) s := ⟨by simp [dropR, e.1], fun i w h => by
  unfold dropR at h
  rw [List.getElem?_map] at h
  cases q : r[i]? with
  | none => rw [q] at h; cases h
  | some o =>
    rw [q] at h
    cases o with
    | none => cases h
    | some u =>
      simp only [Option.map] at h
      split at h
      · rename_i hl
        cases h
        obtain ⟨v, a, b⟩ := e.2 i _ q
        exact ⟨v, a, wv_cut hp hn hl b⟩
      · cases h⟩
theorem gc_read {b : MS} {E : WX} {D : Ends} {s : L2.St} {H : Hp} (h9 : tS T E (mGc b) D s H) : tS T E b D s H := by
  obtain ⟨ps, r, hv, es, vw, gd⟩ := h9
  refine ⟨ps, r, hv, es, vw, ?_⟩
  unfold mGc at gd
  cases q : b r hv with
  | nx r1 h1 =>
    rw [q] at gd
    dsimp only at gd
    split at gd
    · rename_i hc
      intro qs H' s' st vw' es'
      have hn : ps.l.length = hv.length := vw.len
      have hle : ps.l.length ≤ qs.l.length := st.pre.1.length_le
      have hl1 : h1.length = qs.l.length := vw'.len.symm
      have le : Pl.Le ps (qs.off ps.l) := ⟨List.prefix_refl _, st.pre.2⟩
      refine gd (qs.off ps.l) H' s' ⟨le, fun _ _ z n _ => absurd z n, st.fr⟩ ⟨?_, vw.nd, fun i a o e1 e2 => ?_, vw'.tab, vw.fact, vw'.tup, vw'.hold⟩ (es_cut st.pre hn es')
      · show ps.l.length = (h1.take hv.length).length
        rw [List.length_take]; omega
      · have e1' : ps.l[i]? = some a := e1
        have hi : i < ps.l.length := (List.getElem?_eq_some_iff.mp e1').1
        have e3 : h1[i]? = some o := by
          rw [List.getElem?_take_of_lt (by omega)] at e2
          exact e2
        have co : closedO hv.length o = true := List.all_eq_true.mp hc o (List.mem_of_getElem? e2)
        exact oat_cut st.pre hn co (vw'.ob i a o (at_pre st.pre e1) e3)
    · exact gd.elim
  | rt w h1 => rw [q] at gd; exact gd
  | bk r1 h1 => rw [q] at gd; exact gd
  | ct r1 h1 => rw [q] at gd; exact gd
  | exc c d r1 h1 => rw [q] at gd; exact gd
  | bad => rw [q] at gd; exact gd
theorem sss_gc {X : Cx} {sts : List Stmt} {b : MS} (h : SSs T X sts b) : SSs T X sts (mGc b) := fun E cn => PSsi (h E cn) fun D s H h9 => gc_read h9
theorem ss_gc {X : Cx} {st : Stmt} {b : MS} (h : SS T X st b) : SS T X st (mGc b) := fun E cn => PSi (h E cn) fun D s H h9 => gc_read h9
end
end VL
end
section
namespace VL
open PySem L2 PySem.Spec PyProof.Rows
/-! ### a op b op' c -/
def mChain (g g' : MOp) (fa fb fc : Ws → Hv → Res W) : Ws → Hv → Res W := fun r h => (fa r h).bind fun x h1 => (fb r h1).bind fun y h2 => (g x y h2).bind fun z h3 => match z with
  | .bl true => (fc r h3).bind fun w h4 => g' y w h4
  | .bl false => .val (.bl false) h3
  | _ => .bad
/-- an operator that leaves the view as it is -/
def Calm (g : MOp) : Prop := ∀ x y h z h', g x y h = .val z h' → h' = h
section
variable {T : Tx} {X : Cx} {a b c : Expr} {fa fb fc : Ws → Hv → Res W} {pos : Pos} {op op' : CmpOp} {r r' : R2} {g g' : MOp}
theorem chain_of {E : WX} (ho : RO T r g) (ho' : RO T r' g') {s : L2.St} {H : Hp} {Q : VK} (h : tE T E (mChain g g' fa fb fc) s H Q) : tChain r r' (tE T E fa) (tE T E fb) (tE T E fc) s H Q := by
  obtain ⟨ps, q, hv, es, vw, gd⟩ := h
  refine ⟨ps, q, hv, es, vw, (Good.bind (R := WV) (S := WV) gd).imp (fun v H1 z1 => ?_) fun _ _ _ z => z⟩
  obtain ⟨qs, w, h1, st, vw1, wv, g1⟩ := z1
  refine ⟨qs, q, h1, es.mono st.pre, vw1, (Good.bind (R := WV) (S := WV) g1).imp (fun u H2 z2 => ?_) fun _ _ _ z => z⟩
  obtain ⟨rs, w2, h2, st2, vw2, wv2, g2⟩ := z2
  refine ho rs h2 H2 w w2 v u _ (fun c d H' => E c d s H') vw2 (wv.mono st2.pre) wv2 ((Good.bind (R := WV) (S := WV) g2).imp (fun k H3 z3 => ?_) fun _ _ _ z => z)
  obtain ⟨ts, w3, h3, st3, vw3, wv3, g3⟩ := z3
  dsimp only at g3
  split at g3
  · cases wv3
    refine ⟨true, rfl, iteT ⟨ts, q, h3, ((es.mono st.pre).mono st2.pre).mono st3.pre, vw3, (Good.bind (R := WV) (S := WV) g3).imp (fun y H4 z4 => ?_) fun _ _ _ z => z⟩⟩
    obtain ⟨us, w4, h4, st4, vw4, wv4, g4⟩ := z4
    exact ho' us h4 H4 w2 w4 u y Q _ vw4 ((wv2.mono st3.pre).mono st4.pre) wv4 g4
  · cases wv3
    exact ⟨false, rfl, iteF (Good.now g3 vw3 rfl)⟩
  · exact g3.elim
theorem se_chain (ho : OpR X (compareOp op) r) (ho' : OpR X (compareOp op') r') (hg : RO T r g) (hg' : RO T r' g') (ha : SE T X a fa) (hb : SE T X b fb) (hc : SE T X c fc) (hm : lastMarks [op, op'] [b, c] = false := by with_unfolding_all rfl) :
    SE T X (.Compare a [op, op'] [b, c] pos) (mChain g g' fa fb fc) := fun E cn => PEi (pe_chain ho ho' (ha E cn) (hb E cn) (hc E cn) hm) fun s H Q h => chain_of hg hg' h
theorem st_chain (ho : OpR X (compareOp op) r) (ho' : OpR X (compareOp op') r') (hg : RO T r g) (hg' : RO T r' g') (ha : SE T X a fa) (hb : SE T X b fb) (hc : SE T X c fc) (hm : lastMarks [op, op'] [b, c] = false := by with_unfolding_all rfl) :
    STt T X (.Compare a [op, op'] [b, c] pos) (mT (mChain g g' fa fb fc)) := fun E cn => PTi (pt_chain ho ho' (ha E cn) (hb E cn) (hc E cn) hm) fun s H Q h => chain_of hg hg' (test_of h)
end
/-! ### x.isascii() and the like -/
def mSm (f : Str → Bool) (fo : Ws → Hv → Res W) : Ws → Hv → Res W := fun r h => (fo r h).bind fun w h1 => match w with
  | .str x => .val (.bl (f x)) h1
  | _ => .bad
section
variable {T : Tx} {X : Cx} {o : Expr} {fo : Ws → Hv → Res W} {name : Str} {apos cpos : Pos} {f : Str → Bool}
theorem se_sm (hp : ∀ {to : TE}, PE X o to → PE X (.Call (.Attribute o name apos) [] [] cpos) (tBM0 X.K "str" (fun x xs H Q => ∃ a, x = .str a ∧ xs = [] ∧ True ∧ Q (.bl (f a)) H) to)) (ho : SE T X o fo) : SE T X (.Call (.Attribute o name apos) [] [] cpos) (mSm f fo) := fun E cn => PEi (hp (ho E cn)) fun s H Q ⟨ps, r, hv, es, vw, gd⟩ => by
  refine ⟨ps, r, hv, es, vw, (Good.bind (R := WV) (S := WV) gd).imp (fun v H1 q => ?_) fun _ _ _ z => z⟩
  obtain ⟨qs, w, h1, st, vw1, wv, g1⟩ := q
  dsimp only at g1
  split at g1
  · cases wv
    exact ⟨by first | exact ⟨_, rfl⟩ | exact .inr ⟨rfl, _, rfl⟩ | trivial | simp [tyV], _, rfl, rfl, trivial, Good.now g1 vw1 rfl⟩
  · exact g1.elim
end
/-! ### own classes -/
def putW (f : Str) (w : W) : List (Str × W) → List (Str × W)
  | [] => [(f, w)]
  | (g, x) :: r => if g = f then (g, w) :: r else (g, x) :: putW f w r
theorem put_pair {ps : Pl} {f : Str} {w : W} {v : V} (wv : WV ps w v) : ∀ {fs : List (Str × W)} {vs : List (Str × V)}, Paired (PW2 ps) fs vs → Paired (PW2 ps) (putW f w fs) (putF f v vs)
  | [], _, .nil => .cons ⟨rfl, wv⟩ .nil
  | (k, u) :: fs, (k', u') :: vs, .cons r t => by
    obtain ⟨rk, r⟩ := r
    dsimp only at rk r
    subst rk
    unfold putW putF
    split
    · exact .cons ⟨rfl, wv⟩ t
    · exact .cons ⟨rfl, r⟩ (put_pair wv t)
theorem look_none {ps : Pl} {f : Str} : ∀ {fs : List (Str × W)} {vs : List (Str × V)}, Paired (PW2 ps) fs vs → fs.lookup f = none → vs.lookup f = none
  | [], _, .nil, _ => rfl
  | (k, u) :: fs, (k', u') :: vs, .cons r t, e => by
    obtain ⟨rk, r⟩ := r
    dsimp only at rk
    subst rk
    rw [List.lookup_cons] at e ⊢
    cases q : f == k with
    | true => rw [q] at e; cases e
    | false =>
      rw [q] at e
      exact look_none t e
theorem pair_len {ps : Pl} {k : Type} : ∀ {fs : List (k × W)} {vs : List (k × V)}, Paired (PW2 ps) fs vs → fs.length = vs.length := fun r => r.length
/-- e.f -/
def mFldO (c : String) (f : Str) (w : W) (h : Hv) : Res W := match w with
  | .ref p => (match h[p]? with
    | some (.ins d fs) => if d = c then ofO (fs.lookup f) h else .bad
    | _ => .bad)
  | _ => .bad
def mFld (c : String) (f : Str) (fo : Ws → Hv → Res W) : Ws → Hv → Res W := fun r h => (fo r h).bind (mFldO c f)
/-- o.f = e -/
def mPutF (c : String) (f : Str) (fo fe : Ws → Hv → Res W) : MS := fun r h => (fe r h).andS r fun w h1 => (fo r h1).andS r fun o h2 => match o with
  | .ref p => (match h2[p]? with
    | some (.ins d fs) => if d = c ∧ fs.length < 1000 then .nx r (h2.set p (.ins d (putW f w fs))) else .bad
    | _ => .bad)
  | _ => .bad
/-- o.m(..) -/
def mMethO (c : String) (m : Str) (n : Nat) (mf : MFn) (g : Ws → Hv → Res (List W)) (r : Ws) (w : W) (h : Hv) : Res W := match w with
  | .ref p => (match h[p]? with
    | some (.ins d fs) => if d = c ∧ fs.lookup m = none then (g r h).bind fun ws h2 => if ws.length = n then mf (w :: ws) h2 else .bad else .bad
    | _ => .bad)
  | _ => .bad
def mMeth (c : String) (m : Str) (n : Nat) (mf : MFn) (fo : Ws → Hv → Res W) (g : Ws → Hv → Res (List W)) : Ws → Hv → Res W := fun r h => (fo r h).bind (mMethO c m n mf g r)
/-- C(..) -/
def mMake (c : String) (n : Nat) (mf : MFn) (g : Ws → Hv → Res (List W)) : Ws → Hv → Res W := fun r h => (g r h).bind fun ws h1 => if ws.length = n then (mf (.ref h1.length :: ws) (h1 ++ [.ins c []])).bind fun v h2 => (match v with
  | .non => .val (.ref h1.length) h2
  | _ => .bad) else .bad
theorem notI {H : Hp} {a C dx : Addr} {fs : List (Str × V)} (e : H a = some (.ins C dx fs)) : ∀ u0, H a = some u0 → (∀ f, u0 ≠ .ext f) ∧ ∀ o x, u0 ≠ .frz o x := fun u0 h => by
  rw [e] at h
  cases h
  exact ⟨(fun f z => by cases z), fun o x z => by cases z⟩
section
variable {T : Tx} {X : Cx} {C : Addr} {c : String} {f m x : Str} {o e : Expr} {es : List Expr} {fo fe : Ws → Hv → Res W} {g : Ws → Hv → Res (List W)} {p pos pos' apos : Pos} {n : Nat} {mf : MFn} {fa : Addr}
theorem se_fld (hcv : T.cv c = .ref C) (hc : Cls X.K C) (hn : NoAttr X.K C f) (ho : SE T X o fo) (hb : attributeBase o f X.env (eval o X.env) = eval o X.env := by rfl) : SE T X (.Attribute o f pos) (mFld c f fo) := fun E cn => PEi (pe_fld (ho E cn) hb) fun s H Q ⟨ps, r, hv, es, vw, gd⟩ => by
  refine ⟨ps, r, hv, es, vw, (Good.bind (R := WV) (S := WV) gd).imp (fun v H1 q => ?_) fun _ _ _ z => z⟩
  obtain ⟨qs, w, h1, st, vw1, wv, g1⟩ := q
  unfold mFldO at g1
  split at g1
  · obtain ⟨a, ea, rfl⟩ := wv
    split at g1
    · rename_i d fs e1
      split at g1
      · rename_i hd
        subst hd
        obtain ⟨w, ew, g2⟩ := ofO_of g1
        obtain ⟨vs, dx, C', hc', rr, eH⟩ := vw1.ob _ a _ ea e1
        rw [hcv] at hc'
        cases hc'
        obtain ⟨v, ev, wv⟩ := paired_lookup rr ew
        exact ⟨a, C, dx, vs, v, rfl, eH, hc, hn, ev, Good.now g2 vw1 wv⟩
      · exact g1.elim
    · exact g1.elim
  · exact g1.elim
theorem ss_putF (hcv : T.cv c = .ref C) (hc : Cls X.K C) (hn : NoAttr X.K C f) (ho : SE T X o fo) (he : SE T X e fe) (hs : swapsWith e (some (.Attribute o f pos')) pos.line X.env = pure false := by rfl) : SS T X (.Assign [.Attribute o f pos'] e pos) (mPutF c f fo fe) := fun E cn => PSi (ps_fld (ho E cn) (he E cn) hs) fun D s H ⟨ps, r, hv, es, vw, gd⟩ => by
  refine ⟨ps, r, hv, es, vw, (good_andS (R := WV) es gd).imp (fun v H1 q => ?_) fun _ _ _ z => z⟩
  obtain ⟨qs, w, h1, st, vw1, wv, es1, g1⟩ := q
  refine ⟨qs, r, h1, es1, vw1, (good_andS (R := WV) es1 g1).imp (fun y H2 q2 => ?_) fun _ _ _ z => z⟩
  obtain ⟨rs, w2, h2, st2, vw2, wv2, es2, g2⟩ := q2
  try dsimp only at g2
  split at g2
  · obtain ⟨a, ea, rfl⟩ := wv2
    split at g2
    · rename_i d fs e1
      split at g2
      · rename_i hd
        obtain ⟨rfl, hl⟩ := hd
        obtain ⟨vs, dx, C', hc', rr, eH⟩ := vw2.ob _ a _ ea e1
        have hcc := hc'
        rw [hcv] at hcc
        cases hcc
        obtain ⟨vw3, st3⟩ := vw2.put ea (o := .ins d (putW f w fs)) (u := .ins C dx (putF f v vs)) ⟨_, dx, C, hcv, put_pair (wv.mono st2.pre) rr, upd_same⟩ (notI eH)
        exact ⟨a, C, dx, vs, rfl, eH, hc, hn, by rw [← pair_len rr]; exact hl, g2 _ _ s st3 vw3 es2⟩
      · exact g2.elim
    · exact g2.elim
  · exact g2.elim
theorem se_meth {pl : Sem Bool} (Cn9 : Can T X fa (n + 1) mf) (hcv : T.cv c = .ref C) (hc : Cls X.K C) (hm : Meth X.K C m fa) (ho : SE T X o fo) (ha : SA T X (e :: es) g) (hst : starEach (e :: es) X.env = (false, eval e X.env) :: starEach es X.env := by rfl) (hpl : (backTo pos (starEach es X.env)).any (·.1) = false := by rfl)
    (ht : eval
      (.Call (.Attribute o m apos) (e :: es) [] pos) X.env = (do
      let ov ← eval o X.env; standAt apos.atName
      let (f, first) ← holding [ov] (getMethod ov m pl); callWith pos f first (backTo pos (starEach (e :: es) X.env)) (backToKw pos (keywordEach [] X.env))) := by rfl) :
    SE T X (.Call (.Attribute o m apos) (e :: es) [] pos) (mMeth c m n mf fo g) := fun E cn => ⟨fun pins s σ H Q I h => by
  obtain ⟨ps, r, hv, es0, vw, gd⟩ := h
  refine PySem.W.methodCall_KW (pl := pl) (thn ((ho E cn).run pins s σ H _ I ⟨ps, r, hv, es0, vw, Good.bind (R := WV) (S := WV) gd⟩) fun u s1 hh => ?_) ht
  obtain ⟨y, H1, I1, rx, qs, w, h1, st, vw1, wv, g1⟩ := hh
  unfold mMethO at g1
  split at g1
  · rename_i p0
    obtain ⟨a, ea, rfl⟩ := wv
    split at g1
    · rename_i d fs e1
      split at g1
      · rename_i hd
        obtain ⟨rfl, hl⟩ := hd
        obtain ⟨vs, dx, C', hc', rr, eH⟩ := vw1.ob _ a _ ea e1
        rw [hcv] at hc'
        cases hc'
        have eu : u = Value.ref a := rx
        subst eu
        refine getmeth_ok I1 eH hc hm (look_none rr hl) ?_
        refine PySem.W.callWith_K (first := [.ref a]) (h₀ := X.base) I.ok.mod.kin hm.kp (thn ((ha E cn).run pos pins s1 σ H1 _ I1 ⟨qs, r, h1, es0.mono st.pre, vw1, Good.bind (R := WVs) (S := WV) g1⟩) fun us s2 h9 => ?_) hst hpl
        obtain ⟨zs, H2, I2, r2, ts, ws, h2, st2, vw2, wv2, g2⟩ := h9
        refine ⟨I2.kIn, ?_⟩
        dsimp only at g2
        split at g2
        · rename_i hn
          have ea2 := at_pre st2.pre ea
          exact Cn9.wp cn (us := .ref a :: us) (vs := .ref a :: zs) I2 (.cons rfl r2) ⟨by have := wv2.length; simp only [List.length_cons]; omega, T.hd, ts, h2, .ref p0 :: ws, vw2, .cons ⟨a, ea2, rfl⟩ wv2, g2⟩
        · exact g2.elim
      · exact g1.elim
    · exact g1.elim
  · exact g1.elim⟩
theorem se_meth0 {pl : Sem Bool} (Cn9 : Can T X fa 1 mf) (hcv : T.cv c = .ref C) (hc : Cls X.K C) (hm : Meth X.K C m fa) (ho : SE T X o fo)
    (ht : eval
      (.Call (.Attribute o m apos) [] [] pos) X.env = (do
      let ov ← eval o X.env; standAt apos.atName
      let (f, first) ← holding [ov] (getMethod ov m pl); callWith pos f first (backTo pos (starEach [] X.env)) (backToKw pos (keywordEach [] X.env))) := by rfl) :
    SE T X (.Call (.Attribute o m apos) [] [] pos) (mMeth c m 0 mf fo mNil) := fun E cn => ⟨fun pins s σ H Q I h => by
  obtain ⟨ps, r, hv, es0, vw, gd⟩ := h
  refine PySem.W.methodCall_KW (pl := pl) (thn ((ho E cn).run pins s σ H _ I ⟨ps, r, hv, es0, vw, Good.bind (R := WV) (S := WV) gd⟩) fun u s1 hh => ?_) ht
  obtain ⟨y, H1, I1, rx, qs, w, h1, st, vw1, wv, g1⟩ := hh
  unfold mMethO at g1
  split at g1
  · rename_i p0
    obtain ⟨a, ea, rfl⟩ := wv
    split at g1
    · rename_i d fs e1
      split at g1
      · rename_i hd
        obtain ⟨rfl, hl⟩ := hd
        obtain ⟨vs, dx, C', hc', rr, eH⟩ := vw1.ob _ a _ ea e1
        rw [hcv] at hc'
        cases hc'
        have eu : u = Value.ref a := rx
        subst eu
        refine getmeth_ok I1 eH hc hm (look_none rr hl) ?_
        exact PySem.W.callWith_K0 (first := [.ref a]) I1.kIn hm.kp (Cn9.wp cn (us := [.ref a]) (vs := [.ref a]) I1 (.cons rfl .nil) ⟨rfl, T.hd, qs, h1, [.ref p0], vw1, .cons ⟨a, ea, rfl⟩ .nil, g1⟩)
      · exact g1.elim
    · exact g1.elim
  · exact g1.elim⟩
/-- what the text says of a class that is made -/
structure MkV (T : Tx) (P : Program) (w : World) (K : PySem.W.Frag) (mg : Str → Option Value) (base : Heap) (k : Nat) (x : Str) (c : String) (C : Addr) (n : Nat) (mf : MFn) : Prop where
  cv : T.cv c = .ref C
  mgC : mg x = some (.ref C)
  ini : ∃ fI fd qs, Mk K C fI ∧ qs.length = n + 1 ∧ FnOk P w K mg base (L2.CX P w) k fI fd qs (spV T (n + 1) mf) ∧ Binds K fd qs []
theorem make_run {k : Nat} (M : MkV T X.prog X.w X.K X.mg X.base k x c C n mf) (hr : Room (k + 1) X.A) {E : WX} (cn : Cn X E) {pins : List (Addr × Obj)} {s : Shared} {σ : L2.St} {H : Hp} {us : List Value} {vs : List V} {Q : VK} {ps : Pl} {h1 : Hv} {ws : List W} (I : Inv X pins σ H s) (r : Vals vs us) (vw : View T ps h1 H) (wv : Paired (WV ps) ws vs) (hl : ws.length = n)
    (gd : Good T WV ps H ((mf (.ref h1.length :: ws) (h1 ++ [.ins c []])).bind fun v h2 => (match v with | .non => .val (.ref h1.length) h2 | _ => .bad)) Q (WE E σ)) : wpAny (model X.prog X.w) X.A (call (.ref C) us) (EP X pins σ Q) X.xe s := by
  obtain ⟨fI, fd, qs0, mk, ql, F, hb⟩ := M.ini
  obtain ⟨hp, gs, dr, tk, os⟩ := s
  let dx := hp.objs.size
  let y := hp.objs.size + 1
  have nd : H dx = none := I.hok.fresh (Nat.le_refl _)
  have ny : H y = none := I.hok.fresh (Nat.le_succ _)
  have ne : dx ≠ y := Nat.ne_of_lt (Nat.lt_succ_self _)
  have I2 := Inv.made I (C := C)
  have r2 : Vals (V.ref y :: vs) (Value.ref y :: us) := .cons rfl r
  have lu : (Value.ref y :: us).length = qs0.length := by
    have a := r.length
    have b := wv.length
    simp only [List.length_cons]
    omega
  -- the view with the new object
  have vw0 : View T ps h1 (upd H dx (.own y)) := ⟨vw.len, vw.nd, fun i b o e1 e2 => (vw.ob i b o e1 e2).put fun u hu => by rw [upd_ne (ne_of_none hu nd)]; exact hu, tabs_new vw.tab nd _, vw.fact, (fun a vs t => by
    exact (vw.tup a vs t).put fun z => by
      rw [upd_ne (ne_of_none z nd)]
      exact z), vw.hold_new nd⟩
  have st0 : Step ps H ps (upd H dx (.own y)) := ⟨Pl.Le.refl _, fun _ _ z n _ => absurd z n, fun b u e _ _ => by rw [upd_ne (ne_of_none e nd)]; exact e⟩
  have ny2 : upd H dx (.own y) y = none := by rw [upd_ne (Ne.symm ne)]; exact ny
  obtain ⟨vw1, st1, e1⟩ := vw0.alloc ny2 (o := .ins c []) (u := .ins C dx []) ⟨[], dx, C, M.cv, .nil, upd_same⟩
  have prom : spV T (n + 1) mf (V.ref y :: vs) (upd (upd H dx (.own y)) y (.ins C dx [])) (fun v H2 => v = .non ∧ Q (.ref y) H2) (WE E σ) := by
    refine ⟨by have b := wv.length; simp only [List.length_cons]; omega, T.hd, ps ++ [y], h1 ++ [.ins c []], .ref h1.length :: ws, vw1, .cons ⟨y, e1, rfl⟩ (WVs.mono st1.pre wv), ?_⟩
    have g0 := gd.step (st0.trans st1)
    refine (Good.bind (R := WV) (S := WV) g0).imp (fun v H2 q => ?_) fun _ _ _ z => z
    obtain ⟨ts, w2, h2, st2, vw2, wv2, gg⟩ := q
    dsimp only at gg
    split at gg
    · cases wv2
      exact ⟨rfl, gg.now (R := WV) vw2 ⟨y, at_pre st2.pre e1, rfl⟩⟩
    · exact gg.elim
  have bt := hb _ (Value.ref y :: us) I2.kIn (by simpa using lu)
  rw [List.append_nil] at bt
  refine wpAny_call (make_map (f := fI) I.kIn mk.makes mk.init (beq_iff_eq.mp mk.fn) (codeAny_mono (F.run _ X.stack _ _ ⟨Value.ref y :: us, []⟩ (Value.ref y :: us) _ _ (WE E σ) (hr.make C us []) (I2.env0.make C us []) bt r2 prom) fun fin s9 hq => ?_))
  match fin, hq with
  | .error er, hq => exact passAt cn.tk σ pins _ _ er s9 I2 hq
  | .ok (.ret u), hq =>
    obtain ⟨v, H', I3, rv, ev, q3⟩ := I2.after hq
    subst ev
    exact ⟨rv, V.ref y, H', I3, rfl, q3⟩
  | .ok .next, hq => exact hq.elim
  | .ok .brk, hq => exact hq.elim
  | .ok .cont, hq => exact hq.elim
theorem se_make {k : Nat} (M : MkV T X.prog X.w X.K X.mg X.base k x c C n mf) (hr : Room (k + 1) X.A) (hg : Gl X x) (ha : SA T X (e :: es) g) (hdb : (x == ("__debug__" : Str)) = false := by decide) (he : starEach (e :: es) X.env = (false, eval e X.env) :: starEach es X.env := by rfl) (hpl : (backTo pos (starEach es X.env)).any (·.1) = false := by rfl) :
    SE T X (.Call (.Name x p) (e :: es) [] pos) (mMake c n mf g) := fun E cn => ⟨fun pins s σ H Q I h => by
  obtain ⟨ps, r, hv, es0, vw, gd⟩ := h
  obtain ⟨fI, fd, qs0, mk, ql, F, hb⟩ := M.ini
  refine wpAny_Call_Name_kw (ld_glob I hg M.mgC ?_ hdb)
  refine PySem.W.callWith_K (h₀ := X.base) I.ok.mod.kin mk.kp (thn ((ha E cn).run pos pins s σ H _ I ⟨ps, r, hv, es0, vw, Good.bind (R := WVs) (S := WV) gd⟩) fun us s1 hh => ?_) he hpl
  obtain ⟨zs, H1, I1, r1, qs, ws, h1, st, vw1, wv, g1⟩ := hh
  refine ⟨I1.kIn, ?_⟩
  dsimp only at g1
  split at g1
  · rename_i hn
    exact make_run M hr cn I1 r1 vw1 wv hn g1
  · exact g1.elim⟩
end
end VL
end
section
namespace VL
open PySem L2 PySem.Spec PyProof.Rows
/-! ### xs.pop(), xs.clear(), xs.extend(ys), list(xs) -/
def mPopO (w : W) (h : Hv) : Res W := match w with
  | .ref p => (match h[p]? with
    | some (.lst xs) => (match xs[xs.length - 1]? with
      | some y => .val y (h.set p (.lst xs.dropLast))
      | none => .bad)
    | _ => .bad)
  | _ => .bad
def mPop (fo : Ws → Hv → Res W) : Ws → Hv → Res W := fun r h => (fo r h).bind mPopO
def mClearO (w : W) (h : Hv) : Res W := match w with
  | .ref p => (match h[p]? with
    | some (.lst _) => .val .non (h.set p (.lst []))
    | _ => .bad)
  | _ => .bad
def mClear (fo : Ws → Hv → Res W) : Ws → Hv → Res W := fun r h => (fo r h).bind mClearO
def mExt (fo fe : Ws → Hv → Res W) : Ws → Hv → Res W := fun r h => (fo r h).bind fun o h1 => match o with
  | .ref p => (match h1[p]? with
    | some (.lst _) => (fe r h1).bind fun w h2 => (match w with
      | .ref q => (match h2[p]?, h2[q]? with
        | some (.lst xs), some (.lst zs) => if xs.length + zs.length ≤ 100000 then .val .non (h2.set p (.lst (xs ++ zs))) else .bad
        | _, _ => .bad)
      | _ => .bad)
    | _ => .bad)
  | _ => .bad
def mListOf : MFn := fun ws h => match ws with
  | [.ref p] => (match h[p]? with
    | some (.lst xs) => mNew (.lst xs) h
    | some (.rol xs) => mNew (.lst xs) h
    | _ => .bad)
  | [.tup xs] => mNew (.lst xs) h
  | _ => .bad
section
variable {T : Tx} {X : Cx} {o e : Expr} {fo fe : Ws → Hv → Res W} {apos cpos : Pos}
theorem paired_last {ps : Pl} : ∀ {xs : List W} {vs : List V}, Paired (WV ps) xs vs → Paired (WV ps) xs.dropLast vs.dropLast := fun {xs vs} r => by
  have l : xs.length = vs.length := r.length
  rw [List.dropLast_eq_take, List.dropLast_eq_take, l]
  exact paired_take r _
theorem se_pop (ho : SE T X o fo) (hp : ∀ {to : TE}, PE X o to → PE X (.Call (.Attribute o "pop" apos) [] [] cpos) (tBM0 X.K "list" rPop to) := by exact fun a => pe_bm0 PySem.F.plainAttrs_list PySem.F.slot_list_pop PySem.F.type_list_pop mt_pop a) : SE T X (.Call (.Attribute o "pop" apos) [] [] cpos) (mPop fo) := fun E cn => PEi (hp (ho E cn)) fun s H Q ⟨ps, r, hv, es, vw, gd⟩ => by
  refine ⟨ps, r, hv, es, vw, (Good.bind (R := WV) (S := WV) gd).imp (fun v H1 q => ?_) fun _ _ _ z => z⟩
  obtain ⟨qs, w, h1, st, vw1, wv, g1⟩ := q
  unfold mPopO at g1
  split at g1
  · obtain ⟨a, ea, rfl⟩ := wv
    split at g1
    · rename_i xs e1
      split at g1
      · rename_i y ey
        obtain ⟨vs, rr, eH⟩ := vw1.ob _ a _ ea e1
        have l1 : xs.length = vs.length := rr.length
        obtain ⟨u, eu, wu⟩ := paired_get rr ey
        obtain ⟨vw3, st3⟩ := vw1.put ea (o := .lst xs.dropLast) (u := .lst vs.dropLast) ⟨_, paired_last rr, upd_same⟩ (notX eH)
        exact ⟨.inl ⟨rfl, vs, SqL.of eH⟩, a, vs, u, rfl, rfl, eH, by rw [← l1]; exact eu, g1 _ _ _ st3 vw3 wu⟩
      · exact g1.elim
    · exact g1.elim
  · exact g1.elim
theorem se_clear (ho : SE T X o fo) (hp : ∀ {to : TE}, PE X o to → PE X (.Call (.Attribute o "clear" apos) [] [] cpos) (tBM0 X.K "list" rClear to) := by exact fun a => pe_bm0 PySem.F.plainAttrs_list PySem.F.slot_list_clear PySem.F.type_list_clear mt_clear a) : SE T X (.Call (.Attribute o "clear" apos) [] [] cpos) (mClear fo) := fun E cn => PEi (hp (ho E cn)) fun s H Q ⟨ps, r, hv, es, vw, gd⟩ => by
  refine ⟨ps, r, hv, es, vw, (Good.bind (R := WV) (S := WV) gd).imp (fun v H1 q => ?_) fun _ _ _ z => z⟩
  obtain ⟨qs, w, h1, st, vw1, wv, g1⟩ := q
  unfold mClearO at g1
  split at g1
  · obtain ⟨a, ea, rfl⟩ := wv
    split at g1
    · rename_i xs e1
      obtain ⟨vs, rr, eH⟩ := vw1.ob _ a _ ea e1
      obtain ⟨vw3, st3⟩ := vw1.put ea (o := .lst []) (u := .lst []) ⟨_, .nil, upd_same⟩ (notX eH)
      exact ⟨.inl ⟨rfl, vs, SqL.of eH⟩, a, vs, rfl, rfl, eH, g1 _ _ _ st3 vw3 rfl⟩
    · exact g1.elim
  · exact g1.elim
theorem se_extend (ho : SE T X o fo) (he : SE T X e fe) (hs : starEach [e] X.env = (false, eval e X.env) :: starEach [] X.env := by rfl)
    (hp : ∀ {to : TE} {t : TA}, PE X o to → PA X [e] t → PE X (.Call (.Attribute o "extend" apos) [e] [] cpos) (tBM X.K "list" rExtend to t) := by exact fun a b => pe_bm PySem.F.plainAttrs_list PySem.F.slot_list_extend PySem.F.type_list_extend mt_extend a b) :
    SE T X (.Call (.Attribute o "extend" apos) [e] [] cpos) (mExt fo fe) := fun E cn => PEi (hp (ho E cn) (pa_cons (he E cn) pa_nil hs)) fun s H Q ⟨ps, r, hv, es, vw, gd⟩ => by
  refine ⟨ps, r, hv, es, vw, (Good.bind (R := WV) (S := WV) gd).imp (fun v H1 q => ?_) fun _ _ _ z => z⟩
  obtain ⟨qs, w, h1, st, vw1, wv, g1⟩ := q
  dsimp only at g1
  split at g1
  · rename_i p
    obtain ⟨a, ea, rfl⟩ := wv
    split at g1
    · rename_i ys e1
      obtain ⟨vs, rr, eH⟩ := vw1.ob _ a _ ea e1
      refine ⟨.inl ⟨rfl, vs, SqL.of eH⟩, qs, r, h1, es.mono st.pre, vw1, (Good.bind (R := WV) (S := WV) g1).imp (fun y H2 q2 => ?_) fun _ _ _ z => z⟩
      obtain ⟨rs, wy, h2, st2, vw2, wvy, g2⟩ := q2
      dsimp only at g2
      split at g2
      · rename_i q0
        obtain ⟨b, eb, rfl⟩ := wvy
        split at g2
        · rename_i xs zs e2 e3
          split at g2
          · rename_i hl
            have ea2 := at_pre st2.pre ea
            obtain ⟨us, r2, eH2⟩ := vw2.ob _ a _ ea2 e2
            obtain ⟨us3, r3, eH3⟩ := vw2.ob _ b _ eb e3
            have l1 : xs.length = us.length := r2.length
            have l3 : zs.length = us3.length := r3.length
            obtain ⟨vw3, st3⟩ := vw2.put ea2 (o := .lst (xs ++ zs)) (u := .lst (us ++ us3)) ⟨_, paired_app r2 r3, upd_same⟩ (notX eH2)
            exact ⟨a, b, us, us3, rfl, rfl, eH2, eH3, sz_ok (by omega), g2 _ _ _ st3 vw3 rfl⟩
          · exact g2.elim
        · exact g2.elim
      · exact g2.elim
    · exact g1.elim
  · exact g1.elim
theorem rc_listOf {K : PySem.W.Frag} (hK : T.K = K := by rfl) : RC T (fun xs H Q => ∃ p ys, xs = [.ref p] ∧ (SqL K H p ys ∨ SqT K H p ys) ∧ ∀ l, H l = none → Q (.ref l) (upd H l (.lst ys))) mListOf := by
  subst hK
  intro ps h H ws vs Q E vw wv gd
  unfold mListOf at gd
  split at gd
  · obtain ⟨v, rfl, a, ea, rfl⟩ := one_of wv
    split at gd
    · rename_i xs e1
      obtain ⟨us, rr, eH⟩ := vw.ob _ a _ ea e1
      exact ⟨a, us, rfl, .inl (SqL.of eH), fun l hl => good_new vw gd (fun H' p' e => ⟨_, rr, e⟩) hl⟩
    · rename_i xs e1
      obtain ⟨us, ob, rr, eH⟩ := vw.ob _ a _ ea e1
      exact ⟨a, us, rfl, .inl (.inl (.inr ⟨ob, eH⟩)), fun l hl => good_new vw gd (fun H' p' e => ⟨_, rr, e⟩) hl⟩
    · exact gd.elim
  · obtain ⟨v, rfl, wv1⟩ := one_of wv
    obtain ⟨a, us, rfl, ht, rr⟩ := wv1.tup_of
    exact ⟨a, us, rfl, .inr (TupAt.sq (vw.tup a us ht)), fun l hl => good_new vw gd (fun H' p' e => ⟨_, rr, e⟩) hl⟩
  · exact gd.elim
end
/-! ### properties that raise nothing -/
def mPropO (c : String) (mf : MFn) (w : W) (h : Hv) : Res W := match w with
  | .ref p => (match h[p]? with
    | some (.ins d _) => if d = c then noX (mf [w] h) else .bad
    | _ => .bad)
  | _ => .bad
def mProp (c : String) (mf : MFn) (fo : Ws → Hv → Res W) : Ws → Hv → Res W := fun r h => (fo r h).bind (mPropO c mf)
section
variable {T : Tx} {X : Cx} {C pa fa : Addr} {c : String} {f : Str} {o : Expr} {fo : Ws → Hv → Res W} {pos : Pos} {mf : MFn} {k : Nat} {fd : FuncData} {qs0 : List Str}
theorem se_prop (hcv : T.cv c = .ref C) (hc : Cls X.K C) (hp : PropOf X.K C f pa fa) (F : FnOk X.prog X.w X.K X.mg X.base (L2.CX X.prog X.w) k fa fd qs0 (spV T 1 mf)) (hr : Room (k + 1) X.A) (hb : Binds X.K fd qs0 []) (hx : Passes (L2.CX X.prog X.w) X.nox (fun _ _ _ => False)) (ho : SE T X o fo)
    (hab : attributeBase o f X.env (eval o X.env) = eval o X.env := by rfl) : SE T X (.Attribute o f pos) (mProp c mf fo) := fun E cn => PEi (pe_prop (ho E cn) hc hp F hr hb .nil hx hab) fun s H Q ⟨ps, r, hv, es, vw, gd⟩ => by
  refine ⟨ps, r, hv, es, vw, (Good.bind (R := WV) (S := WV) gd).imp (fun v H1 q => ?_) fun _ _ _ z => z⟩
  obtain ⟨qs, w, h1, st, vw1, wv, g1⟩ := q
  unfold mPropO at g1
  split at g1
  · rename_i p
    obtain ⟨a, ea, rfl⟩ := wv
    split at g1
    · rename_i d fs e1
      split at g1
      · rename_i hd
        subst hd
        obtain ⟨vs, dx, C', hc', rr, eH⟩ := vw1.ob _ a _ ea e1
        rw [hcv] at hc'
        cases hc'
        refine ⟨a, dx, vs, rfl, eH, rfl, T.hd, qs, h1, [.ref p], vw1, .cons ⟨a, ea, rfl⟩ .nil, ?_⟩
        cases q : mf [.ref p] h1 with
        | val w2 h2 => rw [q] at g1; exact g1
        | exc c2 d2 h2 => rw [q] at g1; exact g1.elim
        | bad => rw [q] at g1; exact g1.elim
      · exact g1.elim
    · exact g1.elim
  · exact g1.elim
end
/-! ### isinstance(e, C), C an own class -/
def tyO (h : Hv) (w : W) : Option String := match w with
  | .ref p => (match h[p]? with
    | some (.ins c _) => some c
    | _ => none)
  | _ => none
def mIso (tb : List (String × Bool)) (w : W) (h : Hv) : Res W := match tyO h w with
  | some c => (match tb.lookup c with
    | some b => .val (.bl b) h
    | none => .bad)
  | none => (match tyN h w with
    | some _ => .val (.bl false) h
    | none => .bad)
/-- the built-in types that a view tells -/
def tyNs : List String := ["NoneType", "bool", "int", "str", "list", "tuple", "dict"]
theorem tyN_in {h : Hv} : ∀ {w : W} {t : String}, tyN h w = some t → t ∈ tyNs
  | .non, _, e => by cases e; decide
  | .bl _, _, e => by cases e; decide
  | .int _, _, e => by cases e; decide
  | .str _, _, e => by cases e; decide
  | .fix _, _, e => by cases e
  | .ty _, _, e => by cases e
  | .tup _, _, e => by cases e; decide
  | .ref p, _, e => by
    simp only [tyN] at e
    split at e <;> cases e <;> decide
/-- what an own class must have for its instances' types to be told -/
structure InsC (K : PySem.W.Frag)
    (C : Addr) : Prop where
  cl : Cls K C
  tells : PySem.W.findIn K (.ref C) "__class__" = some (some (.builtin "object.__class__")) ∧ PySem.W.specialIn K (.builtin "object.__class__") "__get__" = some (some (.builtin "getset_descriptor.__get__")) ∧
    PySem.W.takesIn K (.builtin "object.__class__") = some true ∧ PySem.W.mroIn K C (.type "object") = some true
section
variable {K : PySem.W.Frag} {C : Addr}
theorem InsC.ha (i : InsC K C) : PySem.W.findIn K (.ref C) "__class__" = some (some (.builtin "object.__class__")) := i.tells.1
theorem InsC.hn (i : InsC K C) : PySem.W.specialIn K (.builtin "object.__class__") "__get__" = some (some (.builtin "getset_descriptor.__get__")) := i.tells.2.1
theorem InsC.ht (i : InsC K C) : PySem.W.takesIn K (.builtin "object.__class__") = some true := i.tells.2.2.1
theorem InsC.hm (i : InsC K C) : PySem.W.mroIn K C (.type "object") = some true := i.tells.2.2.2
end
section
variable {T : Tx} {X : Cx} {e ec : Expr} {fe : Ws → Hv → Res W} {p pos : Pos} {C : Addr} {tb : List (String × Bool)}
theorem se_iso (htb : ∀ d b, tb.lookup d = some b → ∃ D, T.cv d = .ref D ∧ InsC X.K D ∧ PySem.W.kitOne X.K (.ref D) (.ref C) = some b) (hty : ∀ t ∈ tyNs, PySem.W.kitOne X.K (.type t) (.ref C) = some false) (hgi : Gl X "isinstance") (hmi : X.mg "isinstance" = none) (he : SE T X e fe) (hc : PE X ec (tC (.ref C)))
    (hs1 : starEach [e, ec] X.env = (false, eval e X.env) :: starEach [ec] X.env := by rfl) (hs2 : starEach [ec] X.env = (false, eval ec X.env) :: starEach [] X.env := by rfl) (hpl : (backTo pos (starEach [ec] X.env)).any (·.1) = false := by rfl) (hK : T.K = X.K := by rfl) :
    SE T X (.Call (.Name "isinstance" p) [e, ec] [] pos) (fun r h => (fe r h).bind (mIso tb)) := fun E cn =>
  PEi (pe_callB call_isi hgi hmi (by decide +kernel) (pa_cons (he E cn) (pa_cons hc pa_nil hs2) hs1) (by decide) (by decide) hs1 hpl) fun s H Q ⟨ps, r, hv, es, vw, gd⟩ => by
    refine ⟨ps, r, hv, es, vw, (Good.bind (R := WV) (S := WV) gd).imp (fun v H1 q => ?_) fun _ _ _ z => z⟩
    obtain ⟨qs, w, h1, st, vw1, wv, g1⟩ := q
    unfold mIso at g1
    split at g1
    · rename_i c ec1
      split at g1
      · rename_i b eb
        unfold tyO at ec1
        split at ec1
        · obtain ⟨a, ea, rfl⟩ := wv
          split at ec1
          · rename_i d fs e1
            cases ec1
            obtain ⟨vs, dx, C', hc', rr, eH⟩ := vw1.ob _ a _ ea e1
            obtain ⟨D, h2, h3, h4⟩ := htb _ b eb
            rw [hc'] at h2
            cases h2
            exact ⟨.ref a, .ref C, .ref C', .ref C, b, rfl, .own C, .base (.ins eH h3.cl h3.ha h3.hn h3.ht h3.hm), h4, Good.now g1 vw1 rfl⟩
          · cases ec1
        · cases ec1
      · exact g1.elim
    · split at g1
      · rename_i t et
        exact ⟨v, .ref C, .type t, .ref C, false, rfl, .own C, hK ▸ tyN_ok vw1 et wv, hty t (tyN_in et), Good.now g1 vw1 rfl⟩
      · exact g1.elim
end
end VL
end
section
namespace VL
open PySem L2 PySem.Spec PyProof.Rows
/-! ### x == y, x an instance whose class has an __eq__ of its own that raises nothing -/
def rOwnE (K : PySem.W.Frag) (C : Addr) (sp : Sp) : R2 := fun x y H Q => ∃ a dx fs tb, x = .ref a ∧ H a = some (.ins C dx fs) ∧ TyX K H y tb ∧ PySem.W.notFirst K C tb = true ∧ sp [x, y] H Q (fun _ _ _ => False)
section
variable {T : Tx} {X : Cx} {C g : Addr} {c : String} {k : Nat} {fd : FuncData} {qs0 : List Str} {sp : Sp} {mf : MFn}
theorem op_ownE (hs : PySem.W.findIn X.K (.ref C) "__eq__" = some (some (.ref g))) (hf : PySem.W.isFn X.K (.ref g) = true) (F : FnOk X.prog X.w X.K X.mg X.base (L2.CX X.prog X.w) k g fd qs0 sp) (hb : Binds X.K fd qs0 []) (hr : Room k X.A) (hx : Passes (L2.CX X.prog X.w) X (fun _ _ _ => False)) : OpR X (compareOp .Eq) (rOwnE X.K C sp) := by
  intro pins s σ H x y v u Q I rx ry hh
  obtain ⟨a, dx, fs, tb, rfl, ha, ty, hn, q⟩ := hh
  cases (show v = .ref a from rx)
  obtain ⟨mA, O, _, _, _, _⟩ := ins_get I.hok ha
  obtain ⟨od, J, _⟩ := O.look
  obtain ⟨P, Z, pp, _⟩ := kit_of I ry ty
  obtain ⟨m, hF⟩ := I.fr
  refine PySem.W.cmp_K (op := .Eq) (tb := tb) hr.units0 hF I.ok.mod.kin J (Z.ty _ _ I.kIn pp) hn hs hf ?_
  refine wpAny_mono (run_fn (us := [.ref a, u]) (vs := [.ref a, y]) F hr hb .nil hx I (.cons rfl (.cons ry .nil)) q) (fun w s' z => ?_) fun _ _ x => x
  obtain ⟨z', H', I', rz,
    qz⟩ := z
  exact SlX.cmpback rz ⟨z', H', I', rz, qz⟩
/-- the types that are told apart from those of the class c -/
def mEqO (c : String) (cs : List String) (mf : MFn) : MOp := fun x y h => match x with
  | .ref p => (match h[p]? with
    | some (.ins d _) => if d = c then (match tyO h y, tyN h y with
      | some e, _ => if cs.contains e then noX (mf [x, y] h) else .bad
      | none, some _ => noX (mf [x, y] h)
      | none, none => .bad) else .bad
    | _ => .bad)
  | _ => .bad
theorem ro_eqO {cs : List String} (hcv : T.cv c = .ref C) (hcs : ∀ e, cs.contains e = true → ∃ D, T.cv e = .ref D ∧ InsC X.K D ∧ PySem.W.notFirst X.K C (.ref D) = true) (hty : ∀ t ∈ tyNs, PySem.W.notFirst X.K C (.type t) = true) (hK : T.K = X.K := by rfl) : RO T (rOwnE X.K C (spV T 2 mf)) (mEqO c cs mf) := by
  intro ps h H x y vx vy Q E vw wx wy gd
  unfold mEqO at gd
  split at gd
  · rename_i p
    obtain ⟨a, ea, rfl⟩ := wx
    split at gd
    · rename_i d fs e1
      split at gd
      · rename_i hd
        subst hd
        obtain ⟨vs, dx, C', hc', rr, eH⟩ := vw.ob _ a _ ea e1
        rw [hcv] at hc'
        cases hc'
        have fin : ∀ tb, TyX X.K H vy tb → PySem.W.notFirst X.K C tb = true → Good T WV ps H (noX (mf [.ref p, y] h)) Q E → rOwnE X.K C (spV T 2 mf) (.ref a) vy H Q := fun tb ty hn g2 => by
          refine ⟨a, dx, vs, tb, rfl, eH, ty, hn, rfl, T.hd, ps, h, [.ref p, y], vw, .cons ⟨a, ea, rfl⟩ (.cons wy .nil), ?_⟩
          cases q : mf [.ref p, y] h with
          | val w2 h2 => rw [q] at g2; exact g2
          | exc c2 d2 h2 => rw [q] at g2; exact g2.elim
          | bad => rw [q] at g2; exact g2.elim
        split at gd
        · rename_i e et
          split at gd
          · rename_i hc
            obtain ⟨D, h1, h2, h3⟩ := hcs e hc
            unfold tyO at et
            split at et
            · rename_i p2
              obtain ⟨b, eb, rfl⟩ := wy
              split at et
              · rename_i d2 fs2 e2
                cases et
                obtain ⟨vs2, dx2, C2, hc2, rr2, eH2⟩ := vw.ob _ b _ eb e2
                rw [h1] at hc2
                cases hc2
                exact fin _ (.base (.ins eH2 h2.cl h2.ha h2.hn h2.ht h2.hm)) h3 gd
              · cases et
            · cases et
          · exact gd.elim
        · rename_i t et2 et
          exact fin _ (hK ▸ tyN_ok vw et wy) (hty _ (tyN_in et)) gd
        · exact gd.elim
      · exact gd.elim
    · exact gd.elim
  · exact gd.elim
end
end VL
end
section
/-! ### x != y, x an instance whose class has an __eq__ of its own and no __ne__ -/
namespace VX
open PySem PySem.W PySem.Spec PyProof.Rows PySem.SeqAt
section
variable {prog : Program} {w : World} {A : Around} {E : Value → Shared → Prop} {s : Shared} {K : Frag} {x C f L : Addr} {h₀ : Heap} {m : Str → Option Value} {ox : Obj} {od : Option Obj} {b tb : Value}
theorem ne_bound {M : Model} {args : List Value} {Q : Option Value → Shared → Prop} (X : K.In s.heap) (I : InstAt s.heap x ox C od) (hs : findIn K (.ref C) "__ne__" = some (some (.builtin "object.__ne__")))
    (h : wpAny M A (call (.builtin "object.__ne__") (.ref x :: args)) (fun v => Q (some v)) E s) : wpAny M A (callSpecialIfBound? (.ref x) "__ne__" args) Q E s := by
  simp only [bindSpecialIfBound?, callSpecialIfBound?]
  refine wpAny_holding (wpAny_bind (wpAny_bind (wpAny_bind (I.type.here ((looks_findIn X hs).here (wpAny_bind (wpAny_askSetting (wpAny_ite ?_))))))))
  have fin : wpAny M A (call (.builtin "object.__ne__") ([.ref x] ++ args) >>= fun v => pure (some v)) Q E s := wpAny_bind (wpAny_mono h (fun v9 s9 h9 => wpAny_pure h9) fun _ _ h9 => h9)
  split
  · exact wpAny_bind (wpAny_of_eq (F.cmp_object.ne.bind _) (wpAny_pure (by exact fin)))
  · exact wpAny_tryCatch (wpAny_bind (wpAny_of_eq (F.cmp_object.ne.bind _) (wpAny_pure (by exact fin))))
theorem ne_entry (X : K.In s.heap) (I : InstAt s.heap x ox C od) (hs : findIn K (.ref C) "__eq__" = some (some (.ref f))) (hf : isFn K (.ref f) = true) (hu : A.units < cLine) {Q : Fin → Shared → Prop}
    (hcall : wpAny (model prog w) A (call (.ref f) [.ref x, b]) (fun v s' => ∃ k, v = .bool k ∧ Q (.done (.ret (.bool (!k)))) s') E s) : wpAny (model prog w) A (Builtin.«object.__ne__» ⟨[.ref x, b], []⟩) Q E s := by
  unfold
    Builtin.«object.__ne__»
  repeat (first
    | with_reducible refine (wpAny_cRoomFor hu ?_)
    | (refine wpAny_bind (m := callSpecialIfBound? (.ref x) (Str.ofString "__eq__") [b]) (ifBound_K X I hs hf (wpAny_mono hcall (fun v9 s9 h9 => by
          obtain ⟨k9, rfl, hq⟩ := h9
          repeat (first | exact hq | exact wpAny_pure hq
                                                  | exact wpAny_truthy_bool hq | (refine wpAny_bind (m := truthy (.bool _)) (wpAny_truthy_bool ?_)) | wp_step)) fun _ _ e => e)))
    | wp_step)
theorem ne_K {Q : Value → Shared → Prop} (hu : A.units + 1 < cLine) (F0 : Fr h₀ L s.heap m) (X₀ : K.In h₀) (I : InstAt s.heap x ox C od) (hb : Looks (model prog w) s.heap (typeOf b) tb) (hn : notFirst K C tb = true)
    (hne : findIn K (.ref C) "__ne__" = some (some (.builtin "object.__ne__"))) (hm : mroIn K C (.type "object") = some true) (hs : findIn K (.ref C) "__eq__" = some (some (.ref f))) (hf : isFn K (.ref f) = true)
    (h : wpAny (model prog w) A.in1 (call (.ref f) [.ref x, b]) (fun v s' => ∃ k, v = .bool k ∧ Q (.bool (!k)) s') E s) : wpAny (model prog w) A (richCompare .NotEq (.ref x) b) Q E s := by
  have X := X₀.keeps F0.keep
  have one : wpAny (model prog w) A (tryCompare (.ref x) "__ne__" b) (fun r s' => ∃ v, r = some v ∧ Q v s') E s := by
    unfold tryCompare
    refine wpAny_bind (ne_bound X I hne (wpAny_call (codeAny_call_builtin F.cmp_object.ne.plain F.cmpEntry_ne (check_slot F.cmpKind_ne F.cmpSplit_ne (I.type.andThen (looks_mroIn X hm)) (F.cmpArgs_ne _ _) (ne_entry (A := A.in1) X I hs hf hu (wpAny_mono h (fun v9 s9 h9 => ?_) fun _ _ e => e))))))
    obtain ⟨k9, rfl, hq⟩ := h9
    first | exact ⟨k9, rfl, wpAny_pure ⟨_, rfl, hq⟩⟩ | exact ⟨k9, rfl, ⟨_, rfl, hq⟩⟩ | exact ⟨k9, rfl, wpAny_pure (wpAny_pure ⟨_, rfl, hq⟩)⟩
  unfold richCompare
  simp only [oneThing_ref, cmpInfo_NotEq]
  refine wpAny_holding (wpAny_bind (wpAny_cRoomFor (Nat.lt_of_succ_lt hu) (wpAny_bind (I.type.here (wpAny_bind (hb.here ?_))))))
  split
  · rename_i q
    have e : subIn K tb
        (.ref C) = some false := by
      rcases Bool.or_eq_true_iff.mp hn with e9 | e9
      · rw [beq_iff_eq.mp e9] at q; simp at q
      · exact beq_iff_eq.mp e9
    refine wpAny_bind
      ((looks_subIn X e).here ?_)
    simp only [if_false,
      Bool.false_eq_true]
    refine wpAny_bind (wpAny_mono one (fun r9 s9 z => ?_) fun _ _ e => e)
    obtain ⟨v9, rfl, hq⟩ := z
    exact wpAny_pure hq
  · refine wpAny_bind
      (wpAny_pure ?_)
    simp only [if_false,
      Bool.false_eq_true]
    refine wpAny_bind (wpAny_mono one (fun r9 s9 z => ?_) fun _ _ e => e)
    obtain ⟨v9, rfl, hq⟩ := z
    exact wpAny_pure hq
end
end VX
namespace VL
open PySem L2 PySem.Spec PyProof.Rows
def rOwnN (K : PySem.W.Frag) (C : Addr) (sp : Sp) : R2 := fun x y H Q => ∃ a dx fs tb, x = .ref a ∧ H a = some (.ins C dx fs) ∧ TyX K H y tb ∧ PySem.W.notFirst K C tb = true ∧ sp [x, y] H (fun v H' => ∃ k, v = .bl k ∧ Q (.bl (!k)) H') (fun _ _ _ => False)
section
variable {T : Tx} {X : Cx} {C g : Addr} {c : String} {k : Nat} {fd : FuncData} {qs0 : List Str} {sp : Sp} {mf : MFn}
theorem op_ownN (hne : PySem.W.findIn X.K (.ref C) "__ne__" = some (some (.builtin "object.__ne__"))) (hm : PySem.W.mroIn X.K C (.type "object") = some true) (hs : PySem.W.findIn X.K (.ref C) "__eq__" = some (some (.ref g))) (hf : PySem.W.isFn X.K (.ref g) = true)
    (F : FnOk X.prog X.w X.K X.mg X.base (L2.CX X.prog X.w) k g fd qs0 sp) (hb : Binds X.K fd qs0 []) (hr : Room (k + 1) X.A) (hu : X.A.units + 1 < cLine) (hx : Passes (L2.CX X.prog X.w) X.nox (fun _ _ _ => False)) : OpR X (compareOp .NotEq) (rOwnN X.K C sp) := by
  intro pins s σ H x y v u Q I rx ry hh
  obtain ⟨a, dx, fs, tb, rfl, ha, ty, hn, q⟩ := hh
  cases (show v = .ref a from rx)
  obtain ⟨mA, O, _, _, _, _⟩ := ins_get I.hok ha
  obtain ⟨od, J, _⟩ := O.look
  obtain ⟨P, Z, pp, _⟩ := kit_of I ry ty
  obtain ⟨m, hF⟩ := I.fr
  have hl : ([Value.ref a, u] ++ []).length = qs0.length := (F.len _ _ _ _ q).symm.symm ▸ rfl
  have bt := hb s [.ref a, u] I.kIn hl
  rw [List.append_nil] at bt
  refine VX.ne_K (tb := tb) hu hF I.ok.mod.kin J (Z.ty _ _ I.kIn pp) hn hne hm hs hf (wpAny_call (codeAny_mono (F.run X.A.in1 X.stack s H ⟨[.ref a, u], []⟩ [.ref a, u] [.ref a, y] _ _ hr.in1 I.env0.in1 bt (.cons rfl (.cons ry .nil)) q) fun r s' hq => ?_))
  cases r with
  | error er => exact False.elim (hx pins σ H s er s' (I.wish _) hq)
  | ok fl =>
    cases fl with
    | ret w =>
      obtain ⟨v9, H', I3, rv, b9, e9, q3⟩ := I.after hq
      subst e9
      cases rv
      exact ⟨b9, rfl, .bl (!b9), H', I3, rfl, q3⟩
    | next => exact False.elim hq
    | brk => exact False.elim hq
    | cont => exact False.elim hq
def negB (w : W) (h : Hv) : Res W := match w with
  | .bl b => .val (.bl (!b)) h
  | _ => .bad
def mNeO (c : String) (cs : List String) (mf : MFn) : MOp := fun x y h => (mEqO c cs mf x y h).bind negB
theorem ro_neO {cs : List String} (hcv : T.cv c = .ref C) (hcs : ∀ e, cs.contains e = true → ∃ D, T.cv e = .ref D ∧ InsC X.K D ∧ PySem.W.notFirst X.K C (.ref D) = true) (hty : ∀ t ∈ tyNs, PySem.W.notFirst X.K C (.type t) = true) (hK : T.K = X.K := by rfl) : RO T (rOwnN X.K C (spV T 2 mf)) (mNeO c cs mf) := by
  intro ps h H x y vx vy Q E vw wx wy gd
  have z := ro_eqO (X := X) (mf := mf) hcv hcs hty hK ps h H x y vx vy _ E vw wx wy (Good.bind (R := WV) (S := WV) gd)
  obtain ⟨a, dx, fs, tb, e1, e2, e3, e4, sp9⟩ := z
  refine ⟨a, dx, fs, tb, e1, e2, e3, e4, ?_⟩
  obtain ⟨hl, d9, ps2, h2, ws, vw2, wv2, g2⟩ := sp9
  refine ⟨hl, d9, ps2, h2, ws, vw2, wv2, g2.imp (fun v H' q => ?_) fun _ _ _ z => z⟩
  obtain ⟨qs, w, h3, st, vw3, wv3, g3⟩ := q
  unfold negB at g3
  split at g3
  · cases wv3
    exact ⟨_, rfl, Good.now g3 vw3 rfl⟩
  · exact g3.elim
end
end VL
end
section
namespace VL
open PySem L2 PySem.Spec PyProof.Rows
theorem room1 {a b : Nat} (h : a + 64 < b) : a + 1 < b := by omega
theorem passF {X : Cx} : Passes (L2.CX X.prog X.w) X (fun _ _ _ => False) := fun pins s9 H s e s' I hq => by
  obtain ⟨_, _, _, _, _, _, _, _, _, _, _, _, z⟩ := hq
  exact z.elim
/-! ### len(x), x an instance whose class has a __len__ of its own that raises nothing -/
def rLenO (C : Addr) (sp : Sp) : List V → Hp → VK → Prop := fun xs H Q => ∃ a dx fs, xs = [.ref a] ∧ H a = some (.ins C dx fs) ∧ sp [.ref a] H (fun v H' => ∃ n : Int, v = .int n ∧ 0 ≤ n ∧ n < 2 ^ 63 ∧ Q (.int n) H') (fun _ _ _ => False)
def mLenO (c : String) (mf : MFn) : MFn := fun ws h => match ws with
  | [.ref p] => (match h[p]? with
    | some (.ins d _) => if d = c then (noX (mf [.ref p] h)).bind fun v h2 => (match v with
      | .int n => if decide (0 ≤ n) && decide (n < 1000000) then .val (.int n) h2 else .bad
      | _ => .bad) else .bad
    | _ => .bad)
  | _ => .bad
section
variable {T : Tx} {X : Cx} {C g : Addr} {c : String} {k : Nat} {fd : FuncData} {qs0 : List Str} {sp : Sp} {mf : MFn}
theorem call_lenO (hs : PySem.W.findIn X.K (.ref C) "__len__" = some (some (.ref g))) (hf : PySem.W.isFn X.K (.ref g) = true) (F : FnOk X.prog X.w X.K X.mg X.base (L2.CX X.prog X.w) k g fd qs0 sp) (hb : Binds X.K fd qs0 []) (hr : Room (k + 1) X.A) (hx : Passes (L2.CX X.prog X.w) X.nox (fun _ _ _ => False)) : CallR X (.builtin "len") (rLenO C sp) := by
  intro pins s σ H xs us Q I r hh
  obtain ⟨a, dx, fs, rfl, ha, q⟩ := hh
  obtain ⟨u9, rfl, ru⟩ := vals1 r
  cases (show u9 = Value.ref a from ru)
  obtain ⟨mA, O, _, _, _, _⟩ := ins_get I.hok ha
  obtain ⟨od, J, _⟩ := O.look
  obtain ⟨m, hF⟩ := I.fr
  have hl : ([Value.ref a] ++ []).length = qs0.length := (F.len _ _ _ _ q).symm.symm ▸ rfl
  have bt := hb s [.ref a] I.kIn hl
  rw [List.append_nil] at bt
  refine PySem.W.len_K hF I.ok.mod.kin J hs hf (wpAny_call (codeAny_mono (F.run X.A.in1 X.stack s H ⟨[.ref a], []⟩ [.ref a] [.ref a] _ _ hr.in1 I.env0.in1 bt (.cons rfl .nil) q) fun fin s' hq => ?_))
  cases fin with
  | error er => exact False.elim (hx pins σ H s er s' (I.wish _) hq)
  | ok fl =>
    cases fl with
    | ret w =>
      obtain ⟨v9, H', I3, rv, n, e9, n0, n1, q3⟩ := I.after hq
      subst e9
      obtain ⟨t, rfl⟩ := (show ∃ t, w = Value.int n t from rv)
      exact ⟨⟨n0, n1⟩, .int n, H', I3.tok _, ⟨_, rfl⟩, q3⟩
    | next => exact False.elim hq
    | brk => exact False.elim hq
    | cont => exact False.elim hq
theorem rc_lenO (hcv : T.cv c = .ref C) : RC T (rLenO C (spV T 1 mf)) (mLenO c mf) := by
  intro ps h H ws vs Q E vw wv gd
  unfold mLenO at gd
  split at gd
  · rename_i p
    obtain ⟨v, rfl, a, ea, rfl⟩ := one_of wv
    split at gd
    · rename_i d fs e1
      split at gd
      · rename_i hd
        subst hd
        obtain ⟨us, dx, C', hc', rr, eH⟩ := vw.ob _ a _ ea e1
        rw [hcv] at hc'
        cases hc'
        refine ⟨a, dx, us, rfl, eH, rfl, T.hd, ps, h, [.ref p], vw, .cons ⟨a, ea, rfl⟩ .nil, ?_⟩
        refine (good_noX (R := WV) (S := WV) gd).imp (fun v H' q => ?_) fun _ _ _ z => z
        obtain ⟨qs, w, h3, st, vw3, wv3, g3⟩ := q
        dsimp only at g3
        split at g3
        · split at g3
          · rename_i n hn
            rw [Bool.and_eq_true] at hn
            cases wv3
            have n1 : n < 1000000 := of_decide_eq_true hn.2
            exact ⟨n, rfl, of_decide_eq_true hn.1, by have : (1000000 : Int) ≤ 2 ^ 63 := by decide
                                                      omega, Good.now g3 vw3 rfl⟩
          · exact g3.elim
        · exact g3.elim
      · exact gd.elim
    · exact gd.elim
  · exact gd.elim
end
end VL
end
section
namespace VL
open PySem L2
/-! ### texts of data -/
theorem strOk_of (s : String) : PyData.strOk (Str.ofString s) = true := by
  rw [Str.ofString_eq_toList]
  simp only [PyData.strOk, List.all_toArray, List.all_map, List.all_eq_true]
  intro c hc
  have := c.valid
  simp only [Function.comp, decide_eq_true_eq]
  have h : c.toNat < 0x110000 := by
    rcases this with q | q
    · have : c.val.toNat < 0xd800 := q
      show c.val.toNat < 0x110000
      omega
    · exact q.2
  exact h
theorem strOk_app {a b : Str} (h1 : PyData.strOk a = true) (h2 : PyData.strOk b = true) : PyData.strOk (a ++ b) = true := by
  unfold PyData.strOk at *
  rw [Str.cps_append]
  simp only [Array.all_append, h1, h2, Bool.and_self]
theorem tf_ok : ∀ (ts : List Str) (k : Nat) (acc : Str), PyData.strOk acc = true → (∀ t ∈ ts, PyData.strOk t = true) → PyData.strOk (textFrom k acc ts) = true
  | [], _, _, h, _ => h
  | t :: ts, k, acc, h, g => by
    refine tf_ok ts (k + 1) _ (strOk_app (strOk_app h ?_) (g t List.mem_cons_self)) fun u hu => g u (List.mem_cons_of_mem _ hu)
    split
    · exact strOk_of _
    · exact strOk_of _
theorem join_ok : ∀ (ts : List Str), (∀ t ∈ ts, PyData.strOk t = true) → PyData.strOk (Str.join ", " ts) = true
  | [], _ => strOk_of ""
  | [x], h => h x List.mem_cons_self
  | x :: y :: r, h => by
    have ih := join_ok (y :: r) fun t ht => h t (List.mem_cons_of_mem _ ht)
    exact strOk_app (strOk_app (h x List.mem_cons_self) (strOk_of _)) ih
mutual
def okS : PyData → Bool
  | .str x => PyData.strOk (reprText x)
  | .list xs => okSs xs
  | .tuple xs => okSs xs
  | .dict _ => false
  | .none => true
  | .bool _ => true
  | .int _ => true
def okSs : List PyData → Bool
  | [] => true
  | x :: xs => okS x && okSs xs
end
mutual
theorem okS_shown : ∀ d : PyData, okS d = true → PyData.strOk d.shown = true
  | .none, _ => strOk_of _
  | .bool b, _ => by cases b <;> exact strOk_of _
  | .int i, _ => strOk_of _
  | .str x, h => by
    have h2 : PyData.strOk (reprText x) = true := by simpa only [okS] using h
    exact h2
  | .list xs, h => strOk_app (tf_ok _ 0 _ (strOk_of _) (okSs_shown xs (by simpa only [okS] using h))) (strOk_of _)
  | .tuple xs, h => strOk_app (strOk_app (strOk_of _) (join_ok _ (okSs_shown xs (by simpa only [okS] using h)))) (by split <;> exact strOk_of _)
  | .dict _, h => by simp only [okS] at h; cases h
theorem okSs_shown : ∀ xs : List PyData, okSs xs = true → ∀ t ∈ PyData.shownAll xs, PyData.strOk t = true
  | [], _, t, ht => by simp only [PyData.shownAll] at ht; cases ht
  | x :: xs, h, t, ht => by
    simp only [okSs, Bool.and_eq_true] at h
    simp only [PyData.shownAll, List.mem_cons] at ht
    rcases ht with rfl | ht
    · exact okS_shown x h.1
    · exact okSs_shown xs h.2 t ht
end
theorem shaped_str {x : Str} (h : PyData.strOk x = true) : SeqAt.shaped (.str x) = true := by
  simp [SeqAt.shaped, PyData.canLay0, PyData.depth, h]
theorem eq_same_str {neg : Bool} {s : Str} {h : Hv} (hs : PyData.strOk s = true) : mEq neg (.str s) (.str s) h = .val (.bl (!neg)) h := by
  have e : toD dF h (.str s) = some (.str s) := rfl
  have z := shaped_str hs
  cases neg <;> simp [mEq, e, z, PyData.eqv]
theorem int_len {i : Int} (h : i.natAbs < 2 ^ 1000) : (Str.ofString (toString i)).length ≤ 303 := by
  rw [PySem.ofString_length]
  exact PySem.int_text_length_le10 (k := 302) (by decide) (Nat.lt_of_lt_of_le h (by decide +kernel))
/-- repr of data whose numbers have up to 1000 bits -/
theorem reprE_of {h : Hv} {p : Nat} {d : PyData} (hd : toD dF h (.ref p) = some d) (hne : h[p]? ≠ some (.dic [])) (h1 : d.showable = true) (h2 : d.hasDict = false) (h3 : d.depth ≤ 60) (h4 : d.shown.length ≤ 100000) : mReprE [.ref p] h = .val (.str d.shown) h := by
  have r1 : mRepr [.ref p] h = .val (.str d.shown) h := by
    simp only [mRepr, hd, h1, h2, h3, h4, decide_true, Bool.not_false, Bool.and_self, if_true]
  show (match h[p]? with | some (.dic []) => Res.val (W.str ("{}" : Str)) h | _ => mRepr [.ref p] h) = _
  split
  · rename_i e
    exact absurd e hne
  · exact r1
end VL
end
section
namespace VL
open PySem L2
/-! ### the loop of a law over its cells -/
theorem toD_ints {n : Nat} {h : Hv} : ∀ ns : List Int, optAll (toD (n + 1) h) (ns.map W.int) = some (ns.map PyData.int)
  | [] => rfl
  | z :: ns => by
    have ih := toD_ints (n := n) (h := h) ns
    simp only [List.map_cons, optAll, ih]
    rfl
theorem lay_ints : ∀ ns : List Int, PyData.canLayAll0 (ns.map PyData.int) = true
  | [] => rfl
  | z :: ns => by
    have ih := lay_ints ns
    simp [PyData.canLayAll0, PyData.canLay0, ih]
theorem deep_ints : ∀ ns : List Int, PyData.depthAll (ns.map PyData.int) = 0
  | [] => rfl
  | z :: ns => by
    have ih := deep_ints ns
    simp [PyData.depthAll, PyData.depth, ih]
theorem shaped_ints (ns : List Int) : SeqAt.shaped (.list (ns.map PyData.int)) = true := by
  simp [SeqAt.shaped, PyData.canLay0, PyData.depth, lay_ints, deep_ints]
theorem toD_lstI {h : Hv} {p : Nat} {ns : List Int} (e : h[p]? = some (.lst (ns.map W.int))) : toD dF h (.ref p) = some (.list (ns.map PyData.int)) := by
  obtain ⟨k, hk⟩ : ∃ k, dF = k + 2 := ⟨dF - 2, by decide⟩
  rw [hk]
  have ti := toD_ints (n := k) (h := h) ns
  simp only [toD, e]
  exact congrArg (Option.map PyData.list) ti
theorem toD_rolI {h : Hv} {p : Nat} {ns : List Int} (e : h[p]? = some (.rol (ns.map W.int))) : toD dF h (.ref p) = some (.list (ns.map PyData.int)) := by
  obtain ⟨k, hk⟩ : ∃ k, dF = k + 2 := ⟨dF - 2, by decide⟩
  rw [hk]
  have ti := toD_ints (n := k) (h := h) ns
  simp only [toD, e]
  exact congrArg (Option.map PyData.list) ti
theorem eq_emptyI {h : Hv} {p q : Nat} {ns : List Int} (e1 : h[p]? = some (.rol (ns.map W.int))) (e2 : h[q]? = some (.lst [])) : mEq false (.ref p) (.ref q) h = .val (.bl ns.isEmpty) h := by
  have t1 := toD_rolI e1
  have t2 := toD_lstI (ns := []) e2
  have s0 := shaped_ints []
  cases ns with
  | nil => simp only [mEq, t1, t2, s0, Bool.and_self, if_true]; rfl
  | cons z ns =>
    have s1 := shaped_ints (z :: ns)
    simp only [mEq, t1, t2, s0, s1, Bool.and_self, if_true]
    rfl
theorem for_enumL {P : Nat} {L : List W} {b : MS} (I : Ws → Hv → Prop) (keep : ∀ r h, I r h → h[P]? = some (.lst L)) (step : ∀ (i : Nat) w, L[i]? = some w → ∀ r h, I r h → ∃ r' h', b ((r.set 1 (some (.int i))).set 2 (some w)) h = .nx r' h' ∧ I r' h') :
    ∀ (k i : Nat) (r : Ws) (h : Hv), i + k = L.length → I r h → ∃ r' h', VL.forM (nxEnum P) (mGs 2 (mGcons (mGn 1) (mGcons (mGn 2) mGnil))) b (k + 1) i r h = .nx r' h' ∧ I r' h'
  | 0, i, r, h, hk, hi => by
    refine ⟨r, h, ?_, hi⟩
    unfold VL.forM
    simp [nxEnum, keep r h hi, show L.length ≤ i by omega]
  | k + 1, i, r, h, hk, hi => by
    have lt : i < L.length := by omega
    obtain ⟨r1, h1, e1, i1⟩ := step i L[i] (List.getElem?_eq_getElem lt) r h hi
    obtain ⟨r2, h2, e2, i2⟩ := for_enumL I keep step k (i + 1) r1 h1 (by omega) i1
    refine ⟨r2, h2, ?_, i2⟩
    unfold VL.forM
    have gt : mGs 2 (mGcons (mGn 1) (mGcons (mGn 2) mGnil)) (.tup [.int i, L[i]]) r h = .nx ((r.set 1 (some (.int i))).set 2 (some L[i])) h := by
      simp [mGs, mGcons, mGnil]
    simp only [nxEnum, keep r h hi, List.getElem?_eq_getElem lt, gt, e1]
    exact e2
theorem cut_sub {xs : List W} {lo hi : Option Int} : ∀ w ∈ cutW xs lo hi, w ∈ xs := fun w hw => List.mem_of_mem_drop (List.mem_of_mem_take hw)
theorem cut_len {xs : List W} {lo hi : Option Int} : (cutW xs lo hi).length ≤ xs.length := by
  unfold cutW
  simp only [List.length_take, List.length_drop]
  omega
abbrev lawSrc (k : Int) : Ws → Hv → Res Src := (mEnum (mCons (m2 mAdd (mSl (mVar 0) (mPart none) (mPart (some (mC (.int k))))) (m2 mMul (mLst (mCons (mC (.int 7)) mNil)) (mB mInt (mCons (m2 (mEq false) (mVar 0) (mLst mNil)) mNil)))) mNil))
theorem lawSrc_ok {k : Int} (r0 : Ws) (ns : List Int) (h1 : ns.length ≤ 63) : ∃ (L : List W) (P : Nat) (h : Hv), lawSrc k (some (.ref 0) :: r0) [.rol (ns.map W.int)] = .val ⟨L.length + 1, nxEnum P⟩ h ∧ h[P]? = some (.lst L) ∧ L.length ≤ 64 ∧ ∀ w ∈ L, ∃ z : Int, w = .int z := by
  have c1 := cut_sub (xs := ns.map W.int) (lo := none) (hi := some k)
  have c2 := cut_len (xs := ns.map W.int) (lo := none) (hi := some k)
  generalize hC : cutW (ns.map W.int) none (some k) = C at c1 c2
  have ci : ∀ w ∈ C, ∃ z : Int, w = .int z := fun w hw => by
    obtain ⟨z, _, rfl⟩ := List.mem_map.mp (c1 w hw)
    exact ⟨z, rfl⟩
  rw [List.length_map] at c2
  have eqe := eq_emptyI (h := [.rol (ns.map W.int), .lst C, .lst [.int 7], .lst []]) (p := 0) (q := 3) (ns := ns) rfl rfl
  cases hb : ns.isEmpty with
  | true =>
    rw [hb] at eqe
    refine ⟨C ++ [.int 7], 5, [.rol (ns.map W.int), .lst C, .lst [.int 7], .lst [], .lst [.int 7], .lst (C ++ [.int 7])], ?_, rfl, by simp; omega, fun w hw => ?_⟩
    · simp [lawSrc, mEnum, mSl, mPart, mCut, hC, eqe, mMul, mAdd, srcE, show C.length + 1 ≤ 100000 by omega]
    · rcases List.mem_append.mp hw with q | q
      · exact ci w q
      · exact ⟨7, List.mem_singleton.mp q⟩
  | false =>
    rw [hb] at eqe
    refine ⟨C ++ [], 5, [.rol (ns.map W.int), .lst C, .lst [.int 7], .lst [], .lst [], .lst (C ++ [])], ?_, rfl, by simp; omega, fun w hw => ?_⟩
    · simp [lawSrc, mEnum, mSl, mPart, mCut, hC, eqe, mMul, mAdd, srcE, show C.length ≤ 100000 by omega]
    · rw [List.append_nil] at hw
      exact ci w hw
/-- the whole law, from one turn -/
theorem law_loop {k : Int} {m : Nat} {N : List Str} {B : MS} (hN : N.length = m + 3) (turn : ∀ (i : Nat) (c : Int), i ≤ 1000 → ∃ r g, B (none :: some (.int i) :: some (.int c) :: List.replicate m none) [] = .nx r g ∧ r.length = m + 3)
    (ns : List Int) (h1 : ns.length ≤ 63) : ∃ h', mDef N (mSeq (mFor (lawSrc k) (mGs 2 (mGcons (mGn 1) (mGcons (mGn 2) mGnil))) (mLocal [1, 2] B)) (mRet (mC (.bl true)))) [.ref 0] [.rol (ns.map W.int)] = .val (.bl true) h' := by
  obtain ⟨L, P, h, es, eP, hL, hI⟩ := lawSrc_ok (k := k) (List.replicate (m + 2) none) ns h1
  have kr : ∀ (j : Nat) (r : Ws), j ≥ 3 → keepR [1, 2] j r = List.replicate r.length none := fun j r hj => by
    induction r generalizing j with
    | nil => rfl
    | cons o r ih =>
      have c : ([1, 2] : List Nat).contains j = false := by
        simp
        omega
      simp only [keepR, c, Bool.false_eq_true, if_false, ih (j + 1) (by omega), List.length_cons, List.replicate_succ]
  have one : ∀ (r : Ws) (g : Hv) (i : Nat) (c : Int), i ≤ 1000 → r.length = m + 3 → ∃ r', mLocal [1, 2] B ((r.set 1 (some (.int i))).set 2 (some (.int c))) g = .nx r' g ∧ r'.length = m + 3 := fun r g i c hi hl => by
    obtain ⟨r1, g1, e, l1⟩ := turn i c hi
    refine ⟨offR r1, ?_, by simp [offR, l1]⟩
    have kp : keepR [1, 2] 0 ((r.set 1 (some (.int i))).set 2 (some (.int c))) = none :: some (.int i) :: some (.int c) :: List.replicate m none := by
      match r, hl with
      | a :: b :: d :: r, hl =>
        have l2 : r.length = m := by simpa using hl
        have := kr 3 r (Nat.le_refl _)
        rw [l2] at this
        have e3 : keepR [1, 2] 0 (((a :: b :: d :: r).set 1 (some (.int i))).set 2 (some (.int c))) = none :: some (.int i) :: some (.int c) :: keepR [1, 2] 3 r := by
          cases a <;> rfl
        rw [e3, this]
      | [], hl => simp at hl
      | [a], hl => simp at hl
      | [a, b], hl => simp at hl
    unfold mLocal
    rw [kp, e]
  obtain ⟨r', h', fe, _⟩ := for_enumL (P := P) (L := L) (b := mLocal [1, 2] B) (fun r g => r.length = m + 3 ∧ g[P]? = some (.lst L)) (fun r g z => z.2) (fun i w ew r g z => by
    obtain ⟨c, rfl⟩ := hI w (List.mem_of_getElem? ew)
    have hi : i < L.length := (List.getElem?_eq_some_iff.mp ew).1
    obtain ⟨r1, e1, l1⟩ := one r g i c (by omega) z.1
    exact ⟨r1, _, e1, l1, z.2⟩) L.length 0 (some (.ref 0) :: List.replicate (m + 2) none) h (by omega) ⟨by simp, eP⟩
  have st : startW N [.ref 0] = some (.ref 0) :: List.replicate (m + 2) none := by
    unfold startW
    simp [hN]
  refine ⟨h', ?_⟩
  rw [mDef_eq, st, mSeq_eq]
  unfold mFor
  rw [es, andS_val, fe, thenS_nx, mRet_eq, mC_eq, andS_val, endS_rt]
end VL
end
section
namespace VL
open PySem L2
/-! ### numbers -/
theorem fmod_gcd (a b : Int) : Int.gcd b (a.fmod b) = Int.gcd a b := by
  rw [Int.fmod_def, Int.gcd_comm b, Int.gcd_sub_mul_left_left]
theorem fmod_small (a b : Int) (hb : b ≠ 0) : (a.fmod b).natAbs < b.natAbs := by
  rw [Int.fmod_eq_emod]
  have h1 := Int.emod_nonneg a hb
  have h2 := Int.emod_lt a hb
  split
  · omega
  · rename_i h
    have hneg : b < 0 := by
      rcases Int.lt_or_gt_of_ne hb with q | q
      · exact q
      · exact absurd (.inl (Int.le_of_lt q)) h
    have hne : a % b ≠ 0 := fun z => h (.inr (Int.dvd_of_emod_eq_zero z))
    omega
/-- the fraction of two numbers -/
def frG (n d : Int) : Int := if d < 0 then -(Int.gcd n d : Int) else (Int.gcd n d : Int)
def fr (n d : Int) : Int × Int := (n.fdiv (frG n d), d.fdiv (frG n d))
theorem gcd_pos {n d : Int} (hd : d ≠ 0) : 0 < (Int.gcd n d : Int) := by
  have : Int.gcd n d ≠ 0 := fun z => hd (Int.gcd_eq_zero_iff.mp z).2
  omega
theorem frG_ne {n d : Int} (hd : d ≠ 0) : frG n d ≠ 0 := by
  have := gcd_pos (n := n) hd
  unfold frG
  split <;> omega
theorem frG_dvd_left (n d : Int) : frG n d ∣ n := by
  unfold frG
  split
  · exact Int.neg_dvd.mpr (Int.gcd_dvd_left ..)
  · exact Int.gcd_dvd_left ..
theorem frG_dvd_right (n d : Int) : frG n d ∣ d := by
  unfold frG
  split
  · exact Int.neg_dvd.mpr (Int.gcd_dvd_right ..)
  · exact Int.gcd_dvd_right ..
theorem fr_mul_left (n d : Int) : frG n d * (fr n d).1 = n := Int.mul_fdiv_cancel' (frG_dvd_left n d)
theorem fr_mul_right (n d : Int) : frG n d * (fr n d).2 = d := Int.mul_fdiv_cancel' (frG_dvd_right n d)
theorem fr_pos {n d : Int} (hd : d ≠ 0) : 0 < (fr n d).2 := by
  have h := fr_mul_right n d
  have g := gcd_pos (n := n) hd
  by_cases hn : d < 0
  · have e : frG n d = -(Int.gcd n d : Int) := by simp [frG, hn]
    rw [e] at h
    refine Int.not_le.mp fun z => ?_
    have : 0 ≤ -(Int.gcd n d : Int) * (fr n d).2 := Int.mul_nonneg_of_nonpos_of_nonpos (by omega) z
    omega
  · have e : frG n d = (Int.gcd n d : Int) := by simp [frG, hn]
    rw [e] at h
    refine Int.not_le.mp fun z => ?_
    have : (Int.gcd n d : Int) * (fr n d).2 ≤ 0 := Int.mul_nonpos_of_nonneg_of_nonpos (by omega) z
    omega
theorem fr_one {n d : Int} (hd : d ≠ 0) : Int.gcd (fr n d).1 (fr n d).2 = 1 := by
  have h1 := fr_mul_left n d
  have h2 := fr_mul_right n d
  have e : Int.gcd (frG n d * (fr n d).1) (frG n d * (fr n d).2) = (frG n d).natAbs * Int.gcd (fr n d).1 (fr n d).2 := Int.gcd_mul_left ..
  rw [h1, h2] at e
  have g : (frG n d).natAbs = Int.gcd n d := by unfold frG; split <;> omega
  rw [g] at e
  have p := gcd_pos (n := n) hd
  have p2 : 0 < Int.gcd n d := by omega
  exact (Nat.eq_of_mul_eq_mul_left p2 (by rw [Nat.mul_one]; exact e)).symm
theorem fr_val (n d : Int) : (fr n d).1 * d = n * (fr n d).2 := by
  have h1 := fr_mul_left n d
  have h2 := fr_mul_right n d
  calc (fr n d).1 * d = (fr n d).1 * (frG n d * (fr n d).2) := by rw [h2]
    _ = (frG n d * (fr n d).1) * (fr n d).2 := by rw [← Int.mul_assoc, Int.mul_comm (fr n d).1]
    _ = n * (fr n d).2 := by rw [h1]
/-- two reduced fractions of one value are one -/
theorem red_unique {a b c d : Int} (hb : 0 < b) (hd : 0 < d) (h1 : Int.gcd a b = 1) (h2 : Int.gcd c d = 1) (h : a * d = c * b) : a = c ∧ b = d := by
  have k1 : b ∣ d := by
    have z : b ∣ a * d := ⟨c, by rw [h, Int.mul_comm]⟩
    have q := Int.dvd_gcd_mul_iff_dvd_mul.mpr z
    rw [Int.gcd_comm, h1] at q
    simpa using q
  have k2 : d ∣ b := by
    have z : d ∣ c * b := ⟨a, by rw [← h, Int.mul_comm]⟩
    have q := Int.dvd_gcd_mul_iff_dvd_mul.mpr z
    rw [Int.gcd_comm, h2] at q
    simpa using q
  have e : b = d := Int.dvd_antisymm (Int.le_of_lt hb) (Int.le_of_lt hd) k1 k2
  subst e
  exact ⟨Int.eq_of_mul_eq_mul_right (by omega) h, rfl⟩
theorem fr_eq {n d m e : Int} (hd : d ≠ 0) (he : e ≠ 0) (h : n * e = m * d) : fr n d = fr m e := by
  have v1 := fr_val n d
  have v2 := fr_val m e
  have p1 := fr_pos (n := n) hd
  have p2 := fr_pos (n := m) he
  have key : (fr n d).1 * (fr m e).2 = (fr m e).1 * (fr n d).2 := by
    have z : d * e ≠ 0 := Int.mul_ne_zero hd he
    refine Int.eq_of_mul_eq_mul_right z ?_
    calc (fr n d).1 * (fr m e).2 * (d * e) = ((fr n d).1 * d) * ((fr m e).2 * e) := by ac_rfl
      _ = (n * (fr n d).2) * ((fr m e).2 * e) := by rw [v1]
      _ = (n * e) * ((fr n d).2 * (fr m e).2) := by ac_rfl
      _ = (m * d) * ((fr n d).2 * (fr m e).2) := by rw [h]
      _ = (m * (fr m e).2) * ((fr n d).2 * d) := by ac_rfl
      _ = ((fr m e).1 * e) * ((fr n d).2 * d) := by rw [v2]
      _ = (fr m e).1 * (fr n d).2 * (d * e) := by ac_rfl
  obtain ⟨a, b⟩ := red_unique p1 p2 (fr_one hd) (fr_one he) key
  exact Prod.ext a b
theorem fr_self {n d : Int} (hd : 0 < d) (hg : Int.gcd n d = 1) : fr n d = (n, d) := by
  have e : frG n d = 1 := by
    unfold frG
    rw [if_neg (by omega), hg]
    rfl
  simp [fr, e]

/-! ### the operations on known values -/
@[simp] theorem isi_int_int {i : Int} {h : Hv} : mIsi [.int i, .ty "int"] h = .val (.bl true) h := by
  simp [mIsi, tyN, show kitB "int" "int" = some true from by decide +kernel]
@[simp] theorem isi_int_bool {i : Int} {h : Hv} : mIsi [.int i, .ty "bool"] h = .val (.bl false) h := by
  simp [mIsi, tyN, show kitB "int" "bool" = some false from by decide +kernel]
@[simp] theorem isi_tup {xs : List W} {h : Hv} : mIsi [.tup xs, .ty "tuple"] h = .val (.bl true) h := by
  simp [mIsi, tyN, show kitB "tuple" "tuple" = some true from by decide +kernel]
@[simp] theorem len_tup {xs : List W} {h : Hv} : mLen [.tup xs] h = .val (.int xs.length) h := rfl
theorem isi_lst {p : Nat} {xs : List W} {h : Hv} (e : h[p]? = some (.lst xs)) : mIsi [.ref p, .ty "list"] h = .val (.bl true) h := by
  have t : tyN h (.ref p) = some "list" := by simp [tyN, e]
  have k : kitB "list" "list" = some true := by decide +kernel
  simp [mIsi, t, k]
theorem len_lst {p : Nat} {xs : List W} {h : Hv} (e : h[p]? = some (.lst xs)) : mLen [.ref p] h = .val (.int xs.length) h := by
  simp [mLen, e]
/-- a number of so many bits at most -/
def Sm (i : Int) : Prop := i.natAbs < 2 ^ 1000
theorem log_le {a b : Nat} (h : a < 2 ^ b) (hb : 0 < b) : a.log2 < b := PySem.Flt.log2_lt_of hb h
theorem Sm.log {i : Int} (h : Sm i) : i.natAbs.log2 < 1000 := log_le h (by decide)
theorem gcd_sm {n d : Int} (hd : d ≠ 0) (h : Sm d) : (Int.gcd n d) < 2 ^ 1000 := by
  have z : Int.gcd n d ∣ d.natAbs := Int.gcd_dvd_natAbs_right ..
  have y : Int.gcd n d ≤ d.natAbs := Nat.le_of_dvd (by omega) z
  exact Nat.lt_of_le_of_lt y h
theorem mul_sm {i j : Int} {h : Hv} (hi : Sm i) (hj : Sm j) : mMul (.int i) (.int j) h = .val (.int (i * j)) h := mMul_int (by have := hi.log; have := hj.log; omega)

/-! ### bounds -/
def Bn (k : Nat) (i : Int) : Prop := i.natAbs < 2 ^ k
theorem Bn.mono {k l : Nat} {i : Int} (h : Bn k i) (hl : k ≤ l) : Bn l i := Nat.lt_of_lt_of_le h (Nat.pow_le_pow_right (by decide) hl)
theorem Bn.sm {k : Nat} {i : Int} (h : Bn k i) (hk : k ≤ 1000) : Sm i := Nat.lt_of_lt_of_le h (Nat.pow_le_pow_right (by decide) hk)
theorem Bn.mul {k l : Nat} {i j : Int} (h : Bn k i) (g : Bn l j) : Bn (k + l) (i * j) := by
  unfold Bn at *
  simp only [Int.natAbs_mul, Nat.pow_add]
  exact Nat.mul_lt_mul_of_lt_of_lt h g
theorem Bn.add {k : Nat} {i j : Int} (h : Bn k i) (g : Bn k j) : Bn (k + 1) (i + j) := by
  unfold Bn at *
  rw [Nat.pow_succ]
  generalize (2 : Nat) ^ k = u at *
  omega
theorem Bn.sub {k : Nat} {i j : Int} (h : Bn k i) (g : Bn k j) : Bn (k + 1) (i - j) := by
  unfold Bn at *
  rw [Nat.pow_succ]
  generalize (2 : Nat) ^ k = u at *
  omega
theorem fdiv_le {i d : Int} (hd : 0 < d) : (i.fdiv d).natAbs ≤ i.natAbs := by
  rw [Int.fdiv_eq_ediv_of_nonneg i (Int.le_of_lt hd)]
  exact Int.natAbs_ediv_le_natAbs i d
/-! ### signs -/
def sg (i : Int) : Int := if i < 0 then -1 else if 0 < i then 1 else 0
theorem sg_cases (i : Int) : (i < 0 ∧ sg i = -1) ∨ (i = 0 ∧ sg i = 0) ∨ (0 < i ∧ sg i = 1) := by
  unfold sg
  rcases Int.lt_trichotomy i 0 with h | h | h
  · exact .inl ⟨h, by simp [h]⟩
  · exact .inr (.inl ⟨h, by simp [h]⟩)
  · exact .inr (.inr ⟨h, by simp [h, show ¬ i < 0 by omega]⟩)
theorem sg_pos {p v : Int} (hp : 0 < p) : sg (p * v) = sg v := by
  rcases Int.lt_trichotomy v 0 with h | h | h
  · have : p * v < 0 := Int.mul_neg_of_pos_of_neg hp h
    simp [sg, h, this]
  · subst h; simp
  · have : 0 < p * v := Int.mul_pos hp h
    simp [sg, h, this, show ¬ v < 0 by omega, show ¬ p * v < 0 by omega]

@[simp] theorem atI2 {α : Type} {x y z : α} {xs : List α} : atI (x :: y :: z :: xs) 2 = some z := atI_nat (j := 2) rfl
@[simp] theorem atI3 {α : Type} {x y z u : α} {xs : List α} : atI (x :: y :: z :: u :: xs) 3 = some u := atI_nat (j := 3) rfl
@[simp] theorem atI4 {α : Type} {x y z u v : α} {xs : List α} : atI (x :: y :: z :: u :: v :: xs) 4 = some v := atI_nat (j := 4) rfl
@[simp] theorem atI5 {α : Type} {x y z u v w : α} {xs : List α} : atI (x :: y :: z :: u :: v :: w :: xs) 5 = some w := atI_nat (j := 5) rfl
@[simp] theorem ix_tup {h : Hv} {xs : List W} {i : Int} : mIx (.tup xs) (.int i) h = ofO (atI xs i) h := rfl
@[simp] theorem is_non {neg : Bool} {h : Hv} {w : W} : mIs neg w .non h = .val (.bl (if neg then !decide (w = .non) else decide (w = .non))) h := by
  cases w <;> rfl
theorem eq_int {i j : Int} {g : Hv} : mEq false (.int i) (.int j) g = .val (.bl (decide (i = j))) g := by
  have e : (i == j) = decide (i = j) := by rw [Bool.eq_iff_iff]; simp
  simp [mEq, toD, shaped_int, PyData.eqv, e]
theorem ne_int {i j : Int} {g : Hv} : mEq true (.int i) (.int j) g = .val (.bl (!decide (i = j))) g := by
  have e : (i == j) = decide (i = j) := by rw [Bool.eq_iff_iff]; simp
  simp [mEq, toD, shaped_int, PyData.eqv, e]

/-! ### loops over a range -/
theorem for_rng {n : Nat} {lo : Int} {s : Nat} {b : MS} (I : Nat → Ws → Hv → Prop) (step : ∀ i r h, i < n → I i r h → ∃ r' h', b (r.set s (some (.int (lo + i)))) h = .nx r' h' ∧ I (i + 1) r' h') :
    ∀ (k i : Nat) (r : Ws) (h : Hv), i + k = n → I i r h → ∃ r' h', VL.forM (nxR lo n) (mGn s) b (k + 1) i r h = .nx r' h' ∧ I n r' h'
  | 0, i, r, h, hk, hi => by
    have e : i = n := by omega
    subst e
    refine ⟨r, h, ?_, hi⟩
    unfold VL.forM
    simp [nxR]
  | k + 1, i, r, h, hk, hi => by
    obtain ⟨r1, h1, e1, i1⟩ := step i r h (by omega) hi
    obtain ⟨r2, h2, e2, i2⟩ := for_rng I step k (i + 1) r1 h1 (by omega) i1
    refine ⟨r2, h2, ?_, i2⟩
    unfold VL.forM
    simp only [nxR, show i < n by omega, if_true, mGn_eq, e1]
    exact e2


theorem for_seq {p : Nat} {L : List W} {s : Nat} {b : MS} (I : Nat → Ws → Hv → Prop) (keep : ∀ i r h, I i r h → h[p]? = some (.lst L)) (step : ∀ (i : Nat) w, L[i]? = some w → ∀ r h, I i r h → ∃ r' h', b (r.set s (some w)) h = .nx r' h' ∧ I (i + 1) r' h') :
    ∀ (k i : Nat) (r : Ws) (h : Hv), i + k = L.length → I i r h → ∃ r' h', VL.forM (nxSeq p) (mGn s) b (k + 1) i r h = .nx r' h' ∧ I L.length r' h'
  | 0, i, r, h, hk, hi => by
    have e : i = L.length := by omega
    refine ⟨r, h, ?_, by rw [← e]; exact hi⟩
    unfold VL.forM
    simp [nxSeq, keep i r h hi, show L.length ≤ i by omega]
  | k + 1, i, r, h, hk, hi => by
    have lt : i < L.length := by omega
    obtain ⟨r1, h1, e1, i1⟩ := step i L[i] (List.getElem?_eq_getElem lt) r h hi
    obtain ⟨r2, h2, e2, i2⟩ := for_seq I keep step k (i + 1) r1 h1 (by omega) i1
    refine ⟨r2, h2, ?_, i2⟩
    unfold VL.forM
    simp only [nxSeq, keep i r h hi, List.getElem?_eq_getElem lt, mGn_eq, e1]
    exact e2

theorem for_enumI {P a b : Nat} {L : List W} {B : MS} (I : Nat → Ws → Hv → Prop) (keep : ∀ i r h, I i r h → h[P]? = some (.lst L)) (step : ∀ (i : Nat) w, L[i]? = some w → ∀ r h, I i r h → ∃ r' h', B ((r.set a (some (.int i))).set b (some w)) h = .nx r' h' ∧ I (i + 1) r' h') :
    ∀ (k i : Nat) (r : Ws) (h : Hv), i + k = L.length → I i r h → ∃ r' h', VL.forM (nxEnum P) (mGs 2 (mGcons (mGn a) (mGcons (mGn b) mGnil))) B (k + 1) i r h = .nx r' h' ∧ I L.length r' h'
  | 0, i, r, h, hk, hi => by
    have e : i = L.length := by omega
    refine ⟨r, h, ?_, by rw [← e]; exact hi⟩
    unfold VL.forM
    simp [nxEnum, keep i r h hi, show L.length ≤ i by omega]
  | k + 1, i, r, h, hk, hi => by
    have lt : i < L.length := by omega
    obtain ⟨r1, h1, e1, i1⟩ := step i L[i] (List.getElem?_eq_getElem lt) r h hi
    obtain ⟨r2, h2, e2, i2⟩ := for_enumI I keep step k (i + 1) r1 h1 (by omega) i1
    refine ⟨r2, h2, ?_, i2⟩
    unfold VL.forM
    have gt : mGs 2 (mGcons (mGn a) (mGcons (mGn b) mGnil)) (.tup [.int i, L[i]]) r h = .nx ((r.set a (some (.int i))).set b (some L[i])) h := by
      simp [mGs, mGcons, mGnil]
    simp only [nxEnum, keep i r h hi, List.getElem?_eq_getElem lt, gt, e1]
    exact e2

theorem mul64 {i j : Int} {h : Hv} (h1 : i.natAbs < 2 ^ 64) (h2 : j.natAbs < 2 ^ 64) : mMul (.int i) (.int j) h = .val (.int (i * j)) h := mMul_int (by have := log_le h1 (by decide); have := log_le h2 (by decide); omega)
theorem fmod_in (a : Int) {b : Int} (hb : 0 < b) : 0 ≤ a.fmod b ∧ a.fmod b < b := ⟨Int.fmod_nonneg_of_pos a hb, Int.fmod_lt_of_pos a hb⟩
theorem mod420 {i : Int} {h : Hv} : mMod (.int i) (.int 420) h = .val (.int (i.fmod 420)) h := mMod_int (by decide)
theorem div420 {i : Int} {h : Hv} : mDiv (.int i) (.int 420) h = .val (.int (i.fdiv 420)) h := mDiv_int (by decide) (by decide +kernel)
theorem div16 {i : Int} {h : Hv} : mDiv (.int i) (.int 16) h = .val (.int (i.fdiv 16)) h := mDiv_int (by decide) (by decide +kernel)
theorem modM {i : Int} {h : Hv} : mMod (.int i) (.int 2147483629) h = .val (.int (i.fmod 2147483629)) h := mMod_int (by decide)
theorem modN {i : Int} {h : Hv} : mMod (.int i) (.int 2147483647) h = .val (.int (i.fmod 2147483647)) h := mMod_int (by decide)
theorem pow18 {h : Hv} : mPow (.int 10) (.int 18) h = .val (.int 1000000000000000000) h := mPow_int (by decide) (by decide) (by decide)
theorem pow64 {i : Int} {j : Nat} {h : Hv} (h1 : i.natAbs < 2 ^ 64) (hj : j ≤ 1000) : mPow (.int i) (.int (j : Int)) h = .val (.int (i ^ j)) h := by
  have := mPow_int (i := i) (j := (j : Int)) (h := h) (by omega) (by omega) h1
  simpa using this

theorem rgB_small {m : Nat} (hm : m ≤ 1000) : rgB (m : Int) = true := by
  unfold rgB
  rw [Bool.and_eq_true]
  exact ⟨decide_eq_true (by omega), decide_eq_true (by omega)⟩
theorem src_rng {m : Nat} {g : Hv} (hm : m ≤ 1000) : srcR [.int (m : Int)] g = .val ⟨m + 1, nxR 0 m⟩ g := by
  have e : srcR [.int (m : Int)] g = (if rgB (m : Int) then .val ⟨(m : Int).toNat + 1, nxR 0 (m : Int).toNat⟩ g else .bad) := by simp only [srcR]
  rw [e, if_pos (rgB_small hm), Int.toNat_natCast]
theorem mRng_of {m : Nat} {g : Hv} {r : Ws} {f : Ws → Hv → Res (List W)} (hm : m ≤ 1000) (el : f r g = .val [.int (m : Int)] g) : mRng f r g = .val ⟨m + 1, nxR 0 m⟩ g := by
  unfold mRng
  rw [el, bind_val, src_rng hm]

theorem ixN_last {n : Nat} (h : 0 < n) : ixN n (-1) = some (n - 1) := by
  unfold ixN
  simp
  omega
theorem ixN_two {n : Nat} (h : 1 < n) : ixN n (-2) = some (n - 2) := by
  unfold ixN
  simp
  omega
theorem ix_last {h : Hv} {p : Nat} {ws : List W} {w : W} (e : h[p]? = some (.lst ws)) (ew : ws[ws.length - 1]? = some w) : mIx (.ref p) (.int (-1)) h = .val w h := by
  have hl : 0 < ws.length := by
    cases ws with
    | nil => simp at ew
    | cons a b => simp
  exact mIx_lst e (by unfold atI; rw [ixN_last hl]; exact ew)
theorem ix_two {h : Hv} {p : Nat} {ws : List W} {w : W} (hl : 1 < ws.length) (e : h[p]? = some (.lst ws)) (ew : ws[ws.length - 2]? = some w) : mIx (.ref p) (.int (-2)) h = .val w h :=
  mIx_lst e (by unfold atI; rw [ixN_two hl]; exact ew)
theorem ix_nat {h : Hv} {p j : Nat} {ws : List W} {w : W} (e : h[p]? = some (.lst ws)) (ew : ws[j]? = some w) : mIx (.ref p) (.int (j : Int)) h = .val w h := mIx_lst e (atI_nat ew)

theorem src_rng2 {n : Nat} {g : Hv} (h1 : 1 ≤ n) (h2 : n ≤ 1000) : srcR [.int 1, .int (n : Int)] g = .val ⟨n - 1 + 1, nxR 1 (n - 1)⟩ g := by
  have a : rgB 1 = true := by decide
  have b : rgB (n : Int) = true := rgB_small h2
  have c : ((n : Int) - 1).toNat = n - 1 := by omega
  generalize (n : Int) = j at b c
  have s : srcR [.int 1, .int j] g = if (rgB 1 && rgB j) = true then .val ⟨(j - 1).toNat + 1, nxR 1 (j - 1).toNat⟩ g else .bad := by
    unfold srcR
    rfl
  rw [s, a, b, c]
  rfl

/-! ### small numbers -/
section
variable {i : Int} {h : Hv}
theorem mod2 : mMod (.int i) (.int 2) h = .val (.int (i.fmod 2)) h := mMod_int (by decide)
theorem mod3 : mMod (.int i) (.int 3) h = .val (.int (i.fmod 3)) h := mMod_int (by decide)
theorem mod5 : mMod (.int i) (.int 5) h = .val (.int (i.fmod 5)) h := mMod_int (by decide)
theorem mod6 : mMod (.int i) (.int 6) h = .val (.int (i.fmod 6)) h := mMod_int (by decide)
theorem mod7 : mMod (.int i) (.int 7) h = .val (.int (i.fmod 7)) h := mMod_int (by decide)
theorem mod9 : mMod (.int i) (.int 9) h = .val (.int (i.fmod 9)) h := mMod_int (by decide)
theorem div3 : mDiv (.int i) (.int 3) h = .val (.int (i.fdiv 3)) h := mDiv_int (by decide) (by decide +kernel)
theorem div5 : mDiv (.int i) (.int 5) h = .val (.int (i.fdiv 5)) h := mDiv_int (by decide) (by decide +kernel)
theorem div6 : mDiv (.int i) (.int 6) h = .val (.int (i.fdiv 6)) h := mDiv_int (by decide) (by decide +kernel)
theorem div7 : mDiv (.int i) (.int 7) h = .val (.int (i.fdiv 7)) h := mDiv_int (by decide) (by decide +kernel)
theorem div9 : mDiv (.int i) (.int 9) h = .val (.int (i.fdiv 9)) h := mDiv_int (by decide) (by decide +kernel)
theorem div12 : mDiv (.int i) (.int 12) h = .val (.int (i.fdiv 12)) h := mDiv_int (by decide) (by decide +kernel)
end

theorem cut_drop (xs : List W) (a : Nat) (h : a ≤ xs.length) : cutW xs (some (a : Int)) none = xs.drop a := by
  have e : HT.sIx xs.length 0 (some (a : Int)) = a := by
    show (if ((a : Int) < 0) then ((a : Int) + (xs.length : Int)).toNat else min ((a : Int).toNat) xs.length) = a
    rw [if_neg (by omega)]
    omega
  unfold cutW
  rw [e]
  show (xs.drop a).take (xs.length - a) = xs.drop a
  exact List.take_of_length_le
    (by simp)
theorem cut_take (xs : List W) (b : Nat) (h : b ≤ xs.length) : cutW xs none (some (b : Int)) = xs.take b := by
  have e : HT.sIx xs.length xs.length (some (b : Int)) = b := by
    show (if ((b : Int) < 0) then ((b : Int) + (xs.length : Int)).toNat else min ((b : Int).toNat) xs.length) = b
    rw [if_neg (by omega)]
    omega
  unfold cutW
  rw [e]
  rfl
theorem cut_mid (xs : List W) (a b : Nat) (ha : a ≤ b) (h : b ≤ xs.length) : cutW xs (some (a : Int)) (some (b : Int)) = (xs.drop a).take (b - a) := by
  have e : HT.sIx xs.length xs.length (some (b : Int)) = b := by
    show (if ((b : Int) < 0) then ((b : Int) + (xs.length : Int)).toNat else min ((b : Int).toNat) xs.length) = b
    rw [if_neg (by omega)]
    omega
  have e2 : HT.sIx xs.length 0 (some (a : Int)) = a := by
    show (if ((a : Int) < 0) then ((a : Int) + (xs.length : Int)).toNat else min ((a : Int).toNat) xs.length) = a
    rw [if_neg (by omega)]
    omega
  unfold cutW
  rw [e, e2]

theorem get_app_lt {α : Type} {R : List α} {c : α} {i : Nat} (h : i < R.length) : (R ++ [c])[i]? = R[i]? := List.getElem?_append_left h
theorem get_app_eq {α : Type} {R : List α} {c : α} : (R ++ [c])[R.length]? = some c := by simp

theorem lt_of_get {α : Type} {R : List α} {i : Nat} {a : α} (h : R[i]? = some a) : i < R.length := (List.getElem?_eq_some_iff.mp h).1

/-! ### all but one place stays -/
def Kp (q : Nat) (g g' : Hv) : Prop := ∀ i o, i ≠ q → g[i]? = some o → g'[i]? = some o
theorem Kp.refl (q : Nat) (g : Hv) : Kp q g g := fun _ _ _ e => e
theorem Kp.trans {q : Nat} {a b c : Hv} (x : Kp q a b) (y : Kp q b c) : Kp q a c := fun i o n e => y i o n (x i o n e)
theorem Kp.more (q : Nat) (g t : Hv) : Kp q g (g ++ t) := fun _ _ _ e => get_old e
theorem Kp.set (q : Nat) (g : Hv) (o : O) : Kp q g (g.set q o) := fun i u n e => by rw [List.getElem?_set_ne (Ne.symm n)]; exact e

/-! ### what stays -/
def Ext (h g : Hv) : Prop := ∀ (i : Nat) (o : O), h[i]? = some o → g[i]? = some o
theorem Ext.refl (h : Hv) : Ext h h := fun _ _ e => e
theorem Ext.trans {a b c : Hv} (x : Ext a b) (y : Ext b c) : Ext a c := fun i o e => y i o (x i o e)
theorem Ext.more (h t : Hv) : Ext h (h ++ t) := fun _ _ e => get_old e

theorem Kp.ext {q : Nat} {g g' : Hv} (k : Kp q g g') {h : Hv} (e : Ext h g) (n : h.length ≤ q) : Ext h g' := fun i o z => k i o (by have := lt_of_get z; omega) (e i o z)
theorem Ext.len {h g : Hv} (e : Ext h g) : h.length ≤ g.length := by
  rcases Nat.lt_or_ge g.length h.length with q | q
  · have := lt_of_get (e g.length _ (List.getElem?_eq_getElem q))
    exact absurd this (Nat.lt_irrefl _)
  · exact q
theorem Ext.new {h g : Hv} (e : Ext h g) (o : O) : Ext h (g ++ [o]) := fun i u z => get_old (e i u z)
end VL
end
section
/-! ### x(..), x a local name that holds an instance whose class has a __call__ of its own -/
namespace VX
open PySem PySem.W PySem.Spec PyProof.Rows
section
variable {M : Model} {A : Around} {E : Value → Shared → Prop} {s : Shared} {K : Frag} {pos : Pos} {x : Addr} {first : List Value} {Q : Value → Shared → Prop}
/-- an instance stands at x -/
def IsIns (x : Addr) (h : Heap) : Prop := ∃ C dx od, InstAt h x (instObj C dx) C od
theorem own_with {args : List (Bool × Sem Value)} {kws : List (Option Str × Sem Value)} (hp : (args.any (·.1) || kws.any (·.1.isNone)) = false)
    (h : wpAny M A (evalArgs (.ref x) true args kws) (fun a t => IsIns x t.heap ∧ wpAny M A (call (.ref x) (first ++ a.pos) a.kw) Q E t) E s) : wpAny M A (callWith pos (.ref x) first args kws) Q E s := by
  unfold callWith
  refine wpAny_bind (wpAny_holding (wpAny_mono h (fun a t ht => wpAny_bind (wpAny_standAt ?_)) fun _ _ z => z))
  obtain ⟨⟨C, dx, od, J⟩, hc⟩ := ht
  simp only [hp]
  refine wpAny_bind ((kco_keeper (M := M) J rfl).here ?_)
  have tl : ∀ {c : Sem Value}, wpAny M A c Q E t → wpAny M A (c >>= fun r => holding [r] point >>= fun _ => pure r) Q E t := fun hq =>
    wpAny_bind (wpAny_mono hq (fun r u hr => wpAny_bind (wpAny_holding (wpAny_point (wpAny_pure hr)))) fun _ _ z => z)
  exact tl (wpAny_operateT hc)
end
end VX
namespace VL
open PySem L2 PySem.Spec PyProof.Rows
def mOwnO (c : String) (n : Nat) (mf : MFn) (g : Ws → Hv → Res (List W)) (r : Ws) (w : W) (h : Hv) : Res W := match w with
  | .ref p => (g r h).bind fun ws h2 => (match h2[p]? with
    | some (.ins d _) => if d = c ∧ ws.length = n then mf (w :: ws) h2 else .bad
    | _ => .bad)
  | _ => .bad
def mOwn (c : String) (n : Nat) (mf : MFn) (fo : Ws → Hv → Res W) (g : Ws → Hv → Res (List W)) : Ws → Hv → Res W := fun r h => (fo r h).bind (mOwnO c n mf g r)
section
variable {T : Tx} {X : Cx} {C fa : Addr} {c : String} {x : Str} {e : Expr} {es : List Expr} {fo : Ws → Hv → Res W} {g : Ws → Hv → Res (List W)} {p pos : Pos} {n : Nat} {mf : MFn}
theorem se_own (Cn9 : Can T X fa (n + 1) mf) (hcv : T.cv c = .ref C) (hs : PySem.W.findIn X.K (.ref C) "__call__" = some (some (.ref fa))) (hf : PySem.W.isFn X.K (.ref fa) = true) (hfn : PySem.W.fnIn X.K fa = true) (ho : SE T X (.Name x p) fo) (ha : SA T X (e :: es) g)
    (hst : starEach (e :: es) X.env = (false, eval e X.env) :: starEach es X.env := by rfl) (hpl : (backTo pos (starEach es X.env)).any (·.1) = false := by rfl) :
    SE T X (.Call (.Name x p) (e :: es) [] pos) (mOwn c n mf fo g) := fun E cn => ⟨fun pins s σ H Q I h => by
  obtain ⟨ps, r, hv, es0, vw, gd⟩ := h
  refine wpAny_Call_Name_kw (thn ((ho E cn).run pins s σ H _ I ⟨ps, r, hv, es0, vw, Good.bind (R := WV) (S := WV) gd⟩) fun u s1 hh => ?_)
  obtain ⟨y, H1, I1, rx, qs, w, h1, st, vw1, wv, g1⟩ := hh
  unfold mOwnO at g1
  split at g1
  · rename_i p0
    obtain ⟨a, ea, rfl⟩ := wv
    have eu : u = Value.ref a := rx
    subst eu
    suffices h8 : wpAny (model X.prog X.w) X.A (spliced (backTo pos (starEach (e :: es) X.env))) (fun us s2 => VX.IsIns a s2.heap ∧ wpAny (model X.prog X.w) X.A (call (.ref a) ([] ++ us)) (EP X pins σ Q) X.xe s2) X.xe s1 by
      rw [hst] at h8 ⊢
      exact VX.own_with (by show ((false || (backTo pos (starEach es X.env)).any (·.1)) || false) = false; rw [hpl]; rfl) (PySem.Calls.evalArgs_plain h8)
    refine thn ((ha E cn).run pos pins s1 σ H1 _ I1 ⟨qs, r, h1, es0.mono st.pre, vw1, Good.bind (R := WVs) (S := WV) g1⟩) fun us s2 h9 => ?_
    obtain ⟨zs, H2, I2, r2, ts, ws, h2, st2, vw2, wv2, g2⟩ := h9
    dsimp only at g2
    split at g2
    · rename_i d fs e2
      split at g2
      · rename_i hd
        obtain ⟨rfl, hn⟩ := hd
        have ea2 := at_pre st2.pre ea
        obtain ⟨vs, dx, C', hc', rr, eH⟩ := vw2.ob _ a _ ea2 e2
        rw [hcv] at hc'
        cases hc'
        obtain ⟨mA, O, _, _, _, _⟩ := ins_get I2.hok eH
        obtain ⟨od, J, _⟩ := O.look
        refine ⟨⟨C, dx, _, J⟩, ?_⟩
        have prom : spV T (n + 1) mf (V.ref a :: zs) H2 Q (WE E σ) := ⟨by have := wv2.length; simp only [List.length_cons]; omega, T.hd, ts, h2, .ref p0 :: ws, vw2, .cons ⟨a, ea2, rfl⟩ wv2, g2⟩
        refine wpAny_call (PySem.W.kco_code I2.kIn J rfl hs hf hfn (codeAny_mono (Cn9 pins s2 σ H2 (.ref a :: us) (.ref a :: zs) Q (WE E σ) I2 (.cons rfl r2) prom) fun fin s' hq => ?_))
        match fin, hq with
        | .error u, hq => exact passAt cn.tk σ pins H2 s2 u s' I2 hq
        | .ok (.ret u), hq => exact I2.after hq
        | .ok .next, hq => exact hq.elim
        | .ok .brk, hq => exact hq.elim
        | .ok .cont, hq => exact hq.elim
      · exact g2.elim
    · exact g2.elim
  · exact g1.elim⟩
end
end VL
end
section
namespace VL
open PySem L2
/-! ### a range with a step -/
def nxC (lo c : Int) (n : Nat) : Nat → Hv → Nxt := fun i h => if i < n then .item (.int (lo + i * c)) h else .stop
theorem sim_rangeC {T : Tx} {ps : Pl} {lo c : Int} {n m : Nat} : SimI T ps ⟨m, nxC lo c n⟩ (Itc lo c n) := by
  intro qs h H i pre vw
  show NxOk T qs H (Itc lo c n) i (nxC lo c n i h)
  unfold nxC
  split
  · rename_i hi
    refine ⟨hi, fun x H' y => ?_⟩
    obtain ⟨rfl, rfl⟩ := y
    exact ⟨qs, Step.refl _ _, vw, rfl⟩
  · rename_i hi
    exact Nat.le_of_not_lt hi
def srcC (ws : List W) (h : Hv) : Res Src := match ws with
  | [.int i, .int j, .int c] => if (decide (c ≠ 0) && decide (c.natAbs < 1073741824) && Builtin.Range.small i j c && decide (0 ≤ Builtin.Range.rangeSize i j c)) = true then .val ⟨(Builtin.Range.rangeSize i j c).toNat + 1, nxC i c (Builtin.Range.rangeSize i j c).toNat⟩ h else .bad
  | _ => .bad
def mRngC (g : Ws → Hv → Res (List W)) : Ws → Hv → Res Src := fun r h => (g r h).bind srcC
section
variable {T : Tx} {X : Cx} {tg : Expr}
theorem si_range3 {a b c : Expr} {fa : Ws → Hv → Res (List W)} {p pos : Pos} (hg : Gl X "range") (hm : X.mg "range" = none) (ha : SA T X [a, b, c] fa) (hs : starEach [a, b, c] X.env = (false, eval a X.env) :: starEach [b, c] X.env := by rfl) (hpl : (backTo pos (starEach [b, c] X.env)).any (·.1) = false := by rfl) :
    SI T X tg (.Call (.Name "range" p) [a, b, c] [] pos) (mRngC fa) := fun E cn => ⟨fun pins s σ H R I h => (pi_range3 hg hm (ha E cn) hs hpl).run pins s σ H R I (by
  obtain ⟨ps, r, hv, es, vw, gd⟩ := h
  refine ⟨ps, r, hv, es, vw, ?_⟩
  cases q : fa r hv with
  | bad => unfold mRngC at gd; rw [q] at gd; exact gd.elim
  | exc c d h1 => unfold mRngC at gd; rw [q] at gd; exact gd
  | val ws h1 =>
    unfold mRngC at gd
    rw [q] at gd
    have g1 : Good T (SimI T) ps H (srcC ws h1) R _ := gd
    intro qs H' vs st vw' wv
    unfold srcC at g1
    split at g1
    · split at g1
      · rename_i i j c hj
        rw [Bool.and_eq_true, Bool.and_eq_true, Bool.and_eq_true] at hj
        cases wv with
        | cons r1 rr =>
          obtain ⟨v, v', rfl, e, e'⟩ := pair_of rr
          cases r1; cases e; cases e'
          exact ⟨i, j, c, _, rfl, ⟨of_decide_eq_true hj.1.1.1, of_decide_eq_true hj.1.1.2, hj.1.2, (Int.toNat_of_nonneg (of_decide_eq_true hj.2)).symm⟩, g1 qs H' _ st vw' sim_rangeC⟩
      · exact g1.elim
    · exact g1.elim)⟩
end
/-! ### xs.index(x), xs texts -/
def allS : List W → Bool
  | [] => true
  | .str _ :: ws => allS ws
  | _ :: _ => false
def idxS (x : Str) : List W → Option Nat
  | .str y :: ws => if y == x then (if allS ws then some 0 else none) else (idxS x ws).map (· + 1)
  | _ => none
theorem allS_flat {ps : Pl} : ∀ {ws : List W} {vs : List V}, Paired (WV ps) ws vs → allS ws = true → vs.all flatV = true
  | [], _, .nil, _ => rfl
  | .str y :: ws, _, .cons r rr, h => by
    have e : _ = V.str y := r
    subst e
    simp only [allS] at h
    rw [List.all_cons, allS_flat rr h]
    rfl
theorem idxS_ok {ps : Pl} {x : Str} : ∀ {ws : List W} {vs : List V} {j : Nat}, Paired (WV ps) ws vs → idxS x ws = some j → vs.all flatV = true ∧ ∃ z, vs[j]? = some z ∧ eqV z (.str x) = true ∧ ∀ (m : Nat) (z' : V), m < j → vs[m]? = some z' → eqV z' (.str x) = false
  | .str y :: ws, _, j, .cons r rr, h => by
    have e : _ = V.str y := r
    subst e
    unfold idxS at h
    split at h
    · rename_i hy
      split at h
      · rename_i ha
        cases h
        refine ⟨by rw [List.all_cons, allS_flat rr ha]; rfl, .str y, rfl, ?_, fun m z' hm => absurd hm (Nat.not_lt_zero m)⟩
        exact hy
      · cases h
    · rename_i hy
      cases q : idxS x ws with
      | none => rw [q] at h; cases h
      | some k =>
        rw [q] at h
        cases h
        obtain ⟨f, z, hz, e, n⟩ := idxS_ok rr q
        refine ⟨by rw [List.all_cons, f]; rfl, z, by rw [List.getElem?_cons_succ]; exact hz, e, fun m z' hm hz' => ?_⟩
        cases m with
        | zero =>
          cases hz'
          show (y == x) = false
          simpa using hy
        | succ m =>
          rw [List.getElem?_cons_succ] at hz'
          have hm2 : m + 1 < k + 1 := hm
          exact n m z' (by omega) hz'
def mIdx (fo fe : Ws → Hv → Res W) : Ws → Hv → Res W := fun r h => (fo r h).bind fun o h1 => match o with
  | .ref p => (match h1[p]? with
    | some (.lst _) => (fe r h1).bind fun w h2 => (match w with
      | .str x => (match h2[p]? with
        | some (.lst xs) => (match idxS x xs with
          | some j => .val (.int (j : Int)) h2
          | none => .bad)
        | _ => .bad)
      | _ => .bad)
    | _ => .bad)
  | _ => .bad
section
variable {T : Tx} {X : Cx} {o e : Expr} {fo fe : Ws → Hv → Res W} {apos cpos : Pos}
theorem se_index (ho : SE T X o fo) (he : SE T X e fe) (hs : starEach [e] X.env = (false, eval e X.env) :: starEach [] X.env := by rfl)
    (hp : ∀ {to : TE} {t : TA}, PE X o to → PA X [e] t → PE X (.Call (.Attribute o "index" apos) [e] [] cpos) (tBM X.K "list" (rIndex X.K) to t) := by exact fun a b => pe_bm PySem.F.plainAttrs_list PySem.F.slot_list_index PySem.F.type_list_index mt_index a b) :
    SE T X (.Call (.Attribute o "index" apos) [e] [] cpos) (mIdx fo fe) := fun E cn => PEi (hp (ho E cn) (pa_cons (he E cn) pa_nil hs)) fun s H Q ⟨ps, r, hv, es, vw, gd⟩ => by
  refine ⟨ps, r, hv, es, vw, (Good.bind (R := WV) (S := WV) gd).imp (fun v H1 q => ?_) fun _ _ _ z => z⟩
  obtain ⟨qs, w, h1, st, vw1, wv, g1⟩ := q
  dsimp only at g1
  split at g1
  · rename_i p
    obtain ⟨a, ea, rfl⟩ := wv
    split at g1
    · rename_i ys e1
      obtain ⟨vs, rr, eH⟩ := vw1.ob _ a _ ea e1
      refine ⟨.inl ⟨rfl, vs, SqL.of eH⟩, qs, r, h1, es.mono st.pre, vw1, (Good.bind (R := WV) (S := WV) g1).imp (fun y H2 q2 => ?_) fun _ _ _ z => z⟩
      obtain ⟨rs, wy, h2, st2, vw2, wvy, g2⟩ := q2
      dsimp only at g2
      split at g2
      · rename_i x
        have ey : y = V.str x := wvy
        subst ey
        split at g2
        · rename_i xs e2
          split at g2
          · rename_i j hj
            have ea2 := at_pre st2.pre ea
            obtain ⟨us, r2, eH2⟩ := vw2.ob _ a _ ea2 e2
            obtain ⟨f, z, hz, ez, n⟩ := idxS_ok r2 hj
            exact ⟨a, us, .str x, j, z, rfl, rfl, SqL.of eH2, rfl, f, hz, ez, n, Good.now g2 vw2 rfl⟩
          · exact g2.elim
        · exact g2.elim
      · exact g2.elim
    · exact g1.elim
  · exact g1.elim
end
/-! ### x = [.. for ..] -/
section
variable {T : Tx} {X : Cx} {elt iter : Expr} {scope : Scope} {pos px : Pos} {src : Ws → Hv → Res Src} {t : Ws → Hv → Res Bool} {f : Ws → Hv → Res W} {x : Str}
theorem ss_setLc (j i : Nat) {y : Str} {py spos : Pos} (hN : X.N.Nodup) (hi : SI T X (.Name x px) iter src) (ok : BlkOk X.N X.env.scope scope [(x, i)]) (hx : ∀ (s : Shared) (H : Hp) (C : Addr) (cl : List (Str × Addr)) (fp : List Addr), PG (X.blk s H scope (compEnvC scope cl C X.env) fp) (.Name x px) (gName i))
    (he : ∀ (s : Shared) (H : Hp) (C : Addr) (cl : List (Str × Addr)) (fp : List Addr), SE T (X.blk s H scope (compEnvC scope cl C X.env) fp) elt f) (hc : X.calm = true := by rfl) (hs : ∀ x, foldedSetIterable iter X.env x = pure x := by intro _; rfl)
    (hy : X.N[j]? = some y := by rfl) (hyl : X.env.scope.names.lookup y = some .local := by rfl) (hsw : swapsWith (.ListComp elt [⟨.Name x px, iter, [], 0⟩] scope pos) (some (.Name y py)) spos.line X.env = pure true := by rfl) :
    SS T X (.Assign [.Name y py] (.ListComp elt [⟨.Name x px, iter, [], 0⟩] scope pos) spos) (mSet j (mLc src i mYes f)) := fun E cn => PSi (ps_setLc (own := [(x, i)]) hc hN hy hyl hsw (hi E cn) ok hx (fun _ _ _ _ _ => pts_nil) (fun s H C cl fp => he s H C cl fp No cn_no) hs) fun D s H ⟨ps, r, hv, es, vw, gd⟩ => by
  refine lc_read i (fun _ _ _ z => yes_read z) ⟨ps, r, hv, es, vw, (good_andS (R := WV) es gd).imp (fun v H1 q => ?_) fun _ _ _ z => z⟩
  obtain ⟨qs, w, h1, st, vw1, wv, es1, g1⟩ := q
  exact g1 qs H1 _ (Step.refl _ _) vw1 (es1.set j wv)
end
end VL
end
section
/-! ### starred items, slices of tuples, a op b by an own method, x op= e, zip -/
namespace VL
open PySem L2 PySem.Spec PyProof.Rows
/-- the items of a list or a tuple -/
def itemsO (w : W) (h : Hv) : Option (List W) := match w with
  | .tup xs => some xs
  | .ref p => (match h[p]? with
    | some (.lst xs) => some xs
    | some (.rol xs) => some xs
    | _ => none)
  | _ => none
theorem items_ok {K : PySem.W.Frag} {T : Tx} (hK : T.K = K) {ps : Pl} {h : Hv} {H : Hp} {w : W} {v : V} {xs : List W} (vw : View T ps h H) (wv : WV ps w v) (e : itemsO w h = some xs) : ∃ a vs, v = .ref a ∧ (SqT K H a vs ∨ SqL K H a vs) ∧ Paired (WV ps) xs vs := by
  unfold itemsO at e
  split at e
  · cases e
    obtain ⟨a, vs, rfl, ht, rr⟩ := wv.tup_of
    exact ⟨a, vs, rfl, .inl (hK ▸ TupAt.sq (vw.tup a vs ht)), rr⟩
  · obtain ⟨a, ea, rfl⟩ := wv
    split at e
    · rename_i ys e1
      cases e
      obtain ⟨vs, rr, eH⟩ := vw.ob _ a _ ea e1
      exact ⟨a, vs, rfl, .inr (SqL.of eH), rr⟩
    · rename_i ys e1
      cases e
      obtain ⟨vs, ob, rr, eH⟩ := vw.ob _ a _ ea e1
      exact ⟨a, vs, rfl, .inr (.inl (.inr ⟨ob, eH⟩)), rr⟩
    · cases e
  · cases e
def mStarO (g : Ws → Hv → Res (List W)) (r : Ws) (w : W) (h : Hv) : Res (List W) := match itemsO w h with
  | some xs => (g r h).bind fun ws h2 => .val (xs ++ ws) h2
  | none => .bad
def mStarC (f : Ws → Hv → Res W) (g : Ws → Hv → Res (List W)) : Ws → Hv → Res (List W) := fun r h => (f r h).bind (mStarO g r)
/-- t[lo:hi], t a tuple and not the whole of it, or a list -/
def mCutA (w : W) (lo hi : Option Int) (h : Hv) : Res W := match w with
  | .tup xs => if HT.sIx xs.length 0 lo = 0 ∧ HT.sIx xs.length xs.length hi = xs.length then .bad else .val (.tup (cutW xs lo hi)) h
  | .ref p => (match h[p]? with
    | some (.lst xs) => mNew (.lst (cutW xs lo hi)) h
    | some (.rol xs) => mNew (.lst (cutW xs lo hi)) h
    | _ => .bad)
  | _ => .bad
def mSlA (f : Ws → Hv → Res W) (lo hi : Ws → Hv → Res (Option Int)) : Ws → Hv → Res W := fun r h => (f r h).bind fun w h1 => (lo r h1).bind fun l h2 => (hi r h2).bind fun u h3 => mCutA w l u h3
/-- a op b by the own method of a's class, b of the same class -/
def mOwnBO (c : String) (mf : MFn) : W → W → Hv → Res W := fun x y h => match x, y with
  | .ref p, .ref q => (match h[p]?, h[q]? with
    | some (.ins d _), some (.ins d' _) => if d = c ∧ d' = c then mf [x, y] h else .bad
    | _, _ => .bad)
  | _, _ => .bad
def mAug (i : Nat) (g : MOp) (f : Ws → Hv → Res W) : MS := fun r h => match r[i]? with
  | some (some x) => (f r h).andS r fun y h1 => (g x y h1).andS r fun z h2 => .nx (r.set i (some z)) h2
  | _ => .bad
def mIAdd : MOp := fun x y h => match x, y with
  | .int i, .int j => .val (.int (i + j)) h
  | _, _ => .bad
/-- zip of two lists -/
def zipN (xs ys : List W) (i : Nat) (h : Hv) : Nxt := match xs[i]?, ys[i]? with
  | some x, some y => .item (.tup [x, y]) h
  | _, _ => .stop
def nxZip (p q : Nat) : Nat → Hv → Nxt := fun i h => match h[p]?, h[q]? with
  | some (.lst xs), some (.lst ys) => zipN xs ys i h
  | _, _ => .bad
def srcZ (ws : List W) (h : Hv) : Res Src := match ws with
  | [.ref p, .ref q] => (match h[p]?, h[q]? with
    | some (.lst xs), some (.lst _) => .val ⟨xs.length + 1, nxZip p q⟩ h
    | _, _ => .bad)
  | _ => .bad
def mZip (g : Ws → Hv → Res (List W)) : Ws → Hv → Res Src := fun r h => (g r h).bind srcZ
section
variable {T : Tx} {X : Cx} {C fa : Addr} {c : String} {x : Str} {a b e e2 tg : Expr} {es : List Expr} {f fo : Ws → Hv → Res W} {fl fh : Ws → Hv → Res (Option Int)} {g : Ws → Hv → Res (List W)} {p pos p2 : Pos} {n : Nat} {mf : MFn} {lo hi : Option Expr}
theorem sa_star (h1 : SE T X e f) (h2 : SA T X es g) (hs : starEach (.Starred e p :: es) X.env = (true, eval e X.env) :: starEach es X.env := by rfl) (hK : T.K = X.K := by rfl) : SA T X (.Starred e p :: es) (mStarC f g) := fun E cn =>
  PAi (StX.pa_star (h1 E cn) (h2 E cn) hs) fun s H Q ⟨ps, r, hv, es0, vw, gd⟩ => by
  refine ⟨ps, r, hv, es0, vw, (Good.bind (R := WV) (S := WVs) gd).imp (fun v H1 q => ?_) fun _ _ _ z => z⟩
  obtain ⟨qs, w, h1, st, vw1, wv, g1⟩ := q
  unfold mStarO at g1
  split at g1
  · rename_i xs ex
    obtain ⟨a, vs, rfl, sq, rr⟩ := items_ok (K := X.K) hK vw1 wv ex
    refine ⟨a, vs, rfl, sq, qs, r, h1, es0.mono st.pre, vw1, (Good.bind (R := WVs) (S := WVs) g1).imp (fun us H2 q2 => ?_) fun _ _ _ z => z⟩
    obtain ⟨rs, ws, h2, st2, vw2, wv2, g2⟩ := q2
    exact Good.now (R := WVs) g2 vw2 (paired_app (WVs.mono st2.pre rr) wv2)
  · exact g1.elim
theorem se_sliceA (he : SE T X e f) (hl : SO T X lo fl) (hh : SO T X hi fh) (hK : T.K = X.K := by rfl) : SE T X (.Subscript e (.Slice lo hi none p2) pos) (mSlA f fl fh) := fun E cn => PEi (pe_slice (SlR.or sl_list sl_tup) (he E cn) (hl E cn) (hh E cn)) fun s H Q ⟨ps, r, hv, es, vw, gd⟩ => by
  refine ⟨ps, r, hv, es, vw, (Good.bind (R := WV) (S := WV) gd).imp (fun v H1 q => ?_) fun _ _ _ z => z⟩
  obtain ⟨qs, w, h1, st, vw1, wv, g1⟩ := q
  refine ⟨qs, r, h1, es.mono st.pre, vw1, (Good.bind (R := OEq2) (S := WV) g1).imp (fun l H2 q2 => ?_) fun _ _ _ z => z⟩
  obtain ⟨rs, l', h2, st2, vw2, e2, g2⟩ := q2
  cases e2
  refine ⟨rs, r, h2, (es.mono st.pre).mono st2.pre, vw2, (Good.bind (R := OEq2) (S := WV) g2).imp (fun u H3 q3 => ?_) fun _ _ _ z => z⟩
  obtain ⟨ts, u', h3, st3, vw3, e3, g3⟩ := q3
  cases e3
  have wv3 := (wv.mono st2.pre).mono st3.pre
  dsimp only at g3
  unfold mCutA at g3
  split at g3
  · rename_i xs
    obtain ⟨a, vs, rfl, ht, rr⟩ := wv3.tup_of
    split at g3
    · exact g3.elim
    · rename_i hn
      rw [rr.length] at hn
      exact .inr ⟨a, vs, rfl, hK ▸ TupAt.sq (vw3.tup a vs ht), hn, fun p hp => good_tup vw3 g3 (paired_cut rr _ _) hp⟩
  · obtain ⟨a, ea, rfl⟩ := wv3
    split at g3
    · rename_i xs e1
      obtain ⟨vs, rr, eH⟩ := vw3.ob _ a _ ea e1
      exact .inl ⟨a, vs, rfl, SqL.of eH, fun p hp => good_new vw3 g3 (fun H' p' e => ⟨_, paired_cut rr _ _, e⟩) hp⟩
    · rename_i xs e1
      obtain ⟨vs, ob, rr, eH⟩ := vw3.ob _ a _ ea e1
      exact .inl ⟨a, vs, rfl, .inl (.inr ⟨ob, eH⟩), fun p hp => good_new vw3 g3 (fun H' p' e => ⟨_, paired_cut rr _ _, e⟩) hp⟩
    · exact g3.elim
  · exact g3.elim
theorem se_ownB {op : Operator} {fb : Ws → Hv → Res W} (Cn9 : Can T X fa 2 mf) (hcv : T.cv c = .ref C) (hc : PySem.W.selfFirst X.K C = true) (hs : PySem.W.findIn X.K (.ref C) (PySem.dunder op.info.2) = some (some (.ref fa))) (hf : PySem.W.isFn X.K (.ref fa) = true) (ha : SE T X a f) (hb : SE T X b fb) :
    SE T X (.BinOp a op b pos) (m2 (mOwnBO c mf) f fb) := fun E cn => ⟨fun pins s σ H Q I h => by
  obtain ⟨ps, r, hv, es0, vw, gd⟩ := h
  refine wpAny_BinOp (thn ((ha E cn).run pins s σ H _ I ⟨ps, r, hv, es0, vw, Good.bind (R := WV) (S := WV) gd⟩) fun u s1 hh => ?_)
  obtain ⟨y, H1, I1, rx, qs, w, h1, st, vw1, wv, g1⟩ := hh
  refine thn ((hb E cn).run pins s1 σ H1 _ I1 ⟨qs, r, h1, es0.mono st.pre, vw1, Good.bind (R := WV) (S := WV) g1⟩) fun u2 s2 hh2 => ?_
  obtain ⟨y2, H2, I2, rx2, ts, w2, h2, st2, vw2, wv2, g2⟩ := hh2
  have wv1 := wv.mono st2.pre
  unfold mOwnBO at g2
  dsimp only at g2
  split at g2
  · rename_i p0 q0
    obtain ⟨a1, ea, rfl⟩ := wv1
    obtain ⟨a2, ea2, rfl⟩ := wv2
    cases (show u = .ref a1 from rx)
    cases (show u2 = .ref a2 from rx2)
    split at g2
    · rename_i d fs d' fs' e1 e2
      split at g2
      · rename_i hd
        obtain ⟨rfl, rfl⟩ := hd
        obtain ⟨vs, dx, C', hc', rr, eH⟩ := vw2.ob _ a1 _ ea e1
        rw [hcv] at hc'
        cases hc'
        obtain ⟨vs2, dx2, C'', hc'', rr2, eH2⟩ := vw2.ob _ a2 _ ea2 e2
        rw [hcv] at hc''
        cases hc''
        obtain ⟨mA, O, _, _, _, _⟩ := ins_get I2.hok eH
        obtain ⟨od, J, _⟩ := O.look
        obtain ⟨mB, O2, _, _, _, _⟩ := ins_get I2.hok eH2
        obtain ⟨od2, J2, _⟩ := O2.look
        obtain ⟨m, hF⟩ := I2.fr
        have prom : spV T 2 mf [V.ref a1, V.ref a2] H2 Q (WE E σ) := ⟨rfl, T.hd, ts, h2, [.ref p0, .ref q0], vw2, .cons ⟨a1, ea, rfl⟩ (.cons ⟨a2, ea2, rfl⟩ .nil), g2⟩
        refine PySem.W.binop_K (op := op) hF I2.ok.mod.kin J J2.type hc hs hf ?_
        refine wpAny_mono (Can.wp Cn9 cn I2 (us := [.ref a1, .ref a2]) (vs := [V.ref a1, V.ref a2]) (.cons rfl (.cons rfl .nil)) prom) (fun w' s' z => ?_) fun _ _ x => x
        obtain ⟨z8, H8, I8, rz8, qz8⟩ := z
        exact SlX.cmpback rz8 ⟨z8, H8, I8, rz8, qz8⟩
      · exact g2.elim
    · exact g2.elim
  · exact g2.elim⟩
theorem ss_aug (i : Nat) {op : Operator} {gi : Int → Int → Int} {y : Str} {go : MOp} {px : Pos} (hN : X.N.Nodup) (ho : PIp X op (ipI gi)) (hg : ∀ x y h, go x y h = match x, y with | .int i, .int j => .val (.int (gi i j)) h | _, _ => .bad) (he : SE T X e f) (hi : X.N[i]? = some y := by rfl) (hx : Loc X.env.scope y := by first | exact Or.inl rfl | exact Or.inr rfl) (hf9 : X.fn y = true ∨ X.env.scope.names.lookup y = some .local := by first | exact .inl rfl | exact .inr rfl) :
    SS T X (.AugAssign (.Name y px) op e pos) (mAug i go f) := fun E cn => PSi (ps_aug hN hi hx (he E cn) ho hf9) fun D s H ⟨ps, r, hv, es, vw, gd⟩ => by
  unfold mAug at gd
  split at gd
  · rename_i w0 e0
    obtain ⟨v0, ev, wv0⟩ := es.2 i w0 e0
    refine ⟨v0, ev, ps, r, hv, es, vw, (good_andS (R := WV) es gd).imp (fun v H1 q => ?_) fun _ _ _ z => z⟩
    obtain ⟨qs, w, h1, st, vw1, wv, es1, g1⟩ := q
    rw [hg] at g1
    split at g1
    · rename_i i1 i2
      have z0 := wv0.mono st.pre
      cases (show v0 = .int i1 from z0)
      cases (show v = .int i2 from wv)
      exact ⟨i1, i2, rfl, rfl, g1 qs H1 _ (Step.refl _ _) vw1 (es1.set i rfl)⟩
    · exact g1.elim
  · exact gd.elim
theorem ss_iadd (i : Nat) {y : Str} {px : Pos} (hN : X.N.Nodup) (he : SE T X e f) (hi : X.N[i]? = some y := by rfl) (hx : Loc X.env.scope y := by first | exact Or.inl rfl | exact Or.inr rfl) (hf9 : X.fn y = true ∨ X.env.scope.names.lookup y = some .local := by first | exact .inl rfl | exact .inr rfl) :
    SS T X (.AugAssign (.Name y px) .Add e pos) (mAug i mIAdd f) := ss_aug i (gi := fun i j => i + j) hN ip_add (fun _ _ _ => rfl) he hi hx hf9
theorem sim_zip {K : PySem.W.Frag} {ps : Pl} {p q n : Nat} {a b : Addr} (ea : ps[p]? = some a) (eb : ps[q]? = some b) : SimI T ps ⟨n, nxZip p q⟩ (Itz K a b) := by
  intro qs h H i pre vw
  have ea' := at_pre pre ea
  have eb' := at_pre pre eb
  show NxOk T qs H (Itz K a b) i (nxZip p q i h)
  unfold nxZip
  split
  · rename_i xs ys e1 e2
    obtain ⟨vs, rr, eH⟩ := vw.ob _ a _ ea' e1
    obtain ⟨us, rr2, eH2⟩ := vw.ob _ b _ eb' e2
    unfold zipN
    split
    · rename_i x y ex ey
      obtain ⟨v, ev, wv⟩ := paired_get rr ex
      obtain ⟨u, eu, wu⟩ := paired_get rr2 ey
      refine ⟨⟨vs, us, v, u, SqL.of eH, SqL.of eH2, ev, eu⟩, fun z H' y => ?_⟩
      obtain ⟨t, x', y', rfl, hq, rfl, y1, y2⟩ := y
      have z1 := y1 vs (SqL.of eH)
      have z2 := y2 us (SqL.of eH2)
      rw [ev] at z1
      rw [eu] at z2
      cases z1
      cases z2
      obtain ⟨v1, s1⟩ := vw.tuple hq [v, u]
      exact ⟨_, s1, v1, WV.tup_mk (.inr ⟨rfl, rfl⟩) (WVs.mono s1.pre (.cons wv (.cons wu .nil)))⟩
    · rename_i no
      refine ⟨vs, us, SqL.of eH, SqL.of eH2, ?_⟩
      cases ex : xs[i]? with
      | none => exact .inl (paired_none rr ex)
      | some x =>
        cases ey : ys[i]? with
        | none => exact .inr (paired_none rr2 ey)
        | some y => exact absurd ey (no x y ex)
  · trivial
theorem two_args {ps : Pl} {x y : W} {vs : List V} (h : Paired (WV ps) [x, y] vs) : ∃ v u, vs = [v, u] ∧ WV ps x v ∧ WV ps y u := by
  cases h with
  | cons a t =>
    cases t with
    | cons b t => cases t; exact ⟨_, _, rfl, a, b⟩
theorem si_zip {fa : Ws → Hv → Res (List W)} {tpos : Pos} {elts : List Expr} {kk : Nat} (hg : Gl X "zip") (hm : X.mg "zip" = none) (ha : SA T X [e, e2] fa) (hs : starEach [e, e2] X.env = (false, eval e X.env) :: starEach [e2] X.env := by rfl) (hpl : (backTo pos (starEach [e2] X.env)).any (·.1) = false := by rfl) :
    SI T X (.Tuple elts kk tpos) (.Call (.Name "zip" p) [e, e2] [] pos) (mZip fa) := fun E cn => ⟨fun pins s σ H R I h => (RZ.pi_zipA hg hm (ha E cn) hs hpl).run pins s σ H R I (by
  obtain ⟨ps, r, hv, es, vw, gd⟩ := h
  refine ⟨ps, r, hv, es, vw, ?_⟩
  cases q : fa r hv with
  | bad => unfold mZip at gd; rw [q] at gd; exact gd.elim
  | exc c d h1 => unfold mZip at gd; rw [q] at gd; exact gd
  | val ws h1 =>
    unfold mZip at gd
    rw [q] at gd
    have g1 : Good T (SimI T) ps H (srcZ ws h1) R _ := gd
    intro qs H' vs st vw' wv
    unfold srcZ at g1
    split at g1
    · obtain ⟨v, u, rfl, ⟨a, ea, rfl⟩, ⟨b, eb, rfl⟩⟩ := two_args wv
      split at g1
      · rename_i xs ys e1 e2
        obtain ⟨vs, rr, eH⟩ := vw'.ob _ a _ ea e1
        obtain ⟨us, rr2, eH2⟩ := vw'.ob _ b _ eb e2
        exact ⟨a, b, vs, us, rfl, .inl ⟨SqL.of eH, SqL.of eH2, g1 qs H' _ st vw' (sim_zip ea eb)⟩⟩
      · exact g1.elim
    · exact g1.elim)⟩
end
end VL
end
section
/-! ### a op b by an own method, b of any type; == where either side may be an instance -/
namespace VX
open PySem PySem.W PySem.Spec PyProof.Rows PySem.SeqAt
section
variable {prog : Program} {w : World} {A : Around} {E : Value → Shared → Prop} {s : Shared} {K : Frag} {x C f L : Addr} {h₀ : Heap} {m : Str → Option Value} {ox : Obj} {od : Option Obj} {T : String}
theorem bin_ty {op : Operator} {b : Value} {fo ro : Option Value} {Q : Value → Shared → Prop} (F0 : Fr h₀ L s.heap m) (X₀ : K.In h₀) (I : InstAt s.heap x ox C od) (hb9 : Looks (model prog w) s.heap (typeOf b) (.type T)) (hc : selfFirst K C = true)
    (hs : findIn K (.ref C) (PySem.dunder op.info.2) = some (some (.ref f))) (hf : isFn K (.ref f) = true) (hr : findIn K (.ref C) (dunderR op.info.2) = some none) (h1 : findIn K (.type T) (PySem.dunder op.info.2) = some fo) (h2 : findIn K (.type T) (dunderR op.info.2) = some ro)
    (hsub : subIn K (.type T) (.ref C) = some false) (h : wpAny (model prog w) A (call (.ref f) [.ref x, b]) (PySem.W.CmpBack Q) E s) : wpAny (model prog w) A (binaryOp op (.ref x) b) Q E s := by
  have X9 := X₀.keeps F0.keep
  obtain ⟨cd9, rest9, hcd9, hm9⟩ := ksp_first hc
  rcases hi9 : op.info with ⟨sy9, nm9⟩
  rw [hi9] at hs hr h1 h2
  dsimp only at hs hr h1 h2
  have one9 := ksp_try X9 I hs hf h
  obtain ⟨hh9, g9, d9, t9, o9⟩ := s
  have A1 : Looks (model prog w) hh9 (typeOf (.ref x)) (.ref C) := I.type
  have A2 : Looks (model prog w) hh9 (typeOf b) (.type T) := hb9
  have A3 : Looks (model prog w) hh9 (fillsNumberSlot (.ref C) nm9) true := fills_K X9 hcd9 hm9 hs
  have A4 : Looks (model prog w) hh9 (fillsNumberSlot (.type T) nm9) ((fo.isSome && !isSeqSlot fo) || (ro.isSome && !isSeqSlot ro)) := ksp_fillsT X9 h1 h2
  have A5 : Looks (model prog w) hh9 (isSubtype (.type T) (.ref C)) false := looks_subIn X9 hsub
  have A6 : Looks (model prog w) hh9 (numberSlotInPython (.ref C) nm9) true := ksp_inPy X9 hs hr (.inl rfl)
  have A7 : Looks (model prog w) hh9 (numberSlotInPython (.type T) nm9) false := Looks.of_pure rfl
  have A8 : Looks (model prog w) hh9 (typeLookup (.type T) (dunderR nm9)) ro := looks_findIn X9 h2
  generalize ((fo.isSome && !isSeqSlot fo) || (ro.isSome && !isSeqSlot ro)) = rt9 at A4
  have ne9 : (Value.ref C == Value.type T) = false := Bool.eq_false_iff.mpr fun q => by cases beq_iff_eq.mp q
  simp only [binaryOp, hi9]
  (refine wpAny_holding (wpAny_bind ?_))
  unfold binaryOp1
  refine wpAny_bind (A1.at (wpAny_bind (A2.at (wpAny_bind (A3.at ?_)))))
  simp only [ne9, Bool.false_eq_true, if_false]
  cases rt9
  · ksp_lk
    refine wpAny_mono one9 (fun r9 s9 z9 => ?_) fun _ _ e => e
    obtain ⟨v9, rfl, q9⟩ := z9
    ksp_lk
    exact q9
  · ksp_lk
    refine wpAny_mono one9 (fun r9 s9 z9 => ?_) fun _ _ e => e
    obtain ⟨v9, rfl, q9⟩ := z9
    ksp_lk
    exact q9
end
end VX
namespace VL
open PySem L2 PySem.Spec PyProof.Rows
def mOwnBA (c : String) (mf : MFn) : W → W → Hv → Res W := fun x y h => match x with
  | .ref p => (match h[p]? with
    | some (.ins d _) => if d = c then (match tyO h y, tyN h y with
      | some e, _ => if e = c then mf [x, y] h else .bad
      | none, some _ => mf [x, y] h
      | none, none => .bad) else .bad
    | _ => .bad)
  | _ => .bad
def mEqA (c : String) (cs : List String) (mf : MFn) : MOp := fun x y h => match tyO h x with
  | some _ => mEqO c cs mf x y h
  | none => mEq false x y h
/-- what is asked of a built-in type beside an own class -/
structure BinT (K : PySem.W.Frag) (C : Addr) (nm : String) (t : String) : Prop where
  f : ∃ fo, PySem.W.findIn K (.type t) (PySem.dunder nm) = some fo
  r : ∃ ro, PySem.W.findIn K (.type t) (dunderR nm) = some ro
  s : PySem.W.subIn K (.type t) (.ref C) = some false
section
variable {T : Tx} {X : Cx} {C fa : Addr} {c : String} {a b : Expr} {f fb : Ws → Hv → Res W} {pos : Pos} {mf : MFn} {op : Operator}
theorem se_ownBA (Cn9 : Can T X fa 2 mf) (hcv : T.cv c = .ref C) (ic : InsC X.K C) (hc : PySem.W.selfFirst X.K C = true) (hs : PySem.W.findIn X.K (.ref C) (PySem.dunder op.info.2) = some (some (.ref fa))) (hf : PySem.W.isFn X.K (.ref fa) = true) (hr : PySem.W.findIn X.K (.ref C) (dunderR op.info.2) = some none) (hty : ∀ t ∈ tyNs, BinT X.K C op.info.2 t)
    (ha : SE T X a f) (hb : SE T X b fb) (hK : T.K = X.K := by rfl) : SE T X (.BinOp a op b pos) (m2 (mOwnBA c mf) f fb) := fun E cn => ⟨fun pins s σ H Q I h => by
  obtain ⟨ps, r, hv, es0, vw, gd⟩ := h
  refine wpAny_BinOp (thn ((ha E cn).run pins s σ H _ I ⟨ps, r, hv, es0, vw, Good.bind (R := WV) (S := WV) gd⟩) fun u s1 hh => ?_)
  obtain ⟨y, H1, I1, rx, qs, w, h1, st, vw1, wv, g1⟩ := hh
  refine thn ((hb E cn).run pins s1 σ H1 _ I1 ⟨qs, r, h1, es0.mono st.pre, vw1, Good.bind (R := WV) (S := WV) g1⟩) fun u2 s2 hh2 => ?_
  obtain ⟨y2, H2, I2, rx2, ts, w2, h2, st2, vw2, wv2, g2⟩ := hh2
  have wv1 := wv.mono st2.pre
  unfold mOwnBA at g2
  dsimp only at g2
  split at g2
  · rename_i p0
    obtain ⟨a1, ea, rfl⟩ := wv1
    cases (show u = .ref a1 from rx)
    split at g2
    · rename_i d fs e1
      split at g2
      · rename_i hd
        subst hd
        obtain ⟨vs, dx, C', hc', rr, eH⟩ := vw2.ob _ a1 _ ea e1
        rw [hcv] at hc'
        cases hc'
        obtain ⟨mA, O, _, _, _, _⟩ := ins_get I2.hok eH
        obtain ⟨od, J, _⟩ := O.look
        obtain ⟨m, hF⟩ := I2.fr
        have fin : Good T WV ts H2 (mf [.ref p0, w2] h2) Q (fun c d H' => E c d σ H') → wpAny (model X.prog X.w) X.A (call (.ref fa) [.ref a1, u2]) (PySem.W.CmpBack (EP X pins σ Q)) X.xe s2 := fun g3 => by
          have prom : spV T 2 mf [V.ref a1, y2] H2 Q (WE E σ) := ⟨rfl, T.hd, ts, h2, [.ref p0, w2], vw2, .cons ⟨a1, ea, rfl⟩ (.cons wv2 .nil), g3⟩
          refine wpAny_mono (Can.wp Cn9 cn I2 (us := [.ref a1, u2]) (vs := [V.ref a1, y2]) (.cons rfl (.cons rx2 .nil)) prom) (fun w' s' z => ?_) fun _ _ x => x
          obtain ⟨z8, H8, I8, rz8, qz8⟩ := z
          exact SlX.cmpback rz8 ⟨z8, H8, I8, rz8, qz8⟩
        split at g2
        · rename_i e et
          split at g2
          · rename_i hce
            subst hce
            unfold tyO at et
            split at et
            · rename_i p2
              obtain ⟨a2, ea2, rfl⟩ := wv2
              cases (show u2 = .ref a2 from rx2)
              split at et
              · rename_i d2 fs2 e2
                cases et
                obtain ⟨vs2, dx2, C'', hc'', rr2, eH2⟩ := vw2.ob _ a2 _ ea2 e2
                rw [hcv] at hc''
                cases hc''
                obtain ⟨mB, O2, _, _, _, _⟩ := ins_get I2.hok eH2
                obtain ⟨od2, J2, _⟩ := O2.look
                exact PySem.W.binop_K (op := op) hF I2.ok.mod.kin J J2.type hc hs hf (fin g2)
              · cases et
            · cases et
          · exact g2.elim
        · rename_i t et2 et
          have ty := tyN_ok vw2 et wv2
          rw [hK] at ty
          obtain ⟨P9, Z9, pp9, _⟩ := kit_of I2 rx2 ty
          obtain ⟨⟨fo, k1⟩, ⟨ro, k2⟩, k3⟩ := hty _ (tyN_in et)
          exact VX.bin_ty (op := op) hF I2.ok.mod.kin J (Z9.ty _ _ I2.kIn pp9) hc hs hf hr k1 k2 k3 (fin g2)
        · exact g2.elim
      · exact g2.elim
    · exact g2.elim
  · exact g2.elim⟩
theorem ro_eqA {r1 r2 : R2} {cs : List String} (h1 : RO T r1 (mEqO c cs mf)) (h2 : RO T r2 (mEq false)) : RO T (fun x y H Q => r1 x y H Q ∨ r2 x y H Q) (mEqA c cs mf) := by
  intro ps h H x y vx vy Q E vw wx wy gd
  unfold mEqA at gd
  split at gd
  · exact .inl (h1 ps h H x y vx vy Q E vw wx wy gd)
  · exact .inr (h2 ps h H x y vx vy Q E vw wx wy gd)
end
end VL
namespace VL
open PySem L2
theorem binT_of {K : PySem.W.Frag} {C : Addr} {nm t : String} (h : ((PySem.W.findIn K (.type t) (PySem.dunder nm)).isSome && ((PySem.W.findIn K (.type t) (dunderR nm)).isSome && decide (PySem.W.subIn K (.type t) (.ref C) = some false))) = true) : BinT K C nm t := by
  rw [Bool.and_eq_true, Bool.and_eq_true] at h
  obtain ⟨a, b, c⟩ := h
  exact ⟨Option.isSome_iff_exists.mp a, Option.isSome_iff_exists.mp b, of_decide_eq_true c⟩
end VL
namespace VL
open PySem L2
section
variable {T : Tx} {X : Cx} {elt iter : Expr} {scope : Scope} {pos px : Pos} {src : Ws → Hv → Res Src} {t : Ws → Hv → Res Bool} {f : Ws → Hv → Res W} {x : Str}
theorem ss_setLcIf (j i : Nat) {c : Expr} {y : Str} {py spos : Pos} (hN : X.N.Nodup) (hi : SI T X (.Name x px) iter src) (ok : BlkOk X.N X.env.scope scope [(x, i)]) (hx : ∀ (s : Shared) (H : Hp) (C : Addr) (cl : List (Str × Addr)) (fp : List Addr), PG (X.blk s H scope (compEnvC scope cl C X.env) fp) (.Name x px) (gName i))
    (ht : ∀ (s : Shared) (H : Hp) (C : Addr) (cl : List (Str × Addr)) (fp : List Addr), STt T (X.blk s H scope (compEnvC scope cl C X.env) fp) c t) (he : ∀ (s : Shared) (H : Hp) (C : Addr) (cl : List (Str × Addr)) (fp : List Addr), SE T (X.blk s H scope (compEnvC scope cl C X.env) fp) elt f) (hc : X.calm = true := by rfl)
    (hs : ∀ x, foldedSetIterable iter X.env x = pure x := by intro _; rfl) (hy : X.N[j]? = some y := by rfl) (hyl : X.env.scope.names.lookup y = some .local := by rfl) (hsw : swapsWith (.ListComp elt [⟨.Name x px, iter, [c], 0⟩] scope pos) (some (.Name y py)) spos.line X.env = pure true := by rfl) :
    SS T X (.Assign [.Name y py] (.ListComp elt [⟨.Name x px, iter, [c], 0⟩] scope pos) spos) (mSet j (mLc src i t f)) := fun E cn => PSi (ps_setLc (own := [(x, i)]) hc hN hy hyl hsw (hi E cn) ok hx (fun s H C cl fp => pts_one (ht s H C cl fp No cn_no)) (fun s H C cl fp => he s H C cl fp No cn_no) hs) fun D s H ⟨ps, r, hv, es, vw, gd⟩ => by
  refine lc_read i (fun _ _ _ z => z) ⟨ps, r, hv, es, vw, (good_andS (R := WV) es gd).imp (fun v H1 q => ?_) fun _ _ _ z => z⟩
  obtain ⟨qs, w, h1, st, vw1, wv, es1, g1⟩ := q
  exact g1 qs H1 _ (Step.refl _ _) vw1 (es1.set j wv)
end
end VL
end
section
namespace VL
open PySem L2
/-- t + u of tuples -/
def mAddT : MOp := fun x y h => match x, y with
  | .tup a, .tup b => if a ≠ [] ∧ b ≠ [] ∧ a.length + b.length ≤ 100000 then .val (.tup (a ++ b)) h else .bad
  | _, _ => .bad
theorem ro_addT {T : Tx} {K : PySem.W.Frag} (hK : T.K = K := by rfl) : RO T (rCatA K) mAddT := by
  subst hK
  intro ps h H x y vx vy Q E vw wx wy gd
  unfold mAddT at gd
  split at gd
  · split at gd
    · rename_i hl
      obtain ⟨a, vs, rfl, ha, ra⟩ := wx.tup_of
      obtain ⟨b, us, rfl, hb, rb⟩ := wy.tup_of
      have la := ra.length
      have lb := rb.length
      refine ⟨a, b, vs, us, rfl, rfl, (vw.tup a vs ha).sq, (vw.tup b us hb).sq, sz_ok (by omega), fun e => ?_, fun _ e => ?_, fun _ _ p hp => good_tup vw gd (paired_app ra rb) hp⟩
      · subst e
        exact absurd (List.length_eq_zero_iff.mp la) hl.1
      · subst e
        exact absurd (List.length_eq_zero_iff.mp lb) hl.2.1
    · exact gd.elim
  · exact gd.elim
end VL
end
section
namespace VL
open PySem L2
section
variable {T : Tx} {X : Cx} {e : Expr} {a : Addr} {i j : Int}
/-- a name of the module's own for a pair of numbers -/
theorem se_con (hp : PE X e (tC (.ref a))) (hk : KT X.K a [.int i, .int j]) (hK : T.K = X.K := by rfl) : SE T X e (mC (.tup [.int i, .int j])) := fun E cn => PEi hp fun s H Q ⟨ps, r, hv, es, vw, gd⟩ => by
  have gd' : Good T WV ps H (.val (.tup [.int i, .int j]) hv) Q _ := gd
  refine gd' (ps.more a [.int i, .int j]) H (.ref a) ⟨Pl.Le.more _ _ _, fun b o ha hb _ => absurd ha hb, fun _ _ z _ _ => z⟩ ⟨vw.len, vw.nd, fun i b o e1 e2 => (vw.ob i b o e1 e2).mono (Pl.Le.more _ _ _), vw.tab, vw.fact, (fun b us t => ?_), vw.hold⟩ (WV.tup_mk (.inr ⟨rfl, rfl⟩) (.cons rfl (.cons rfl .nil)))
  rcases t with t | ⟨rfl, rfl⟩
  · exact vw.tup b us t
  · rw [← hK] at hk
    exact .inr hk
end
end VL
end
section
namespace VL
open PySem L2 PySem.Spec PyProof.Rows
/-! ### t + u of any tuples, tuple(xs), several clauses in one try -/
def mAddU : MOp := fun x y h => match x, y with
  | .tup a, .tup b => if a.length + b.length ≤ 100000 then .val (.tup (a ++ b)) h else .bad
  | _, _ => .bad
theorem ro_addU {T : Tx} {K : PySem.W.Frag} (hK : T.K = K := by rfl) : RO T (rCatA K) mAddU := by
  subst hK
  intro ps h H x y vx vy Q E vw wx wy gd
  unfold mAddU at gd
  split at gd
  · rename_i xs ys
    split at gd
    · rename_i hl
      obtain ⟨a, vs, rfl, ha, ra⟩ := wx.tup_of
      obtain ⟨b, us, rfl, hb, rb⟩ := wy.tup_of
      have la := ra.length
      have lb := rb.length
      refine ⟨a, b, vs, us, rfl, rfl, (vw.tup a vs ha).sq, (vw.tup b us hb).sq, sz_ok (by omega), fun e => ?_, fun _ e => ?_, fun _ _ p hp => good_tup vw gd (paired_app ra rb) hp⟩
      · subst e
        have z : xs = [] := List.length_eq_zero_iff.mp la
        subst z
        rw [List.nil_append] at gd
        exact Good.now gd vw wy
      · subst e
        have z : ys = [] := List.length_eq_zero_iff.mp lb
        subst z
        rw [List.append_nil] at gd
        exact Good.now gd vw wx
    · exact gd.elim
  · exact gd.elim
def mTupOf : MFn := fun ws h => match ws with
  | [.ref p] => (match h[p]? with
    | some (.lst xs) => .val (.tup xs) h
    | some (.rol xs) => .val (.tup xs) h
    | _ => .bad)
  | [.tup xs] => .val (.tup xs) h
  | _ => .bad
theorem rc_tupOf {T : Tx} {K : PySem.W.Frag} (hK : T.K = K := by rfl) : RC T (fun xs H Q => ∃ p ys, xs = [.ref p] ∧ ((SqL K H p ys ∧ ∀ l, H l = none → Q (.ref l) (upd H l (.tup ys))) ∨ (SqT K H p ys ∧ Q (.ref p) H))) mTupOf := by
  subst hK
  intro ps h H ws vs Q E vw wv gd
  unfold mTupOf at gd
  split at gd
  · obtain ⟨v, rfl, a, ea, rfl⟩ := one_of wv
    split at gd
    · rename_i xs e1
      obtain ⟨us, rr, eH⟩ := vw.ob _ a _ ea e1
      exact ⟨a, us, rfl, .inl ⟨SqL.of eH, fun l hl => good_tup vw gd rr hl⟩⟩
    · rename_i xs e1
      obtain ⟨us, ob, rr, eH⟩ := vw.ob _ a _ ea e1
      exact ⟨a, us, rfl, .inl ⟨.inl (.inr ⟨ob, eH⟩), fun l hl => good_tup vw gd rr hl⟩⟩
    · exact gd.elim
  · obtain ⟨v, rfl, wv1⟩ := one_of wv
    have wv2 := wv1
    obtain ⟨a, us, rfl, ht, rr⟩ := wv1.tup_of
    exact ⟨a, us, rfl, .inr ⟨(vw.tup a us ht).sq, Good.now gd vw wv2⟩⟩
  · exact gd.elim
/-! ### try .. several clauses, each suite returns -/
def mTryM (i : Nat) (sel : String → Option (Nat → MS)) (b : MS) : MS := fun r h => match b r h with
  | .exc c d r1 h1 => (match d, sel c with
    | some j, some su => if i < r1.length then (match su j r1 h1 with
      | .rt w h2 => .rt w h2
      | _ => .bad) else .bad
    | _, _ => .bad)
  | y => y
/-- which clause takes the errors of the class c; the error's name stands at i -/
def SelsI (i : Nat) (K : PySem.W.Frag) (T : Tx) (l : List Cl) (sel : String → Option (Nat → MS)) : Prop := ∀ c su, sel c = some su → ∃ pre cl post, l = pre ++ cl :: post ∧ (∀ p ∈ pre, PySem.W.exmOne K (T.cv c) p.cx = some false) ∧ PySem.W.exmOne K (T.cv c) cl.cx = some true ∧ cl.ok (T.cv c) ∧
  ∀ a j r h w h2, i < r.length → su j r h = .rt w h2 → cl.sM a j (r.set i (some (.fix a))) h = .rt w h2
theorem wAsM_mem {K : PySem.W.Frag} {T : Tx} {i : Nat} {Wo : WX} {D : Ends} {c : Cl} {post : List Cl} {cls : Value} {d : Option Addr} {z : L2.St} {H : Hp} (h1 : PySem.W.exmOne K cls c.cx = some true)
    (h2 : ∀ a, H a = none → tSuite T c.ok c.sM a cls d (offI i D) (z.set i (some (.ref a))) H) : ∀ {pre : List Cl}, (∀ p ∈ pre, PySem.W.exmOne K cls p.cx = some false) → wAsM K i Wo D ((pre ++ c :: post).map (Cl.ts T)) cls d z H
  | [], _ => ⟨true, h1, fun _ => h2, fun z => by cases z⟩
  | p :: pre, hp => ⟨false, hp p List.mem_cons_self, (fun z => by cases z), fun _ => wAsM_mem h1 h2 fun q hq => hp q (List.mem_cons_of_mem _ hq)⟩
section
variable {T : Tx} {X : Cx} {n : Str} {body : List Stmt} {h0 : ExceptHandler} {hds : List ExceptHandler} {pos : Pos} {bM : MS} {l : List Cl} {sel : String → Option (Nat → MS)}
theorem ss_tryM (i : Nat) (hN : X.N.Nodup) (hsel : SelsI i X.K T l sel)
    (hb : ∀ (pn : List (Addr × Obj)) (xe : Value → Shared → Prop), SSs T (X.tr pn xe) body bM) (hh : HdA X n (h0 :: hds) (l.map (Cl.ts T)))
    (hs : X.stack = X.env :: X.outer := by rfl) (hf : X.env.frame = some X.env.locals := by rfl) (hi : X.N[i]? = some n := by rfl) (hln : X.env.kindOf n = some .local := by rfl) :
    SS T X (.Try body (h0 :: hds) [] [] pos) (mTryM i sel bM) := fun E cn => by
  have base : PS X (.Try body (h0 :: hds) [] [] pos) (fun D s H => tS T (wAsM X.K i E D (l.map (Cl.ts T))) bM D s H) := ps_try_asM (tb := fun W => tS T W bM) hs hf hN hi hln cn.tk (fun W pn xe tk po => hb pn xe W ⟨tk, po⟩) hh
  refine ⟨fun pins s σ H D I h => base.run pins s σ H D I ?_⟩
  obtain ⟨ps, r, hv, es, vw, gd⟩ := h
  refine ⟨ps, r, hv, es, vw, ?_⟩
  unfold mTryM at gd
  cases q : bM r hv with
  | nx r1 h1 => rw [q] at gd; exact gd
  | rt r1 h1 => rw [q] at gd; exact gd
  | bk r1 h1 => rw [q] at gd; exact gd
  | ct r1 h1 => rw [q] at gd; exact gd
  | bad => rw [q] at gd; exact gd
  | exc cv d r1 h1 =>
    rw [q] at gd
    intro qs H' s' e st vw' es' dv
    dsimp only at gd
    split at gd
    · rename_i j su ex
      obtain ⟨dd, ej, rfl⟩ := dv
      obtain ⟨pre, cl, post, rfl, hp, ht, hok, hind⟩ := hsel cv su ex
      split at gd
      · rename_i hl
        cases z : su j r1 h1 with
        | nx _ _ => rw [z] at gd; exact gd.elim
        | bk _ _ => rw [z] at gd; exact gd.elim
        | ct _ _ => rw [z] at gd; exact gd.elim
        | exc _ _ _ _ => rw [z] at gd; exact gd.elim
        | bad => rw [z] at gd; exact gd.elim
        | rt w h2 =>
          rw [z] at gd
          refine wAsM_mem ht (fun a ha => ⟨hok, j, dd, rfl, qs, r1.set i (some (.fix a)), h1, es'.set i rfl, vw'.known ej, ?_⟩) hp
          rw [hind a j r1 h1 _ _ hl z]
          exact fun rs H2 v st2 vw2 wv => gd rs H2 v (st.trans st2) vw2.less wv
      · exact gd.elim
    · exact gd.elim
end
end VL
end
section
namespace VL
open PySem L2 PySem.Spec PyProof.Rows
/-! ### dicts, keys numbers or texts -/
def kW : Key → W
  | .inl i => .int i
  | .inr s => .str s
def keyW : W → Option Key
  | .int i => some (.inl i)
  | .str s => some (.inr s)
  | _ => none
theorem keyW_v {ps : Pl} {w : W} {v : V} {k : Key} (e : keyW w = some k) (wv : WV ps w v) : v = kV k := by
  unfold keyW at e
  split at e
  · cases e; cases wv; rfl
  · cases e; cases wv; rfl
  · cases e
theorem kW_v {ps : Pl} (k : Key) : WV ps (kW k) (kV k) := by cases k <;> rfl
def valW (kvs : List (Key × W)) (k : Key) : Option W := (kvs.find? fun kv => decide (kv.1 = k)).map (·.2)
def putW2 (kvs : List (Key × W)) (k : Key) (v : W) : List (Key × W) :=
  (if (kvs.any fun kv => decide (kv.1 = k)) = true then kvs.map (fun kv => if kv.1 = k then (kv.1, v) else kv) else kvs ++ [(k, v)])
def mergeW (kvs more : List (Key × W)) : List (Key × W) := more.foldl (fun acc kv => putW2 acc kv.1 kv.2) kvs
section
variable {ps : Pl} {k : Key} {w : W} {v : V}
theorem valW_v : ∀ {kvs : List (Key × W)} {vs : List (Key × V)}, Paired (PW2 ps) kvs vs → (valW kvs k = none → valV vs k = none) ∧ ∀ w, valW kvs k = some w → ∃ v, valV vs k = some v ∧ WV ps w v
  | [], _, .nil => ⟨fun _ => rfl, fun w e => by cases e⟩
  | (a, w1) :: kvs, (b, v1) :: vs, .cons h t => by
    obtain ⟨h1, h2⟩ := h
    have h1 : a = b := h1
    subst h1
    have h2 : WV ps w1 v1 := h2
    obtain ⟨i1, i2⟩ := valW_v t
    by_cases c : a = k
    · subst c
      refine ⟨fun e => ?_, fun w e => ?_⟩
      · simp [valW, List.find?_cons] at e
      · have : w1 = w := by simpa [valW, List.find?_cons] using e
        subst this
        exact ⟨v1, valV_pos rfl, h2⟩
    · have e1 : valW ((a, w1) :: kvs) k = valW kvs k := by simp [valW, List.find?_cons, c]
      have e2 : valV ((a, v1) :: vs) k = valV vs k := valV_neg c
      rw [e1, e2]
      exact ⟨i1, i2⟩
theorem any_v : ∀ {kvs : List (Key × W)} {vs : List (Key × V)}, Paired (PW2 ps) kvs vs → (kvs.any fun kv => decide (kv.1 = k)) = (vs.any fun kv => decide (kv.1 = k))
  | [], _, .nil => rfl
  | (a, w1) :: kvs, (b, v1) :: vs, .cons h t => by
    have h1 : a = b := h.1
    subst h1
    simp only [List.any_cons, any_v t]
theorem map_v (wv : WV ps w v) : ∀ {kvs : List (Key × W)} {vs : List (Key × V)}, Paired (PW2 ps) kvs vs → Paired (PW2 ps) (kvs.map (fun kv => if kv.1 = k then (kv.1, w) else kv)) (vs.map (fun kv => if kv.1 = k then (kv.1, v) else kv))
  | [], _, .nil => .nil
  | (a, w1) :: kvs, (b, v1) :: vs, .cons h t => by
    obtain ⟨h1, h2⟩ := h
    have h1 : a = b := h1
    subst h1
    simp only [List.map_cons]
    refine .cons ?_ (map_v wv t)
    by_cases c : a = k
    · rw [if_pos c, if_pos c]
      exact ⟨rfl, wv⟩
    · rw [if_neg c, if_neg c]
      exact ⟨rfl, h2⟩
theorem paired2_app : ∀ {kvs ls : List (Key × W)} {vs us : List (Key × V)}, Paired (PW2 ps) kvs vs → Paired (PW2 ps) ls us → Paired (PW2 ps) (kvs ++ ls) (vs ++ us)
  | [], _, _, _, .nil, b => b
  | _ :: _, _, _ :: _, _, .cons h t, b => .cons h (paired2_app t b)
theorem put_v (wv : WV ps w v) {kvs : List (Key × W)} {vs : List (Key × V)} (r : Paired (PW2 ps) kvs vs) : Paired (PW2 ps) (putW2 kvs k w) (putK vs k v) := by
  unfold putW2 putK
  rw [any_v r]
  split
  · exact map_v wv r
  · exact paired2_app r (.cons ⟨rfl, wv⟩ .nil)
theorem merge_v : ∀ {more : List (Key × W)} {ms : List (Key × V)} {kvs : List (Key × W)} {vs : List (Key × V)}, Paired (PW2 ps) more ms → Paired (PW2 ps) kvs vs → Paired (PW2 ps) (mergeW kvs more) (mergeK vs ms)
  | [], _, _, _, .nil, r => r
  | (a, w1) :: more, (b, v1) :: ms, kvs, vs, .cons h t, r => by
    obtain ⟨h1, h2⟩ := h
    have h1 : a = b := h1
    subst h1
    show Paired (PW2 _) (mergeW (putW2 kvs a w1) more) (mergeK (putK vs a v1) ms)
    exact merge_v t (put_v h2 r)
end
/-- a dict, locked or not -/
def dicO : Option O → Option (List (Key × W))
  | some (.dic k) => some k
  | some (.rod k) => some k
  | some (.rox k) => some k
  | _ => none
theorem dic_rd {T : Tx} {ps : Pl} {h : Hv} {H : Hp} (vw : View T ps h H) {p : Nat} {a : Addr} (ea : ps[p]? = some a) {kvs : List (Key × W)} (e : dicO h[p]? = some kvs) : ∃ vs, Paired (PW2 ps) kvs vs ∧ Rd H a (.dK vs) := by
  unfold dicO at e
  split at e
  · rename_i k q
    cases e
    obtain ⟨vs, r, eH⟩ := vw.ob _ a _ ea q
    exact ⟨vs, r, .inl eH⟩
  · rename_i k q
    cases e
    obtain ⟨vs, ob, r, eH, _⟩ := vw.ob _ a _ ea q
    exact ⟨vs, r, .inr ⟨ob, eH⟩⟩
  · rename_i k q
    cases e
    obtain ⟨vs, ob, r, eH⟩ := vw.ob _ a _ ea q
    exact ⟨vs, r, .inr ⟨ob, eH⟩⟩
  · cases e
theorem notD {H : Hp} {a : Addr} {vs : List (Key × V)} (e : H a = some (.dK vs)) : ∀ u0, H a = some u0 → (∀ f, u0 ≠ .ext f) ∧ ∀ o x, u0 ≠ .frz o x := fun u0 h => by
  rw [e] at h
  cases h
  exact ⟨(fun f z => by cases z), fun o x z => by cases z⟩
/-! ### d[k], d.get(k, x) -/
def getDO (o k : W) (x : Option W) (h : Hv) : Res W := match o, keyW k with
  | .ref p, some key => (match dicO h[p]? with
    | some kvs => (match valW kvs key, x with
      | some w, _ => .val w h
      | none, some w => .val w h
      | none, none => .bad)
    | none => .bad)
  | _, _ => .bad
def mIxD (fo fk : Ws → Hv → Res W) : Ws → Hv → Res W := fun r h => (fo r h).bind fun o h1 => (fk r h1).bind fun k h2 => getDO o k none h2
def isDic (o : W) (h : Hv) : Bool := match o with
  | .ref p => (dicO h[p]?).isSome
  | _ => false
def mGetD (fo fk fx : Ws → Hv → Res W) : Ws → Hv → Res W := fun r h => (fo r h).bind fun o h1 => if isDic o h1 then (fk r h1).bind fun k h2 => (fx r h2).bind fun x h3 => getDO o k (some x) h3 else .bad
/-! ### d[k] = v -/
def mPutD (fv fo fk : Ws → Hv → Res W) : MS := fun r h => (fv r h).andS r fun v h1 => (fo r h1).andS r fun o h2 => (fk r h2).andS r fun k h3 => match o, keyW k with
  | .ref p, some key => (match h3[p]? with
    | some (.dic kvs) => if kvs.length < 100000 then .nx r (h3.set p (.dic (putW2 kvs key v))) else .bad
    | _ => .bad)
  | _, _ => .bad
section
variable {T : Tx} {X : Cx} {o e e2 ev : Expr} {fo fk fx fv : Ws → Hv → Res W} {pos pos' apos cpos : Pos}
theorem getDO_get {K : Prop} {ps : Pl} {h : Hv} {H : Hp} {ow kw : W} {a : V} {y : V} {x : Option W} {Q : VK} {E : XK} (vw : View T ps h H) (wo : WV ps ow a) (wk : WV ps kw y) (g : Good T WV ps H (getDO ow kw x h) Q E) : ∃ (b : Addr) (r : Option V), a = .ref b ∧ DGet H b y r ∧
    ((∃ v, r = some v ∧ Q v H) ∨ (r = none ∧ ∃ xw, x = some xw ∧ ∀ xv, WV ps xw xv → Q xv H)) := by
  unfold getDO at g
  split at g
  · rename_i p key ek
    obtain ⟨b, eb, rfl⟩ := wo
    have ey := keyW_v ek wk
    split at g
    · rename_i kvs ed
      obtain ⟨vs, rr, rd⟩ := dic_rd vw eb ed
      obtain ⟨v1, v2⟩ := valW_v (k := key) rr
      split at g
      · rename_i w q
        obtain ⟨v, e1, wv⟩ := v2 _ q
        exact ⟨b, some v, rfl, .inl ⟨vs, key, rd, ey, e1.symm⟩, .inl ⟨v, rfl, Good.now g vw wv⟩⟩
      · rename_i w q
        exact ⟨b, none, rfl, .inl ⟨vs, key, rd, ey, (v1 q).symm⟩, .inr ⟨rfl, w, rfl, fun xv wx => Good.now g vw wx⟩⟩
      · exact g.elim
    · exact g.elim
  · exact g.elim
theorem se_ixD (hu : X.A.units + 1 < cLine) (ho : SE T X o fo) (hk : SE T X e fk) (hs : NoSl e := by intro _ _; rfl) : SE T X (.Subscript o e pos) (mIxD fo fk) := fun E cn => PEi (pe_dget hu (ho E cn) (hk E cn) hs) fun s H Q ⟨ps, r, hv, es, vw, gd⟩ => by
  refine ⟨ps, r, hv, es, vw, (Good.bind (R := WV) (S := WV) gd).imp (fun v H1 q => ?_) fun _ _ _ z => z⟩
  obtain ⟨qs, w, h1, st, vw1, wv, g1⟩ := q
  refine ⟨qs, r, h1, es.mono st.pre, vw1, (Good.bind (R := WV) (S := WV) g1).imp (fun y H2 q2 => ?_) fun _ _ _ z => z⟩
  obtain ⟨rs, wk, h2, st2, vw2, wvk, g2⟩ := q2
  obtain ⟨b, r9, rfl, dg, z⟩ := getDO_get (K := True) vw2 (wv.mono st2.pre) wvk g2
  rcases z with ⟨v, rfl, q⟩ | ⟨_, xw, z, _⟩
  · exact ⟨b, v, rfl, dg, q⟩
  · cases z
theorem se_getD (hu : X.A.units + 1 < cLine) (ho : SE T X o fo) (hk : SE T X e fk) (hx : SE T X e2 fx) (m : M2 X o "get" apos e e2 cpos := by exact ⟨rfl, rfl, rfl, rfl⟩) : SE T X (.Call (.Attribute o "get" apos) [e, e2] [] cpos) (mGetD fo fk fx) := fun E cn => PEi (pe_dget2 hu (ho E cn) (hk E cn) (hx E cn) m) fun s H Q ⟨ps, r, hv, es, vw, gd⟩ => by
  refine ⟨ps, r, hv, es, vw, (Good.bind (R := WV) (S := WV) gd).imp (fun v H1 q => ?_) fun _ _ _ z => z⟩
  obtain ⟨qs, w, h1, st, vw1, wv, g1⟩ := q
  dsimp only at g1
  split at g1
  · rename_i hd
    have isd : ∃ a, v = .ref a ∧ IsD H1 a := by
      unfold isDic at hd
      split at hd
      · obtain ⟨a, ea, rfl⟩ := wv
        obtain ⟨kvs, ek⟩ := Option.isSome_iff_exists.mp hd
        obtain ⟨vs, _, rd⟩ := dic_rd vw1 ea ek
        exact ⟨a, rfl, .inl ⟨vs, rd⟩⟩
      · cases hd
    obtain ⟨a, rfl, isd⟩ := isd
    refine ⟨a, rfl, isd, qs, r, h1, es.mono st.pre, vw1, (Good.bind (R := WV) (S := WV) g1).imp (fun y H2 q2 => ?_) fun _ _ _ z => z⟩
    obtain ⟨rs, wk, h2, st2, vw2, wvk, g2⟩ := q2
    refine ⟨rs, r, h2, (es.mono st.pre).mono st2.pre, vw2, (Good.bind (R := WV) (S := WV) g2).imp (fun x H3 q3 => ?_) fun _ _ _ z => z⟩
    obtain ⟨ts, wx, h3, st3, vw3, wvx, g3⟩ := q3
    obtain ⟨b, r9, eb, dg, z⟩ := getDO_get (K := True) vw3 ((wv.mono st2.pre).mono st3.pre) (wvk.mono st3.pre) g3
    cases eb
    rcases z with ⟨v, rfl, q⟩ | ⟨rfl, xw, z, q⟩
    · exact ⟨some v, dg, q⟩
    · cases z
      exact ⟨none, dg, q _ wvx⟩
  · exact g1.elim
theorem ss_putD (hu : X.A.units + 1 < cLine) (ho : SE T X o fo) (hk : SE T X e fk) (hv : SE T X ev fv) (hs : swapsWith ev (some (.Subscript o e pos')) pos.line X.env = pure false := by rfl) (h9 : ∀ {td ty tv : TE}, PE X o td → PE X e ty → PE X ev tv → PS X (.Assign [.Subscript o e pos'] ev pos) (sDPut td ty tv) := by exact fun a b c => ps_dput (by assumption) a b c (by rfl)) :
    SS T X (.Assign [.Subscript o e pos'] ev pos) (mPutD fv fo fk) := fun E cn => PSi (h9 (ho E cn) (hk E cn) (hv E cn)) fun D s H ⟨ps, r, hv, es, vw, gd⟩ => by
  refine ⟨ps, r, hv, es, vw, (good_andS (R := WV) es gd).imp (fun v H1 q => ?_) fun _ _ _ z => z⟩
  obtain ⟨qs, w, h1, st, vw1, wv, es1, g1⟩ := q
  refine ⟨qs, r, h1, es1, vw1, (good_andS (R := WV) es1 g1).imp (fun x H2 q2 => ?_) fun _ _ _ z => z⟩
  obtain ⟨rs, wo, h2, st2, vw2, wvo, es2, g2⟩ := q2
  refine ⟨rs, r, h2, es2, vw2, (good_andS (R := WV) es2 g2).imp (fun y H3 q3 => ?_) fun _ _ _ z => z⟩
  obtain ⟨ts, wk, h3, st3, vw3, wvk, es3, g3⟩ := q3
  split at g3
  · rename_i p key ek
    obtain ⟨a, ea, rfl⟩ := wvo.mono st3.pre
    have ey := keyW_v ek wvk
    split at g3
    · rename_i kvs e1
      split at g3
      · rename_i hl
        obtain ⟨vs, rr, eH⟩ := vw3.ob _ a _ ea e1
        have wv3 := (wv.mono st2.pre).mono st3.pre
        obtain ⟨vw4, st4⟩ := vw3.put ea (o := .dic (putW2 kvs key w)) (u := .dK (putK vs key v)) ⟨_, put_v wv3 rr, upd_same⟩ (notD eH)
        have hl2 : vs.length < sizeLine := by
          have l1 : kvs.length = vs.length := rr.length
          have := sz_ok (n := kvs.length + 1) (by omega)
          omega
        exact ⟨a, _, rfl, .inl ⟨vs, key, eH, ey, hl2, rfl⟩, g3 _ _ _ st4 vw4 es3⟩
      · exact g3.elim
    · exact g3.elim
  · exact g3.elim
end
end VL
end
section
namespace VL
open PySem L2 PySem.Spec PyProof.Rows
/-! ### dict(x): a copy, or of a list of pairs -/
def pairsW : List W → Option (List (Key × W))
  | [] => some []
  | .tup [k, v] :: r => (match keyW k, pairsW r with
    | some k, some r => some ((k, v) :: r)
    | _, _ => none)
  | _ :: _ => none
def mDictOf : MFn := fun ws h => match ws with
  | [.ref p] => (match dicO h[p]? with
    | some kvs => mNew (.dic kvs) h
    | none => (match h[p]? with
      | some (.lst xs) => (match pairsW xs with
        | some kvs => mNew (.dic (mergeW [] kvs)) h
        | none => .bad)
      | _ => .bad))
  | _ => .bad
def rDictCopy : List V → Hp → VK → Prop := fun xs H Q => ∃ (a : Addr) (kvs : List (Key × V)), xs = [.ref a] ∧ Rd H a (.dK kvs) ∧ ∀ p, H p = none → Q (.ref p) (upd H p (.dK kvs))
def rDictPairs (K : PySem.W.Frag) : List V → Hp → VK → Prop := fun xs H Q => ∃ (a : Addr) (ps : List Addr) (kvs : List (Key × V)), xs = [.ref a] ∧ SqL K H a (ps.map V.ref) ∧ Paired (fun p kv => SqT K H p [kV kv.1, kv.2]) ps kvs ∧
    ∀ p, H p = none → Q (.ref p) (upd H p (.dK (mergeK [] kvs)))
theorem call_dictCopy {X : Cx} : CallR X (.type "dict") rDictCopy := by
  (intro pins s σ H xs us Q I r h)
  obtain ⟨a, kvs, rfl, rd, q⟩ := h
  have r1 := vals1 r
  obtain ⟨u, rfl, rx⟩ := r1
  cases rx
  exact d_copyOf I rd fun p s' hp I' => ⟨.ref p, _, I', rfl, q p hp⟩
theorem call_dictOf {X : Cx} (hc : X.calm = true := by rfl) : CallR X (.type "dict") (fun xs H Q => rDictCopy xs H Q ∨ rDictPairs X.K xs H Q) := CallR.or call_dictCopy (call_dictP hc)
theorem pairsW_ok {T : Tx} {ps : Pl} {h : Hv} {H : Hp} (vw : View T ps h H) : ∀ {xs : List W} {vs : List V} {kvs : List (Key × W)}, pairsW xs = some kvs → Paired (WV ps) xs vs → ∃ (as : List Addr) (us : List (Key × V)), vs = as.map V.ref ∧ Paired (fun p kv => SqT T.K H p [kV kv.1, kv.2]) as us ∧ Paired (PW2 ps) kvs us
  | [], _, _, e, .nil => by cases e; exact ⟨[], [], rfl, .nil, .nil⟩
  | w :: xs, v :: vs, kvs, e, .cons r t => by
    unfold pairsW at e
    split at e
    · rename_i q0
      cases q0
    · rename_i k1 v1 r1 q0
      cases q0
      split at e
      · rename_i k2 r2 e1 e2
        cases e
        obtain ⟨as, us, i1, i2, i3⟩ := pairsW_ok vw e2 t
        obtain ⟨a, zs, rfl, ht, rr⟩ := r.tup_of
        obtain ⟨x, y, rfl, rx, ry⟩ := two_args rr
        have ex := keyW_v e1 rx
        subst ex
        exact ⟨a :: as, (k2, y) :: us, by rw [i1]; rfl, .cons (vw.tup a _ ht).sq i2, .cons ⟨rfl, ry⟩ i3⟩
      · cases e
    · cases e
theorem rc_dictOf {T : Tx} {K : PySem.W.Frag} (hK : T.K = K := by rfl) : RC T (fun xs H Q => rDictCopy xs H Q ∨ rDictPairs K xs H Q) mDictOf := by
  subst hK
  intro ps h H ws vs Q E vw wv gd
  unfold mDictOf at gd
  split at gd
  · obtain ⟨v, rfl, a, ea, rfl⟩ := one_of wv
    split at gd
    · rename_i kvs ek
      obtain ⟨vs, rr, rd⟩ := dic_rd vw ea ek
      exact .inl ⟨a, vs, rfl, rd, fun p hp => good_new vw gd (fun H' p' e => ⟨_, rr, e⟩) hp⟩
    · split at gd
      · rename_i xs e1
        split at gd
        · rename_i kvs e2
          obtain ⟨zs, r1, eH⟩ := vw.ob _ a _ ea e1
          obtain ⟨as, us, rfl, i2, i3⟩ := pairsW_ok vw e2 r1
          exact .inr ⟨a, as, us, rfl, SqL.of eH, i2, fun p hp => good_new vw gd (fun H' p' e => ⟨_, merge_v i3 .nil, e⟩) hp⟩
        · exact gd.elim
      · exact gd.elim
  · exact gd.elim
/-! ### list(d.items()) -/
def itemW (q : Key × W) : W := .tup [kW q.1, q.2]
def itemsLO (w : W) (h : Hv) : Res W := match w with
  | .ref p => (match h[p]? with
    | some (.dic kvs) => mNew (.lst (kvs.map itemW)) h
    | _ => .bad)
  | _ => .bad
def mItemsL (fo : Ws → Hv → Res W) : Ws → Hv → Res W := fun r h => (fo r h).bind itemsLO
theorem View.items {T : Tx} {ps : Pl} {h : Hv} {H H' : Hp} (vw : View T ps h H) {kvs : List (Key × W)} {vs : List (Key × V)} (rr : Paired (PW2 ps) kvs vs) {p : Addr} {ts : List Addr} (k : ∀ b o, H b = some o → H' b = some o) (hp : H p = none)
    (ep : H' p = some (.lst (ts.map V.ref))) (et : Paired (fun (t : Addr) (q : Key × V) => H' t = some (.tup [kV q.1, q.2])) ts vs) :
    ∃ qs : Pl, View T qs (h ++ [.lst (kvs.map itemW)]) H' ∧ Step ps H qs H' ∧ qs[h.length]? = some p := by
  have hn := vw.fresh hp
  have vl : ps.l.length = h.length := vw.len
  let qs : Pl := ⟨ps.l ++ [p], fun a us => ps.tu a us ∨ (a ∈ ts ∧ H' a = some (.tup us))⟩
  have le : Pl.Le ps qs := ⟨List.prefix_append _ _, fun _ _ t => .inl t⟩
  have lq : qs[h.length]? = some p := by
    show (ps.l ++ [p])[h.length]? = some p
    rw [← vl]
    simp
  have its : ∀ {kvs : List (Key × W)} {vs : List (Key × V)} {us : List Addr}, Paired (PW2 ps) kvs vs → Paired (fun (t : Addr) (q : Key × V) => H' t = some (.tup [kV q.1, q.2])) us vs → (∀ t ∈ us, t ∈ ts) → Paired (WV qs) (kvs.map itemW) (us.map V.ref) := fun {kvs vs us} r1 => by
    induction r1 generalizing us with
    | nil => intro r2 _; cases r2; exact .nil
    | @cons q1 q2 l1 l2 h1 t1 ih =>
      intro r2 hs
      cases r2 with
      | @cons a _ as _ h2 t2 =>
        refine .cons ?_ (ih t2 fun t ht => hs t (List.mem_cons_of_mem _ ht))
        obtain ⟨e1, e2⟩ := h1
        refine WV.tup_mk (.inr ⟨hs a List.mem_cons_self, h2⟩) (.cons ?_ (.cons (e2.mono le) .nil))
        rw [e1]
        exact kW_v _
  refine ⟨qs, ⟨?_, ?_, fun i a o e1 e2 => ?_, vw.tab.ext fun b u e => k b _ e, T.mono _ _ (List.prefix_append _ _) vw.fact, fun a us t => ?_, fun b u hb => k b u (vw.hold b u hb)⟩, ⟨le, fun a o ha hb he => ?_, fun a o e _ _ => k a o e⟩, lq⟩
  · show (ps.l ++ [p]).length = (h ++ [_]).length
    simp [vl]
  · show (ps.l ++ [p]).Nodup
    rw [List.nodup_append]
    refine ⟨vw.nd, by simp, fun a ha b hb => ?_⟩
    simp at hb
    rintro rfl
    exact hn (hb ▸ ha)
  · have e1' : (ps.l ++ [p])[i]? = some a := e1
    by_cases hi : i < ps.l.length
    · rw [List.getElem?_append_left hi] at e1'
      rw [List.getElem?_append_left (by omega)] at e2
      exact ((vw.ob i a o e1' e2).put fun w hw => k _ _ hw).mono le
    · have hi' : i = ps.l.length := by
        have := (List.getElem?_eq_some_iff.mp e1').1
        simp at this; omega
      subst hi'
      simp at e1'
      rw [vl] at e2
      simp at e2
      subst e1' e2
      exact ⟨_, its rr et (fun _ t => t), ep⟩
  · rcases t with t | ⟨_, t⟩
    · exact (vw.tup a us t).put fun z => k _ _ z
    · exact .inl t
  · have ha' : a ∈ ps.l ++ [p] := ha
    simp at ha'
    rcases ha' with ha | ha
    · exact absurd ha hb
    · rw [ha, hp] at he; cases he
section
variable {T : Tx} {X : Cx} {e : Expr} {fo : Ws → Hv → Res W} {p apos cpos pos : Pos}
theorem se_itemsL (he : SE T X e fo) (hg : Gl X "list") (hm : X.mg "list" = none) (hc : X.calm = true := by rfl) (hv : bootBuiltins "list" = some (.type "list") := by decide +kernel) (hbase : attributeBase e "items" X.env (eval e X.env) = eval e X.env := by rfl) 
    (hline : (apos.endLine == cpos.line) = true := by rfl) (hs : starEach [.Call (.Attribute e "items" apos) [] [] cpos] X.env = (false, eval (.Call (.Attribute e "items" apos) [] [] cpos) X.env) :: starEach [] X.env := by rfl) :
    SE T X (.Call (.Name "list" p) [.Call (.Attribute e "items" apos) [] [] cpos] [] pos) (mItemsL fo) := fun E cn => PEi (LiI.pe_listItems hc (he E cn) hg hm hv hbase hline hs) fun s H Q ⟨ps, r, hv, es, vw, gd⟩ => by
  refine ⟨ps, r, hv, es, vw, (Good.bind (R := WV) (S := WV) gd).imp (fun v H1 q => ?_) fun _ _ _ z => z⟩
  obtain ⟨qs, w, h1, st, vw1, wv, g1⟩ := q
  unfold itemsLO at g1
  split at g1
  · obtain ⟨a, ea, rfl⟩ := wv
    split at g1
    · rename_i kvs e1
      obtain ⟨vs, rr, eH⟩ := vw1.ob _ a _ ea e1
      refine ⟨a, vs, rfl, eH, fun H' p' ts k hp _ _ ep et => ?_⟩
      obtain ⟨rs, vw2, st2, lq⟩ := vw1.items rr k hp ep et
      exact g1 _ _ _ st2 vw2 ⟨p', lq, rfl⟩
    · exact g1.elim
  · exact g1.elim
end
/-! ### {k: v, ..} -/
def mPairs : List ((Ws → Hv → Res W) × (Ws → Hv → Res W)) → Ws → Hv → Res (List (Key × W))
  | [], _, h => .val [] h
  | (fk, fv) :: r, s, h => (fk s h).bind fun k h1 => (fv s h1).bind fun v h2 => match keyW k with
    | some key => (mPairs r s h2).bind fun kvs h3 => .val ((key, v) :: kvs) h3
    | none => .bad
def mDisp (prs : List ((Ws → Hv → Res W) × (Ws → Hv → Res W))) : Ws → Hv → Res W := fun r h => (mPairs prs r (h ++ [.dic []])).bind fun kvs h2 => match h2[h.length]? with
  | some (.dic []) => if kvs.length ≤ 15 then .val (.ref h.length) (h2.set h.length (.dic (mergeW [] kvs))) else .bad
  | _ => .bad
abbrev PWs : Pl → List (Key × W) → List (V × V) → Prop := fun ps kvs vs => ∃ us : List (Key × V), vs = us.map (fun q => (kV q.1, q.2)) ∧ Paired (PW2 ps) kvs us
section
variable {T : Tx} {X : Cx} {pos : Pos} {k v : Expr} {ks : List (Option Expr)} {vs : List Expr} {fk fv : Ws → Hv → Res W} {prs : List ((Ws → Hv → Res W) × (Ws → Hv → Res W))}
def SD (T : Tx) (X : Cx) (pos : Pos) (ks : List (Option Expr)) (vs : List Expr) (prs : List ((Ws → Hv → Res W) × (Ws → Hv → Res W))) : Prop := ∀ E, Cn X E → PPs X pos ks vs (prs.map fun p => (tE T E p.1, tE T E p.2))
theorem sd_nil : SD T X pos [] [] [] := fun E cn => pps_nil
theorem sd_cons (h1 : SE T X k fk) (h2 : SE T X v fv) (h3 : SD T X pos ks vs prs) : SD T X pos (some k :: ks) (v :: vs) ((fk, fv) :: prs) := fun E cn => pps_cons (h1 E cn) (h2 E cn) (h3 E cn)
theorem pairs_read {E : WX} {s : L2.St} : ∀ {prs : List ((Ws → Hv → Res W) × (Ws → Hv → Res W))} {ps : Pl} {r : Ws} {h : Hv} {H : Hp} {Q : List (V × V) → Hp → Prop}, ES ps r s → View T ps h H → Good T PWs ps H (mPairs prs r h) Q (fun c d H' => E c d s H') → tPairs (prs.map fun p => (tE T E p.1, tE T E p.2)) s H Q
  | [], ps, r, h, H, Q, es, vw, g => Good.now (R := PWs) g vw ⟨[], rfl, .nil⟩
  | (fk, fv) :: prs, ps, r, h, H, Q, es, vw, g => by
    refine ⟨ps, r, h, es, vw, (Good.bind (R := WV) (S := PWs) g).imp (fun x H1 q => ?_) fun _ _ _ z => z⟩
    obtain ⟨qs, wk, h1, st, vw1, wvk, g1⟩ := q
    refine ⟨qs, r, h1, es.mono st.pre, vw1, (Good.bind (R := WV) (S := PWs) g1).imp (fun y H2 q2 => ?_) fun _ _ _ z => z⟩
    obtain ⟨rs, wv, h2, st2, vw2, wvv, g2⟩ := q2
    split at g2
    · rename_i key ek
      have ey := keyW_v ek (wvk.mono st2.pre)
      subst ey
      refine pairs_read ((es.mono st.pre).mono st2.pre) vw2 ((Good.bind (R := PWs) (S := PWs) g2).imp (fun us H3 q3 => ?_) fun _ _ _ z => z)
      obtain ⟨ts, kvs, h3, st3, vw3, ⟨us', rfl, rr⟩, g3⟩ := q3
      exact Good.now (R := PWs) g3 vw3 ⟨(key, y) :: us', rfl, .cons ⟨rfl, wvv.mono st3.pre⟩ rr⟩
    · exact g2.elim
theorem se_disp (h : SD T X pos ks vs prs) (hall : ks.all (·.isSome) = true := by rfl) (hl : ks.length = vs.length := by rfl) (h0 : ks ≠ [] := by simp) (hn : ks.length ≤ 15 := by decide) : SE T X (.Dict ks vs pos) (mDisp prs) := fun E cn => PEi (pe_disp (h E cn) hall hl h0 hn) fun s H Q ⟨ps, r, hv, es, vw, gd⟩ p hp => by
  obtain ⟨vw1, st1, e1⟩ := vw.alloc hp (o := .dic []) (u := .dK []) ⟨[], .nil, upd_same⟩
  have g0 := Good.step gd st1
  refine pairs_read (es.mono st1.pre) vw1 ((Good.bind (R := PWs) (S := WV) g0).imp (fun us H2 q => ?_) fun _ _ _ z => z)
  obtain ⟨qs, kvs, h2, st2, vw2, ⟨us', rfl, rr⟩, g2⟩ := q
  dsimp only at g2
  have ep := at_pre st2.pre e1
  split at g2
  · rename_i e2
    obtain ⟨zs, rz, eH⟩ := vw2.ob _ p _ ep e2
    cases rz
    split at g2
    · rename_i hl9
      have l1 : kvs.length = us'.length := rr.length
      obtain ⟨vw3, st3⟩ := vw2.put ep (o := .dic (mergeW [] kvs)) (u := .dK (mergeK [] us')) ⟨_, merge_v rr .nil, upd_same⟩ (notD eH)
      exact ⟨eH, us', rfl, by omega, g2 _ _ _ st3 vw3 ⟨p, ep, rfl⟩⟩
    · exact g2.elim
  · exact g2.elim
end
end VL
end
section
namespace VL
open PySem L2 PySem.Spec PyProof.Rows
/-! ### a dict is locked while it is walked -/
theorem OAt.hd_mono {T : Tx} {d : Hd} {ps : Pl} {H : Hp} {a : Addr} (le : ∀ b u, T.hd.p b u → d.p b u) : ∀ {o : O}, OAt T ps H a o → OAt (T.hold d) ps H a o
  | .lst _, z => z
  | .rol _, z => z
  | .dic _, z => z
  | .rod _, ⟨vs, ob, r, e, q⟩ => ⟨vs, ob, r, e, le _ _ q⟩
  | .rox _, z => z
  | .ins _ _, z => z
  | .xd _, z => z
  | .err _ _, z => z
  | .xdd _, z => z
section
variable {T : Tx} {ps qs : Pl} {h h' : Hv} {H H' : Hp} {p : Nat} {a : Addr} {kvs : List (Key × W)} {vs : List (Key × V)} {od : Obj}
theorem View.lock (vw : View T ps h H) (ep : h[p]? = some (.dic kvs)) : ∃ a vs, ps[p]? = some a ∧ H a = some (.dK vs) ∧ Paired (PW2 ps) kvs vs ∧ (∀ x, ¬ T.hd.p a x) ∧
    ∀ od, View (T.hold (T.hd.one a od (.dK vs))) ps (h.set p (.rod kvs)) (upd H a (.frz od (.dK vs))) ∧ Step ps H ps (upd H a (.frz od (.dK vs))) := by
  obtain ⟨a, ea, vs, rr, eH⟩ := vw.get ep
  have hno : ∀ x, ¬ T.hd.p a x := fun x hx => by
    have e := vw.hold a x hx
    obtain ⟨o1, y1, ex⟩ := T.hd.fz a x hx
    rw [eH, ex] at e
    cases e
  have vl : ps.l.length = h.length := vw.len
  have ea' : ps.l[p]? = some a := ea
  refine ⟨a, vs, ea, eH, rr, hno, fun od => ⟨⟨?_, vw.nd, fun i b o e1 e2 => ?_, tabs_put vw.tab eH (fun z q => by cases q) (fun f q => by cases q) _, vw.fact, fun b us t => ?_, fun b u hb => ?_⟩, ⟨Pl.Le.refl _, fun _ _ h n _ => absurd h n, fun b o e _ n => ?_⟩⟩⟩
  · show ps.l.length = (h.set p (.rod kvs)).length
    simp [vl]
  · by_cases hj : i = p
    · subst hj
      rw [ea] at e1
      cases e1
      have hl : i < h.length := lt_of_get ep
      rw [List.getElem?_set_self hl] at e2
      cases e2
      exact ⟨vs, od, rr, upd_same, .inr ⟨rfl, rfl⟩⟩
    · rw [List.getElem?_set_ne fun z => hj z.symm] at e2
      have q := (vw.ob i b o e1 e2).hd_mono (d := T.hd.one a od (.dK vs)) (fun _ _ z => .inl z)
      refine q.put fun w hw => ?_
      rw [upd_ne (fun z => hj ?_)]
      · exact hw
      · subst z
        have h1 := List.getElem?_eq_some_iff.mp ea'
        have h2 := List.getElem?_eq_some_iff.mp (show ps.l[i]? = _ from e1)
        exact (List.getElem_inj vw.nd).mp (h2.2.trans h1.2.symm)
  · exact (vw.tup b us t).put fun e => by
      rw [upd_ne (fun z => by rw [z, eH] at e; cases e)]
      exact e
  · rcases hb with hb | ⟨rfl, rfl⟩
    · rw [upd_ne (fun z => by rw [z] at hb; exact hno _ hb)]
      exact vw.hold b u hb
    · exact upd_same
  · rw [upd_ne (fun z => n (by rw [z]; exact List.mem_of_getElem? ea'))]
    exact e
theorem View.unlock (vw : View (T.hold (T.hd.one a od (.dK vs))) qs h' H') (ea : qs[p]? = some a) (hno : ∀ x, ¬ T.hd.p a x) (rr : Paired (PW2 qs) kvs vs) :
    H' a = some (.frz od (.dK vs)) ∧ (View T qs (h'.set p (.dic kvs)) (upd H' a (.dK vs)) ∧ Step qs H' qs (upd H' a (.dK vs))) ∧ View T qs (h'.set p (.rox kvs)) H' := by
  have eH : H' a = some (.frz od (.dK vs)) := vw.hold a _ (.inr ⟨rfl, rfl⟩)
  have vl : qs.l.length = h'.length := vw.len
  have ea' : qs.l[p]? = some a := ea
  have hl : p < h'.length := by rw [← vl]; exact lt_of_get ea'
  have ne : ∀ (i : Nat) (b : Addr), i ≠ p → qs[i]? = some b → b ≠ a := fun i b hi e z => by
    subst z
    have h1 := List.getElem?_eq_some_iff.mp ea'
    have h2 := List.getElem?_eq_some_iff.mp (show qs.l[i]? = _ from e)
    exact hi ((List.getElem_inj vw.nd).mp (h2.2.trans h1.2.symm))
  have low : ∀ {b : Addr} {o : O}, b ≠ a → OAt (T.hold (T.hd.one a od (.dK vs))) qs H' b o → OAt T qs H' b o := fun {b o} nb z => by
    cases o with
    | rod k =>
      obtain ⟨us, ob, r, e, q⟩ := z
      rcases q with q | ⟨q, _⟩
      · exact ⟨us, ob, r, e, q⟩
      · exact absurd q nb
    | lst _ => exact z
    | rol _ => exact z
    | dic _ => exact z
    | rox _ => exact z
    | ins _ _ => exact z
    | xd _ => exact z
    | err _ _ => exact z
    | xdd _ => exact z
  refine ⟨eH, ⟨⟨?_, vw.nd, fun i b o e1 e2 => ?_, tabs_put vw.tab eH (fun z q => by cases q) (fun f q => by cases q) _, vw.fact, fun b us t => ?_, fun b u hb => ?_⟩, ⟨Pl.Le.refl _, fun _ _ h n _ => absurd h n, fun b o e _ n => ?_⟩⟩, ⟨?_, vw.nd, fun i b o e1 e2 => ?_, vw.tab, vw.fact, vw.tup, fun b u hb => vw.hold b u (.inl hb)⟩⟩
  · show qs.l.length = (h'.set p (.dic kvs)).length
    simp [vl]
  · by_cases hj : i = p
    · subst hj
      rw [ea] at e1
      cases e1
      rw [List.getElem?_set_self hl] at e2
      cases e2
      exact ⟨vs, rr, upd_same⟩
    · rw [List.getElem?_set_ne fun z => hj z.symm] at e2
      have nb := ne i b hj e1
      refine (low nb (vw.ob i b o e1 e2)).put fun w hw => ?_
      rw [upd_ne nb]
      exact hw
  · exact (vw.tup b us t).put fun e => by
      rw [upd_ne (fun z => by rw [z, eH] at e; cases e)]
      exact e
  · have e := vw.hold b u (.inl hb)
    rw [upd_ne (fun z => by rw [z] at hb; exact hno _ hb)]
    exact e
  · rw [upd_ne (fun z => n (by rw [z]; exact List.mem_of_getElem? ea'))]
    exact e
  · show qs.l.length = (h'.set p (.rox kvs)).length
    simp [vl]
  · by_cases hj : i = p
    · subst hj
      rw [ea] at e1
      cases e1
      rw [List.getElem?_set_self hl] at e2
      cases e2
      exact ⟨vs, od, rr, eH⟩
    · rw [List.getElem?_set_ne fun z => hj z.symm] at e2
      exact low (ne i b hj e1) (vw.ob i b o e1 e2)
end
/-- the place that a slot's value names -/
def slotP (i : Nat) (r : Ws) : Option Nat := match r[i]? with
  | some (some (.ref p)) => some p
  | _ => none
def unlockR {α : Type} (p : Nat) (kvs : List (Key × W)) : Res α → Res α
  | .val w h => .val w (h.set p (.dic kvs))
  | .exc c d h => .exc c d (h.set p (.rox kvs))
  | .bad => .bad
/-- while e runs, the dict that slot i holds is locked -/
def mLockE (i : Nat) (f : Ws → Hv → Res W) : Ws → Hv → Res W := fun r h => match slotP i r with
  | some p => (match h[p]? with
    | some (.dic kvs) => unlockR p kvs (f r (h.set p (.rod kvs)))
    | _ => .bad)
  | none => .bad
section
variable {T : Tx} {X : Cx} {e : Expr} {f : Ws → Hv → Res W}
theorem se_lockE (i : Nat) (h9 : ∀ d : Hd, SE (T.hold d) X e f) : SE T X e (mLockE i f) := fun E cn => by
  have base : PE X e (fun s H Q => ∃ d, tE (T.hold d) E f s H Q) := ⟨fun pins s σ H Q I ⟨d, h⟩ => (h9 d E cn).run pins s σ H Q I h⟩
  refine PEi (pe_lock base) fun s H Q ⟨ps, r, hv, es, vw, gd⟩ => ?_
  unfold mLockE at gd
  split at gd
  · rename_i p ep
    split at gd
    · rename_i kvs ek
      obtain ⟨a, vs, ea, eH, rr, hno, lk⟩ := vw.lock ek
      refine ⟨a, .dK vs, eH, trivial, fun od => ⟨T.hd.one a od (.dK vs), ps, r, _, es, (lk od).1, ?_⟩⟩
      have st0 := (lk od).2
      cases q : f r (hv.set p (.rod kvs)) with
      | bad => rw [q] at gd; exact gd.elim
      | val w h1 =>
        rw [q] at gd
        intro qs H1 v st vw1 wv
        obtain ⟨u1, ⟨u2, u3⟩, _⟩ := vw1.unlock (at_pre st.pre ea) hno (L2.Paired.mapP rr fun _ _ z => z.mono st.pre)
        exact ⟨u1, gd qs _ v ((st0.trans st).trans u3) u2 wv⟩
      | exc c d h1 =>
        rw [q] at gd
        intro qs H1 e9 st vw1 dv
        obtain ⟨_, _, u4⟩ := vw1.unlock (at_pre st.pre ea) hno (L2.Paired.mapP rr fun _ _ z => z.mono st.pre)
        exact gd qs H1 e9 (st0.trans st) u4 dv
    · exact gd.elim
  · exact gd.elim
end
/-! ### for k in d, for k, v in d.items() -/
def nxKeys (p : Nat) : Nat → Hv → Nxt := fun i h => match h[p]? with
  | some (.rod kvs) => (match kvs[i]? with
    | some q => .item (kW q.1) h
    | none => .stop)
  | _ => .bad
def nxItems (p : Nat) : Nat → Hv → Nxt := fun i h => match h[p]? with
  | some (.rod kvs) => (match kvs[i]? with
    | some q => .item (itemW q) h
    | none => .stop)
  | _ => .bad
def srcKeys (w : W) (h : Hv) : Res Src := match w with
  | .ref p => (match h[p]? with
    | some (.rod kvs) => .val ⟨kvs.length + 1, nxKeys p⟩ h
    | _ => .bad)
  | _ => .bad
def srcItems (w : W) (h : Hv) : Res Src := match w with
  | .ref p => (match h[p]? with
    | some (.rod kvs) => .val ⟨kvs.length + 1, nxItems p⟩ h
    | _ => .bad)
  | _ => .bad
def mKeys (f : Ws → Hv → Res W) : Ws → Hv → Res Src := fun r h => (f r h).bind srcKeys
def mItems (f : Ws → Hv → Res W) : Ws → Hv → Res Src := fun r h => (f r h).bind srcItems
theorem paired2_get {ps : Pl} : ∀ {kvs : List (Key × W)} {vs : List (Key × V)}, Paired (PW2 ps) kvs vs → ∀ {i : Nat} {q : Key × W}, kvs[i]? = some q → ∃ v, vs[i]? = some (q.1, v) ∧ WV ps q.2 v
  | [], _, .nil, i, q, e => by simp at e
  | (k, w) :: _, (k', v) :: _, .cons h t, i, q, e => by
    cases i with
    | zero =>
      simp at e
      subst e
      have h1 : k = k' := h.1
      subst h1
      exact ⟨v, rfl, h.2⟩
    | succ i => exact paired2_get t (by simpa using e)
theorem paired2_none {ps : Pl} {kvs : List (Key × W)} {vs : List (Key × V)} (r : Paired (PW2 ps) kvs vs) {i : Nat} (e : kvs[i]? = none) : vs.length ≤ i := by
  have := List.getElem?_eq_none_iff.mp e
  rw [← r.length]
  exact this
section
variable {T : Tx} {X : Cx} {tg e : Expr} {f : Ws → Hv → Res W} {apos cpos : Pos}
theorem rod_at {ps : Pl} {h : Hv} {H : Hp} {p : Nat} {a : Addr} {o : Obj} {vs : List (Key × V)} {kvs : List (Key × W)} (vw : View T ps h H) (hh : T.hd.p a (.frz o (.dK vs))) (ea : ps[p]? = some a) (e : h[p]? = some (.rod kvs)) : Paired (PW2 ps) kvs vs ∧ H a = some (.frz o (.dK vs)) := by
  obtain ⟨us, ob, rr, eH, _⟩ := vw.ob _ a _ ea e
  have e2 := vw.hold a _ hh
  rw [eH] at e2
  cases e2
  exact ⟨rr, eH⟩
theorem sim_keys {ps : Pl} {p n : Nat} {a : Addr} {o : Obj} {vs : List (Key × V)} (ea : ps[p]? = some a) (hh : T.hd.p a (.frz o (.dK vs))) : SimI T ps ⟨n, nxKeys p⟩ (Itk a o vs) := by
  intro qs h H i pre vw
  have ea' := at_pre pre ea
  show NxOk T qs H (Itk a o vs) i (nxKeys p i h)
  unfold nxKeys
  split
  · rename_i kvs e1
    obtain ⟨rr, eH⟩ := rod_at vw hh ea' e1
    split
    · rename_i q eq
      obtain ⟨v, ev, wv⟩ := paired2_get rr eq
      refine ⟨⟨eH, lt_of_get ev⟩, fun x H' y => ?_⟩
      obtain ⟨rfl, k, v', e2, rfl⟩ := y
      rw [ev] at e2
      cases e2
      exact ⟨qs, Step.refl _ _, vw, kW_v _⟩
    · rename_i eq
      exact ⟨eH, paired2_none rr eq⟩
  · trivial
theorem sim_items {ps : Pl} {p n : Nat} {a : Addr} {o : Obj} {vs : List (Key × V)} (ea : ps[p]? = some a) (hh : T.hd.p a (.frz o (.dK vs))) : SimI T ps ⟨n, nxItems p⟩ (Iti a o vs) := by
  intro qs h H i pre vw
  have ea' := at_pre pre ea
  show NxOk T qs H (Iti a o vs) i (nxItems p i h)
  unfold nxItems
  split
  · rename_i kvs e1
    obtain ⟨rr, eH⟩ := rod_at vw hh ea' e1
    split
    · rename_i q eq
      obtain ⟨v, ev, wv⟩ := paired2_get rr eq
      refine ⟨⟨eH, lt_of_get ev⟩, fun x H' y => ?_⟩
      obtain ⟨t, k, v', e2, rfl, ht, rfl⟩ := y
      rw [ev] at e2
      cases e2
      obtain ⟨vw1, st1⟩ := vw.tuple ht [kV q.1, v]
      exact ⟨_, st1, vw1, WV.tup_mk (.inr ⟨rfl, rfl⟩) (.cons (kW_v _) (.cons (wv.mono st1.pre) .nil))⟩
    · rename_i eq
      exact ⟨eH, paired2_none rr eq⟩
  · trivial
theorem si_keys (he : SE T X e f) : SI T X tg e (mKeys f) := fun E cn => ⟨fun pins s σ H R I h => (pi_keys (he E cn)).run pins s σ H R I (by
  obtain ⟨ps, r, hv, es, vw, gd⟩ := h
  refine ⟨ps, r, hv, es, vw, (Good.bind (R := WV) (S := SimI T) gd).imp (fun v H1 q => ?_) fun _ _ _ z => z⟩
  obtain ⟨qs, w, h1, st, vw1, wv, g1⟩ := q
  unfold srcKeys at g1
  split at g1
  · obtain ⟨a, ea, rfl⟩ := wv
    split at g1
    · rename_i kvs e1
      obtain ⟨vs, ob, rr, eH, hh⟩ := vw1.ob _ a _ ea e1
      exact ⟨a, ob, rfl, .inl ⟨vs, eH, Good.now (R := SimI T) g1 vw1 (sim_keys ea hh)⟩⟩
    · exact g1.elim
  · exact g1.elim)⟩
theorem si_items {elts : List Expr} {kk : Nat} {tpos : Pos} (he : SE T X e f) (hbase : attributeBase e "items" X.env (eval e X.env) = eval e X.env := by rfl) (hline : (apos.endLine == cpos.line) = true := by rfl) : SI T X (.Tuple elts kk tpos) (.Call (.Attribute e "items" apos) [] [] cpos) (mItems f) := fun E cn => ⟨fun pins s σ H R I h => (pi_items (he E cn) hbase hline).run pins s σ H R I (by
  obtain ⟨ps, r, hv, es, vw, gd⟩ := h
  refine ⟨ps, r, hv, es, vw, (Good.bind (R := WV) (S := SimI T) gd).imp (fun v H1 q => ?_) fun _ _ _ z => z⟩
  obtain ⟨qs, w, h1, st, vw1, wv, g1⟩ := q
  unfold srcItems at g1
  split at g1
  · obtain ⟨a, ea, rfl⟩ := wv
    split at g1
    · rename_i kvs e1
      obtain ⟨vs, ob, rr, eH, hh⟩ := vw1.ob _ a _ ea e1
      exact ⟨a, ob, vs, rfl, eH, Good.now (R := SimI T) g1 vw1 (sim_items ea hh)⟩
    · exact g1.elim
  · exact g1.elim)⟩
end
end VL
end
section
/-! zip of any two flat things: lists (false) and tuples (true) -/
namespace VL
open PySem L2 PySem.Spec PyProof.Rows
/-- the iterator at i stands ahead of the k-th item of what is at l -/
def AtK (t : Bool) (h : Heap) (i l : Addr) (k : Nat) : Prop := if t then h.IsTupleIter i l k else h.IsListIter i l k
def SeK (t : Bool) (h : Heap) (l : Addr) (xs : Array Value) : Prop := if t then h.IsTuple l xs else h.IsList l xs
def nameK (t : Bool) : String := if t then "tuple_iterator" else "list_iterator"
theorem AtK.ob {t : Bool} {h : Heap} {i l : Addr} {k : Nat} (x : AtK t h i l k) : ∃ o fs, h.get? i = some o ∧ o.data = .fields fs := by
  cases t
  · obtain ⟨o, e, _, d⟩ := x
    exact ⟨o, _, e, d⟩
  · obtain ⟨o, e, _, d⟩ := x
    exact ⟨o, _, e, d⟩
theorem AtK.at {t : Bool} {h h' : Heap} {i l : Addr} {k : Nat} (x : AtK t h i l k) (e : ∀ o, h.get? i = some o → h'.get? i = some o) : AtK t h' i l k := by
  cases t
  · exact Heap.IsListIter.at x e
  · exact Heap.IsTupleIter.at x e
theorem SeK.at {t : Bool} {h h' : Heap} {l : Addr} {xs : Array Value} (x : SeK t h l xs) (e : ∀ o, h.get? l = some o → h'.get? l = some o) : SeK t h' l xs := by
  cases t
  · exact Heap.IsList.at x e
  · exact Heap.IsTuple.at x e
theorem AtK.far {t : Bool} {h h' : Heap} {i l b : Addr} {k : Nat} (x : AtK t h i l k) (s : Heap.SameBut b h h') (n : i ≠ b) : AtK t h' i l k := x.at fun _ e => s.extBut _ _ n e
theorem SeK.far {t : Bool} {h h' : Heap} {l b : Addr} {xs : Array Value} (x : SeK t h l xs) (s : Heap.SameBut b h h') (n : l ≠ b) : SeK t h' l xs := x.at fun _ e => s.extBut _ _ n e
section
variable {A : Around} {prog : Program} {w : World} {s : Shared} {E : Value → Shared → Prop}
theorem nextK {t : Bool} {i l : Addr} {k : Nat} {xs : Array Value} {x : Value} {Q : Value → Shared → Prop} (hi : AtK t s.heap i l k) (hl : SeK t s.heap l xs) (hx : xs[k]? = some x)
    (hQ : ∀ g, AtK t g i l (k + 1) → Heap.SameBut i s.heap g → Q x { s with heap := g }) : wpAny (model prog w) A (Builtin.SmallTypes.nextOf (.ref i)) Q E s := by
  cases t
  · exact wpAny_nextOf_list_item hi hl hx hQ
  · exact RZ.nextOf_tuple_item hi hl hx hQ
theorem stopK {t : Bool} {i l : Addr} {k : Nat} {xs : Array Value} {Q : Value → Shared → Prop} (hh : A.handled = none) (hi : AtK t s.heap i l k) (hl : SeK t s.heap l xs) (hx : xs[k]? = none)
    (hE : ∀ g e, Heap.ExtBut i s.heap g → (∃ o, g.get? e = some o ∧ o.cls = .type "StopIteration") → E (.ref e) { s with heap := g }) : wpAny (model prog w) A (Builtin.SmallTypes.nextOf (.ref i)) Q E s := by
  cases t
  · exact wpAny_nextOf_list_end hh hi hl hx hE
  · exact RZ.nextOf_tuple_end hh hi hl hx hE
theorem iterK {t : Bool} {l : Addr} {xs : Array Value} {Q : Value → Shared → Prop} (hl : SeK t s.heap l xs)
    (hQ : Q (.ref s.heap.objs.size) { s with heap := s.heap.push { cls := .type (nameK t), data := .fields #[.ref l, .int 0 0] } }) : wpAny (model prog w) A (pyIter (.ref l)) Q E s := by
  cases t
  · exact wpAny_pyIter_list hl hQ
  · exact wpAny_pyIter_tuple hl hQ
theorem pairK {t1 t2 : Bool} {z TI TO i1 i2 l1 l2 : Addr} {k : Nat} {xs ys : Array Value} {x y a b : Value} {Q : Value → Shared → Prop} (D : ZipApart z TI TO i1 i2 l1 l2)
    (hZ : IsZip s.heap z TI TO .none) (hI : IsPair s.heap TI (.ref i1) (.ref i2)) (hO : IsPair s.heap TO a b)
    (A1 : AtK t1 s.heap i1 l1 k) (A2 : AtK t2 s.heap i2 l2 k) (S1 : SeK t1 s.heap l1 xs) (S2 : SeK t2 s.heap l2 ys) (hx : xs[k]? = some x) (hy : ys[k]? = some y)
    (hQ : ∀ g, IsZip g z TI TO (rawInt s.heap.objs.size) → IsPair g TO x y → AtK t1 g i1 l1 (k + 1) → AtK t2 g i2 l2 (k + 1) → IsPair g s.heap.objs.size x y →
      (∀ c o, c ≠ z → c ≠ TO → c ≠ i1 → c ≠ i2 → s.heap.get? c = some o → g.get? c = some o) → Q (.ref s.heap.objs.size) { s with heap := g }) : wpAny (model prog w) A (Builtin.«zip.__next__» ⟨[.ref z], []⟩) (fun fin s' => ∃ v, fin = .done (.ret v) ∧ Q v s') E s := by
  (show wpAny _ _ (field (.ref z) 2 >>= _) _ _ _)
  refine wpAny_bind (wpAny_field hZ rfl (x := .bool false) rfl ?_)
  (show wpAny _ _ (field (.ref z) 3 >>= _) _ _ _)
  refine wpAny_bind (wpAny_field hZ rfl (x := .ref TI) rfl (wpAny_bind (wpAny_seqItems hI rfl ?_)))
  (show wpAny _ _ (Builtin.SmallTypes.ownedTupleIsFree (.ref z) >>= _) _ _ _)
  (unfold Builtin.SmallTypes.ownedTupleIsFree)
  refine wpAny_bind (wpAny_bind (wpAny_field hZ rfl (x := .none) rfl (wpAny_pure ?_)))
  simp only [if_true]
  refine wpAny_bind (wpAny_rule (wpAny_bind (wpAny_field hZ rfl (x := .ref TO) rfl ?_)))
  refine wpAny_bind (wpAny_setField_rec hZ (by simp) fun g1 z1 b1 => wpAny_bind ?_)
  replace z1 : IsZip g1 z TI TO .ellipsis := z1
  (simp only [List.zipIdx_cons, List.zipIdx_nil, List.forIn_cons, List.forIn_nil])
  (refine wpAny_bind (wpAny_bind (wpAny_onRaise ?_)))
  (show wpAny _ _ (Builtin.SmallTypes.nextOf (.ref i1) >>= _) _ _ _)
  refine wpAny_bind (nextK (A1.far b1 D.i1z) (S1.far b1 D.l1z) hx fun g2 A1' b2 => wpAny_pure ?_)
  have p2 : IsPair g2 TO a b := b2.extBut _ _ D.TOi1 (b1.extBut _ _ D.TOz hO)
  refine wpAny_bind (wpAny_seqItems p2 rfl (wpAny_bind (wpAny_updateSeq_pair p2 fun g3 p3 b3 => wpAny_bind (wpAny_letGo (wpAny_pure ?_)))))
  replace p3 : IsPair g3 TO x b := p3
  (refine wpAny_bind (wpAny_bind (wpAny_onRaise ?_)))
  (show wpAny _ _ (Builtin.SmallTypes.nextOf (.ref i2) >>= _) _ _ _)
  refine wpAny_bind (nextK (((A2.far b1 D.i2z).far b2 D.i12.symm).far b3 D.TOi2.symm) (((S2.far b1 D.l2z).far b2 D.l2i1).far b3 D.l2TO) hy fun g4 A2' b4 => wpAny_pure ?_)
  have p4 : IsPair g4 TO x b := b4.extBut _ _ D.TOi2 p3
  refine wpAny_bind (wpAny_seqItems p4 rfl (wpAny_bind (wpAny_updateSeq_pair p4 fun g5 p5 b5 => wpAny_bind (wpAny_letGo (wpAny_pure (wpAny_pure ?_))))))
  replace p5 : IsPair g5 TO x y := p5
  refine wpAny_bind (wpAny_seqItems p5 rfl (wpAny_bind (wpAny_newTuple ?_)))
  have sz : g5.objs.size = s.heap.objs.size := by rw [b5.1, b4.1, b3.1, b2.1, b1.1]
  have z5 : IsZip g5 z TI TO .ellipsis := b5.extBut _ _ D.TOz.symm (b4.extBut _ _ D.i2z.symm (b3.extBut _ _ D.TOz.symm (b2.extBut _ _ D.i1z.symm z1)))
  have kp : ∀ c o, c ≠ z → c ≠ TO → c ≠ i1 → c ≠ i2 → s.heap.get? c = some o → g5.get? c = some o := fun c o n1 n2 n3 n4 e => b5.extBut _ _ n2 (b4.extBut _ _ n4 (b3.extBut _ _ n2 (b2.extBut _ _ n3 (b1.extBut _ _ n1 e))))
  have q1 : AtK t1 g5 i1 l1 (k + 1) := ((A1'.far b3 D.TOi1.symm).far b4 D.i12).far b5 D.TOi1.symm
  have q2 : AtK t2 g5 i2 l2 (k + 1) := A2'.far b5 D.TOi2.symm
  have zl : z < g5.objs.size := Heap.lt_size z5
  show wpAny _ _ (Builtin.SmallTypes.ownedTupleHandOut (.ref z) (.ref g5.objs.size) >>= _) _ _ _
  (unfold Builtin.SmallTypes.ownedTupleHandOut)
  have z6 : IsZip (g5.push { cls := .type "tuple", data := .seq #[x, y] }) z TI TO .ellipsis := Heap.get?_push_of_some _ z5
  refine wpAny_bind (wpAny_bind (wpAny_setField_rec z6 (by simp) fun g7 z7 b7 => ?_))
  replace z7 : IsZip g7 z TI TO (rawInt g5.objs.size) := z7
  refine wpAny_setField_rec z7 (by simp) fun g8 z8 b8 => wpAny_pure ⟨_, rfl, ?_⟩
  replace z8 : IsZip g8 z TI TO (rawInt g5.objs.size) := z8
  have up : ∀ c o, c ≠ z → g5.get? c = some o → g8.get? c = some o := fun c o n e => b8.extBut _ _ n (b7.extBut _ _ n (Heap.get?_push_of_some _ e))
  have T8 : IsPair g8 g5.objs.size x y := b8.extBut _ _ (Nat.ne_of_gt zl) (b7.extBut _ _ (Nat.ne_of_gt zl) (Heap.get?_push_size _ rfl))
  show Q (.ref g5.objs.size) _
  rw [sz] at z8 T8 ⊢
  exact hQ g8 z8 (up _ _ D.TOz p5) (q1.at fun o e => up _ o D.i1z e) (q2.at fun o e => up _ o D.i2z e) T8 fun c o n1 n2 n3 n4 e => up c o n1 (kp c o n1 n2 n3 n4 e)
theorem overK {t1 t2 : Bool} {z TI TO i1 i2 l1 l2 : Addr} {k : Nat} {xs ys : Array Value} {a b : Value} {Q : Fin → Shared → Prop} (hh : A.handled = none) (D : ZipApart z TI TO i1 i2 l1 l2)
    (hZ : IsZip s.heap z TI TO .none) (hI : IsPair s.heap TI (.ref i1) (.ref i2)) (hO : IsPair s.heap TO a b)
    (A1 : AtK t1 s.heap i1 l1 k) (A2 : AtK t2 s.heap i2 l2 k) (S1 : SeK t1 s.heap l1 xs) (S2 : SeK t2 s.heap l2 ys) (end_ : xs[k]? = none ∨ ys[k]? = none)
    (hE : ∀ g e, (∀ c o, c ≠ z → c ≠ TO → c ≠ i1 → c ≠ i2 → s.heap.get? c = some o → g.get? c = some o) → (∃ o, g.get? e = some o ∧ o.cls = .type "StopIteration") → E (.ref e) { s with heap := g }) : wpAny (model prog w) A (Builtin.«zip.__next__» ⟨[.ref z], []⟩) Q E s := by
  (show wpAny _ _ (field (.ref z) 2 >>= _) _ _ _)
  refine wpAny_bind (wpAny_field hZ rfl (x := .bool false) rfl ?_)
  (show wpAny _ _ (field (.ref z) 3 >>= _) _ _ _)
  refine wpAny_bind (wpAny_field hZ rfl (x := .ref TI) rfl (wpAny_bind (wpAny_seqItems hI rfl ?_)))
  (show wpAny _ _ (Builtin.SmallTypes.ownedTupleIsFree (.ref z) >>= _) _ _ _)
  (unfold Builtin.SmallTypes.ownedTupleIsFree)
  refine wpAny_bind (wpAny_bind (wpAny_field hZ rfl (x := .none) rfl (wpAny_pure ?_)))
  simp only [if_true]
  refine wpAny_bind (wpAny_rule (wpAny_bind (wpAny_field hZ rfl (x := .ref TO) rfl ?_)))
  refine wpAny_bind (wpAny_setField_rec hZ (by simp) fun g1 z1 b1 => wpAny_bind ?_)
  replace z1 : IsZip g1 z TI TO .ellipsis := z1
  (simp only [List.zipIdx_cons, List.zipIdx_nil, List.forIn_cons, List.forIn_nil])
  (refine wpAny_bind (wpAny_bind (wpAny_onRaise ?_)))
  (show wpAny _ _ (Builtin.SmallTypes.nextOf (.ref i1) >>= _) _ _ _)
  cases hx : xs[k]? with
  | none =>
    refine wpAny_bind (stopK hh (A1.far b1 D.i1z) (S1.far b1 D.l1z) hx fun g2 e b2 he => ?_)
    obtain ⟨oe, he, ce⟩ := he
    have z2 : IsZip g2 z TI TO .ellipsis := b2 _ _ D.i1z.symm z1
    have ez : e ≠ z := fun q => by subst q; rw [z2] at he; cases he; simp at ce
    exact wpAny_setField_rec z2 (by simp) fun g3 _ b3 => hE g3 e (fun c o n1 _ n3 _ q => b3.extBut _ _ n1 (b2 _ _ n3 (b1.extBut _ _ n1 q))) ⟨oe, b3.extBut _ _ ez he, ce⟩
  | some x =>
    have hy : ys[k]? = none := by
      rcases end_ with q | q
      · rw [hx] at q; cases q
      · exact q
    refine wpAny_bind (nextK (A1.far b1 D.i1z) (S1.far b1 D.l1z) hx fun g2 A1' b2 => wpAny_pure ?_)
    have p2 : IsPair g2 TO a b := b2.extBut _ _ D.TOi1 (b1.extBut _ _ D.TOz hO)
    refine wpAny_bind (wpAny_seqItems p2 rfl (wpAny_bind (wpAny_updateSeq_pair p2 fun g3 p3 b3 => wpAny_bind (wpAny_letGo (wpAny_pure ?_)))))
    (refine wpAny_bind (wpAny_bind (wpAny_onRaise ?_)))
    (show wpAny _ _ (Builtin.SmallTypes.nextOf (.ref i2) >>= _) _ _ _)
    refine wpAny_bind (stopK hh (((A2.far b1 D.i2z).far b2 D.i12.symm).far b3 D.TOi2.symm) (((S2.far b1 D.l2z).far b2 D.l2i1).far b3 D.l2TO) hy fun g4 e b4 he => ?_)
    obtain ⟨oe, he, ce⟩ := he
    have z4 : IsZip g4 z TI TO .ellipsis := b4 _ _ D.i2z.symm (b3.extBut _ _ D.TOz.symm (b2.extBut _ _ D.i1z.symm z1))
    have ez : e ≠ z := fun q => by subst q; rw [z4] at he; cases he; simp at ce
    exact wpAny_setField_rec z4 (by simp) fun g5 _ b5 => hE g5 e (fun c o n1 n2 n3 n4 q => b5.extBut _ _ n1 (b4 _ _ n4 (b3.extBut _ _ n2 (b2.extBut _ _ n3 (b1.extBut _ _ n1 q))))) ⟨oe, b5.extBut _ _ ez he, ce⟩
theorem goK {t1 t2 : Bool} {z TI TO i1 i2 l1 l2 : Addr} {k : Nat} {xs ys : Array Value} {x y a b : Value} {Q : Option Value → Shared → Prop} (D : ZipApart z TI TO i1 i2 l1 l2)
    (hZ : IsZip s.heap z TI TO .none) (hI : IsPair s.heap TI (.ref i1) (.ref i2)) (hO : IsPair s.heap TO a b)
    (A1 : AtK t1 s.heap i1 l1 k) (A2 : AtK t2 s.heap i2 l2 k) (S1 : SeK t1 s.heap l1 xs) (S2 : SeK t2 s.heap l2 ys) (hx : xs[k]? = some x) (hy : ys[k]? = some y)
    (hQ : ∀ g, IsZip g z TI TO (rawInt s.heap.objs.size) → IsPair g TO x y → AtK t1 g i1 l1 (k + 1) → AtK t2 g i2 l2 (k + 1) → IsPair g s.heap.objs.size x y →
      (∀ c o, c ≠ z → c ≠ TO → c ≠ i1 → c ≠ i2 → s.heap.get? c = some o → g.get? c = some o) → Q (some (.ref s.heap.objs.size)) { s with heap := g }) : wpAny (model prog w) A (pyNext (.ref z)) Q E s := by
  have tz : s.TypeIs (.ref z) "zip" := ⟨_, hZ, rfl⟩
  unfold pyNext
  exact wpAny_bind (wpAny_attempt (wpAny_callSpecial?_slot (name := Str.ofString "__next__") tz F.slot_zip_next (wpAny_call_entry F.slot_zip_next tz F.entry_zip_next
    (pairK D hZ hI hO A1 A2 S1 S2 hx hy fun g a1 a2 a3 a4 a5 a6 => wpAny_pure (hQ g a1 a2 a3 a4 a5 a6)) (F.args_zip_next_1 _))))
theorem haltK {t1 t2 : Bool} {z TI TO i1 i2 l1 l2 : Addr} {k : Nat} {xs ys : Array Value} {a b : Value} {Q : Option Value → Shared → Prop} (hh : A.handled = none) (D : ZipApart z TI TO i1 i2 l1 l2)
    (hZ : IsZip s.heap z TI TO .none) (hI : IsPair s.heap TI (.ref i1) (.ref i2)) (hO : IsPair s.heap TO a b)
    (A1 : AtK t1 s.heap i1 l1 k) (A2 : AtK t2 s.heap i2 l2 k) (S1 : SeK t1 s.heap l1 xs) (S2 : SeK t2 s.heap l2 ys) (end_ : xs[k]? = none ∨ ys[k]? = none)
    (hQ : ∀ g, (∀ c o, c ≠ z → c ≠ TO → c ≠ i1 → c ≠ i2 → s.heap.get? c = some o → g.get? c = some o) → Q none { s with heap := g }) : wpAny (model prog w) A (pyNext (.ref z)) Q E s := by
  have tz : s.TypeIs (.ref z) "zip" := ⟨_, hZ, rfl⟩
  unfold pyNext
  refine wpAny_bind (wpAny_attempt (wpAny_callSpecial?_slot (name := Str.ofString "__next__") tz F.slot_zip_next (wpAny_call_entry F.slot_zip_next tz F.entry_zip_next (overK hh D hZ hI hO A1 A2 S1 S2 end_ fun g e kp he => ?_) (F.args_zip_next_1 _))))
  obtain ⟨o, ho, ce⟩ := he
  exact wpAny_bind (wpAny_isInstance (T := "StopIteration") (b := true) ⟨o, ho, ce⟩ isSubtype_stop (wpAny_pure (hQ _ kp)))
end
abbrev itOb (t : Bool) (l : Addr) : Obj := { cls := .type (nameK t), data := .fields #[.ref l, .int 0 0] }
abbrev zK2 (t1 t2 : Bool) (h : Heap) (l1 l2 : Addr) : Heap := (h.push (itOb t1 l1)).push (itOb t2 l2)
abbrev zK4 (t1 t2 : Bool) (h : Heap) (l1 l2 : Addr) : Heap := ((zK2 t1 t2 h l1 l2).push { cls := .type "tuple", data := .seq #[.ref h.objs.size, .ref (h.push (itOb t1 l1)).objs.size] }).push { cls := .type "tuple", data := .seq #[.none, .none] }
abbrev zK5 (t1 t2 : Bool) (h : Heap) (l1 l2 : Addr) : Heap := (zK4 t1 t2 h l1 l2).push { cls := .type "zip", data := .fields #[.none, .bool false, .bool false, .ref (zK2 t1 t2 h l1 l2).objs.size, .ref ((zK2 t1 t2 h l1 l2).push { cls := .type "tuple", data := .seq #[.ref h.objs.size, .ref (h.push (itOb t1 l1)).objs.size] }).objs.size] }
theorem SeK.push {t : Bool} {h : Heap} {l : Addr} {xs : Array Value} (x : SeK t h l xs) (o : Obj) : SeK t (h.push o) l xs := x.at fun _ e => Heap.get?_push_of_some _ e
theorem newK (t1 t2 : Bool) (l1 l2 : Addr) (xs ys : Array Value) :
    Meets (Builtin.«zip.__new__» ⟨[.type "zip", .ref l1, .ref l2], []⟩) (fun _ R s => SeK t1 s.heap l1 xs ∧ SeK t2 s.heap l2 ys ∧ R (.ok (.ret (.ref (zK4 t1 t2 s.heap l1 l2).objs.size))) { s with heap := zK5 t1 t2 s.heap l1 l2 }) :=
  .of_wp fun _ _ _ R s h => by
    obtain ⟨hp, g, d, tk, os⟩ := s; obtain ⟨S1, S2, h⟩ := h
    have hsub := sub_zip
    have L1 : SeK t1 (Shared.heap ⟨hp, g, d, tk, os⟩) l1 xs := S1
    have L2 : SeK t2 (Shared.heap ⟨hp.push (itOb t1 l1), g, d, tk, os⟩) l2 ys := SeK.push S2 _
    wp_walk using iterK L1, iterK L2
    exact ⟨_, rfl, h⟩
theorem zipK {prog : Program} {w : World} {A : Around} {E : Value → Shared → Prop} {s : Shared} {t1 t2 : Bool} {l1 l2 : Addr} {xs ys : Array Value} {Q : Value → Shared → Prop} (S1 : SeK t1 s.heap l1 xs) (S2 : SeK t2 s.heap l2 ys)
    (h : ∀ g, IsZip g (s.heap.objs.size + 4) (s.heap.objs.size + 2) (s.heap.objs.size + 3) .none → IsPair g (s.heap.objs.size + 2) (.ref s.heap.objs.size) (.ref (s.heap.objs.size + 1)) → IsPair g (s.heap.objs.size + 3) .none .none →
      AtK t1 g s.heap.objs.size l1 0 → AtK t2 g (s.heap.objs.size + 1) l2 0 → (∀ c o, s.heap.get? c = some o → g.get? c = some o) → Q (.ref (s.heap.objs.size + 4)) { s with heap := g }) : wpAny (model prog w) A (call (.type "zip") [.ref l1, .ref l2]) Q E s := by
  refine callType_new F.called_zip (by decide) (F.typeCall_zip_2 _ _) (F.newCall_zip_2 _ _) (fun obj => F.args_object_init_3 obj _ _) F.entry_zip_new (newK t1 t2 l1 l2 xs ys) ⟨S1, S2, ?_⟩
  have n1 : (s.heap.push (itOb t1 l1)).objs.size = s.heap.objs.size + 1 := Heap.size_push ..
  have n2 : (zK2 t1 t2 s.heap l1 l2).objs.size = s.heap.objs.size + 2 := by rw [Heap.size_push, n1]
  have n3 : ((zK2 t1 t2 s.heap l1 l2).push { cls := .type "tuple", data := .seq #[.ref s.heap.objs.size, .ref (s.heap.push (itOb t1 l1)).objs.size] }).objs.size = s.heap.objs.size + 3 := by rw [Heap.size_push, n2]
  have n4 : (zK4 t1 t2 s.heap l1 l2).objs.size = s.heap.objs.size + 4 := by rw [Heap.size_push, n3]
  have g5 : (zK5 t1 t2 s.heap l1 l2).get? (zK4 t1 t2 s.heap l1 l2).objs.size = some _ := Heap.get?_push_size _ rfl
  have g4 : (zK5 t1 t2 s.heap l1 l2).get? ((zK2 t1 t2 s.heap l1 l2).push { cls := .type "tuple", data := .seq #[.ref s.heap.objs.size, .ref (s.heap.push (itOb t1 l1)).objs.size] }).objs.size = some _ := Heap.get?_push_of_some _ (Heap.get?_push_size _ rfl)
  have g3 : (zK5 t1 t2 s.heap l1 l2).get? (zK2 t1 t2 s.heap l1 l2).objs.size = some _ := Heap.get?_push_of_some _ (Heap.get?_push_of_some _ (Heap.get?_push_size _ rfl))
  have g2 : (zK5 t1 t2 s.heap l1 l2).get? (s.heap.push (itOb t1 l1)).objs.size = some (itOb t2 l2) := Heap.get?_push_of_some _ (Heap.get?_push_of_some _ (Heap.get?_push_of_some _ (Heap.get?_push_size _ rfl)))
  have g1 : (zK5 t1 t2 s.heap l1 l2).get? s.heap.objs.size = some (itOb t1 l1) := Heap.get?_push_of_some _ (Heap.get?_push_of_some _ (Heap.get?_push_of_some _ (Heap.get?_push_of_some _ (Heap.get?_push_size _ rfl))))
  show _ ∧ _
  rw [n2, n3, n4] at g5
  rw [n1, n2] at g3
  rw [n3] at g4
  rw [n1] at g2
  rw [n4]
  refine ⟨⟨_, g5, rfl⟩, h _ g5 g3 g4 ?_ ?_ fun c o x => Heap.get?_push_of_some _ (Heap.get?_push_of_some _ (Heap.get?_push_of_some _ (Heap.get?_push_of_some _ (Heap.get?_push_of_some _ x))))⟩
  · cases t1
    · exact ⟨_, g1, rfl, rfl⟩
    · exact ⟨_, g1, rfl, rfl⟩
  · cases t2
    · exact ⟨_, g2, rfl, rfl⟩
    · exact ⟨_, g2, rfl, rfl⟩
/-- what stands at a: a list (false) or a tuple (true) -/
def SqK (t : Bool) (K : PySem.W.Frag) (H : Hp) (a : Addr) (xs : List V) : Prop := if t then SqT K H a xs else SqL K H a xs
/-- the pairs of what is at a and at b -/
def ItZ (t1 t2 : Bool) (K : PySem.W.Frag) (a b : Addr) : It :=
  ⟨fun i H => ∃ (xs ys : List V) (x y : V), SqK t1 K H a xs ∧ SqK t2 K H b ys ∧ xs[i]? = some x ∧ ys[i]? = some y,
    fun i H v H' => ∃ T x y, v = .ref T ∧ H T = none ∧ H' = upd H T (.tup [x, y]) ∧ (∀ xs, SqK t1 K H a xs → xs[i]? = some x) ∧ ∀ ys, SqK t2 K H b ys → ys[i]? = some y,
    fun i H => ∃ xs ys : List V, SqK t1 K H a xs ∧ SqK t2 K H b ys ∧ (xs.length ≤ i ∨ ys.length ≤ i)⟩
section
variable {H : Hp} {X : Cx} {pins : List (Addr × Obj)} {s : Shared} {σ : L2.St}
theorem seqK {t : Bool} {a : Addr} {xs : List V} (I : Inv X pins σ H s) (q : SqK t X.K H a xs) : ∃ its : List Value, Vals xs its ∧ SeK t s.heap a its.toArray ∧ a < s.heap.objs.size := by
  cases t
  · obtain ⟨its, r, p, _⟩ := I.list q
    exact ⟨its, r, p.isList, p.lt⟩
  · obtain ⟨its, r, p, _⟩ := I.tuple q
    obtain ⟨o, e, _⟩ := id p
    exact ⟨its, r, p, Heap.lt_size e⟩
theorem seqK_inj {t : Bool} {a : Addr} {xs ys : List V} (I : Inv X pins σ H s) (q : SqK t X.K H a xs) (q' : SqK t X.K H a ys) : xs = ys := by
  cases t
  · exact I.list_inj q q'
  · exact I.tuple_inj q q'
end
theorem turnK {P : Program} {w : World} {K : PySem.W.Frag} {elts : List Expr} {kk : Nat} {tpos : Pos} {t1 t2 : Bool} {a b z TI TO i1 i2 : Addr} (D : ZipApart z TI TO i1 i2 a b) :
    Turn P w K (.Tuple elts kk tpos) (ItZ t1 t2 K a b) [z, TI, TO, i1, i2] z (fun i h => IsZip h z TI TO .none ∧ IsPair h TI (.ref i1) (.ref i2) ∧ (∃ x y, IsPair h TO x y) ∧ AtK t1 h i1 a i ∧ AtK t2 h i2 b i) where
  mem := by simp
  obj := fun i h ⟨hZ, hI, ⟨x, y, hO⟩, h1, h2⟩ c hc => by
    obtain ⟨o1, f1, e1, d1⟩ := h1.ob
    obtain ⟨o2, f2, e2, d2⟩ := h2.ob
    simp only [List.mem_cons, List.not_mem_nil, or_false] at hc
    rcases hc with rfl | rfl | rfl | rfl | rfl
    · exact ⟨_, hZ, fun v q => nomatch q⟩
    · exact ⟨_, hI, fun v q => nomatch q⟩
    · exact ⟨_, hO, fun v q => nomatch q⟩
    · exact ⟨o1, e1, fun v q => by rw [d1] at q; cases q⟩
    · exact ⟨o2, e2, fun v q => by rw [d2] at q; cases q⟩
  keep := fun i h h' ⟨hZ, hI, ⟨x, y, hO⟩, h1, h2⟩ k => ⟨k z (by simp) _ hZ, k TI (by simp) _ hI, ⟨x, y, k TO (by simp) _ hO⟩, h1.at fun o q => k i1 (by simp) o q, h2.at fun o q => k i2 (by simp) o q⟩
  item := by
    (intro X hP hw hK hc i pins s σ H E I hf st hg)
    subst hP hw hK
    obtain ⟨hZ, hI, ⟨x0, y0, hO⟩, A1, A2⟩ := st
    obtain ⟨xs, ys, x, y, qx, qy, hx, hy⟩ := hg
    obtain ⟨its, rv, S1, _⟩ := seqK I qx
    obtain ⟨jts, rw_, S2, _⟩ := seqK I qy
    obtain ⟨u, eu, ru⟩ := rv.get hx
    obtain ⟨u2, hu2, ru2⟩ := rw_.get hy
    have zl : z < s.heap.objs.size := Heap.lt_size hZ
    refine goK D hZ hI hO A1 A2 S1 S2 (x := u) (y := u2) (by simpa using eu) (by simpa using hu2) fun g z' p' B1 B2 tz kp => ⟨_, rfl, ?_⟩
    refine wpAny_letOwnedTupleGo_zip (s := { s with heap := g }) z' fun g2 z2 sb => ?_
    have tz2 : g2.get? s.heap.objs.size = some { cls := .type "tuple", data := .seq #[u, u2] } := (sb.2 _ (Nat.ne_of_gt zl)).trans tz
    have new : ObjOk X.prog X.w (upd H s.heap.objs.size (.tup [x, y])) g2 s.heap.objs.size (.tup [x, y]) := ⟨by show 2 ≤ sizeLine; decide, [u, u2], .cons ru (.cons ru2 .nil), ⟨_, tz2, rfl, _, rfl⟩⟩
    have far : ∀ c, c ∉ [z, TI, TO, i1, i2] → c ≠ z ∧ c ≠ TO ∧ c ≠ i1 ∧ c ≠ i2 := fun c hb => by
      simp only [List.mem_cons, List.not_mem_nil, or_false, not_or] at hb
      exact ⟨hb.1, hb.2.2.1, hb.2.2.2.1, hb.2.2.2.2⟩
    have I1 : Inv X pins σ (upd H s.heap.objs.size (.tup [x, y])) { s with heap := g2 } :=
      I.turnedNew (t' := s.toks) (ch := [z, TI, TO, i1, i2]) (fun c o hb q => by
        obtain ⟨n1, n2, n3, n4⟩ := far c hb
        exact (sb.2 c n1).trans (kp c o n1 n2 n3 n4 q)) hf (Nat.le_refl _) new
    refine ⟨.ref s.heap.objs.size, _, I1, rfl, ⟨_, x, y, rfl, I.hok.fresh (Nat.le_refl _), rfl, fun l hl => by rw [seqK_inj I hl qx]; exact hx, fun l hl => by rw [seqK_inj I hl qy]; exact hy⟩,
      ⟨z2, (sb.2 _ D.TIz).trans (kp _ _ D.TIz D.TITO D.TIi1 D.TIi2 hI), ⟨u, u2, (sb.2 _ D.TOz).trans p'⟩, B1.at fun o q => (sb.2 _ D.i1z).trans q, B2.at fun o q => (sb.2 _ D.i2z).trans q⟩, fun c hcm => ?_⟩
    have hlt : c < s.heap.objs.size := by
      obtain ⟨_, _, e1, _⟩ := A1.ob
      obtain ⟨_, _, e2, _⟩ := A2.ob
      have hcm' := hcm
      simp only [List.mem_cons, List.not_mem_nil, or_false] at hcm'
      rcases hcm' with rfl | rfl | rfl | rfl | rfl
      · exact zl
      · exact Heap.lt_size hI
      · exact Heap.lt_size hO
      · exact Heap.lt_size e1
      · exact Heap.lt_size e2
    (rw [upd_ne (Nat.ne_of_lt hlt)])
    exact (hf c hcm).1
  done := by
    (intro X hP hw hK hc i pins s σ H E I hf st hg)
    subst hP hw hK
    obtain ⟨hZ, hI, ⟨x0, y0, hO⟩, A1, A2⟩ := st
    obtain ⟨xs, ys, qx, qy, hend⟩ := hg
    obtain ⟨its, rv, S1, _⟩ := seqK I qx
    obtain ⟨jts, rw_, S2, _⟩ := seqK I qy
    have l1 := rv.length
    have l2 := rw_.length
    have he : its.toArray[i]? = none ∨ jts.toArray[i]? = none := by
      rcases hend with q | q
      · exact .inl (by simp; omega)
      · exact .inr (by simp; omega)
    exact haltK (I.ok.hd hc) D hZ hI hO A1 A2 S1 S2 he fun g kp => ⟨rfl, I.turnedL (t' := s.toks) (ch := [z, TI, TO, i1, i2]) (fun c o hb q => by
      simp only [List.mem_cons, List.not_mem_nil, or_false, not_or] at hb
      exact kp c o hb.1 hb.2.2.1 hb.2.2.2.1 hb.2.2.2.2 q) hf⟩
  self := fun _ _ _ _ _ st h => wpAny_pyIter_zip st.1 h
def iZK (t1 t2 : Bool) (K : PySem.W.Frag) (ta : TA) : TI := fun σ H R => ta σ H fun vs H1 => ∃ a b xs ys, vs = [.ref a, .ref b] ∧ SqK t1 K H1 a xs ∧ SqK t2 K H1 b ys ∧ R (ItZ t1 t2 K a b) H1
theorem pi_zK (t1 t2 : Bool) {X : Cx} {e e2 : Expr} {ta : TA} {p pos tpos : Pos} {elts : List Expr} {kk : Nat} (hg : Gl X "zip") (hm : X.mg "zip" = none) (ha : PA X [e, e2] ta) (hs : starEach [e, e2] X.env = (false, eval e X.env) :: starEach [e2] X.env := by rfl) (hpl : (backTo pos (starEach [e2] X.env)).any (·.1) = false := by rfl) :
    PI X (.Tuple elts kk tpos) (.Call (.Name "zip" p) [e, e2] [] pos) (iZK t1 t2 X.K ta) := ⟨fun pins s σ H R I h => by
  (refine Call_ (ld_blt I hg hm PyProof.Rows.boot_zip (PyProof.Rows.callWith_type1 (thn (ha.run pos pins s σ H _ I h) fun us s1 ⟨vs, H1, I1, r1, q1⟩ => ?_) hs hpl)))
  obtain ⟨a, b, xs, ys, rfl, qx, qy, q⟩ := q1
  cases r1 with
  | cons r rr =>
    cases rr with
    | cons r' rr =>
      cases rr; cases r; cases r'
      obtain ⟨its, rv, S1, la⟩ := seqK I1 qx
      obtain ⟨jts, rw_, S2, lb⟩ := seqK I1 qy
      refine zipK S1 S2 fun g hZ hI hO B1 B2 kp => wpAny_pyIter_zip hZ ?_
      have I2 : Inv X pins σ H1 { s1 with heap := g } := I1.kept (t' := s1.toks) kp
      refine ⟨s1.heap.objs.size + 4, [s1.heap.objs.size + 4, s1.heap.objs.size + 2, s1.heap.objs.size + 3, s1.heap.objs.size, s1.heap.objs.size + 1], _, _, H1, rfl, I2, turnK (t1 := t1) (t2 := t2) (PySem.W.ktu_apart s1.heap.objs.size a b la lb), ⟨hZ, hI, ⟨_, _, hO⟩, B1, B2⟩, fun c hcm => ?_, q⟩
      have lc : s1.heap.objs.size ≤ c := by
        simp only [List.mem_cons, List.not_mem_nil, or_false] at hcm
        rcases hcm with rfl | rfl | rfl | rfl | rfl
        · exact Nat.le_add_right _ _
        · exact Nat.le_add_right _ _
        · exact Nat.le_add_right _ _
        · exact Nat.le_refl _
        · exact Nat.le_add_right _ _
      exact I1.fpOk lc (I1.hok.fresh lc)⟩
/-- zip of a list and a tuple -/
def nxZipM (p : Nat) (ys : List W) : Nat → Hv → Nxt := fun i h => match h[p]? with
  | some (.lst xs) => zipN xs ys i h
  | _ => .bad
def srcZM (ws : List W) (h : Hv) : Res Src := match ws with
  | [.ref p, .tup ys] => (match h[p]? with
    | some (.lst xs) => .val ⟨xs.length + 1, nxZipM p ys⟩ h
    | _ => .bad)
  | _ => .bad
def mZipM (g : Ws → Hv → Res (List W)) : Ws → Hv → Res Src := fun r h => (g r h).bind srcZM
theorem sim_zipM {T : Tx} {K : PySem.W.Frag} (hK : T.K = K) {ps : Pl} {p n : Nat} {a b : Addr} {ys : List W} {us : List V} (ea : ps[p]? = some a) (hb : ps.tu b us) (rb : Paired (WV ps) ys us) : SimI T ps ⟨n, nxZipM p ys⟩ (ItZ false true K a b) := by
  subst hK
  intro qs h H i pre vw
  have ea' := at_pre pre ea
  have sb : SqT T.K H b us := (vw.tup b us (pre.2 _ _ hb)).sq
  have rb' := WVs.mono pre rb
  show NxOk T qs H (ItZ false true T.K a b) i (nxZipM p ys i h)
  unfold nxZipM
  split
  · rename_i xs e1
    obtain ⟨vs, rr, eH⟩ := vw.ob _ a _ ea' e1
    unfold zipN
    split
    · rename_i x y ex ey
      obtain ⟨v, ev, wv⟩ := paired_get rr ex
      obtain ⟨u, eu, wu⟩ := paired_get rb' ey
      refine ⟨⟨vs, us, v, u, SqL.of eH, sb, ev, eu⟩, fun z H' y => ?_⟩
      obtain ⟨t, x', y', rfl, hq, rfl, y1, y2⟩ := y
      have z1 := y1 vs (SqL.of eH)
      have z2 := y2 us sb
      rw [ev] at z1
      rw [eu] at z2
      cases z1
      cases z2
      obtain ⟨v1, s1⟩ := vw.tuple hq [v, u]
      exact ⟨_, s1, v1, WV.tup_mk (.inr ⟨rfl, rfl⟩) (WVs.mono s1.pre (.cons wv (.cons wu .nil)))⟩
    · rename_i no
      refine ⟨vs, us, SqL.of eH, sb, ?_⟩
      cases ex : xs[i]? with
      | none => exact .inl (paired_none rr ex)
      | some x =>
        cases ey : ys[i]? with
        | none => exact .inr (paired_none rb' ey)
        | some y => exact absurd ey (no x y ex)
  · trivial
theorem si_zipM {T : Tx} {X : Cx} {e e2 : Expr} {p pos : Pos} {fa : Ws → Hv → Res (List W)} {tpos : Pos} {elts : List Expr} {kk : Nat} (hg : Gl X "zip") (hm : X.mg "zip" = none) (ha : SA T X [e, e2] fa) (hK : T.K = X.K := by rfl) (hs : starEach [e, e2] X.env = (false, eval e X.env) :: starEach [e2] X.env := by rfl) (hpl : (backTo pos (starEach [e2] X.env)).any (·.1) = false := by rfl) :
    SI T X (.Tuple elts kk tpos) (.Call (.Name "zip" p) [e, e2] [] pos) (mZipM fa) := fun E cn => ⟨fun pins s σ H R I h => (pi_zK false true hg hm (ha E cn) hs hpl).run pins s σ H R I (by
  obtain ⟨ps, r, hv, es, vw, gd⟩ := h
  refine ⟨ps, r, hv, es, vw, ?_⟩
  cases q : fa r hv with
  | bad => unfold mZipM at gd; rw [q] at gd; exact gd.elim
  | exc c d h1 => unfold mZipM at gd; rw [q] at gd; exact gd
  | val ws h1 =>
    unfold mZipM at gd
    rw [q] at gd
    have g1 : Good T (SimI T) ps H (srcZM ws h1) R _ := gd
    intro qs H' vs st vw' wv
    unfold srcZM at g1
    split at g1
    · obtain ⟨v, u, rfl, ⟨a, ea, rfl⟩, wt⟩ := two_args wv
      obtain ⟨b, us, rfl, hb, rb⟩ := wt.tup_of
      split at g1
      · rename_i xs e1
        obtain ⟨vs, rr, eH⟩ := vw'.ob _ a _ ea e1
        exact ⟨a, b, vs, us, rfl, SqL.of eH, hK ▸ TupAt.sq (vw'.tup b us hb), g1 qs H' _ st vw' (sim_zipM hK ea hb rb)⟩
      · exact g1.elim
    · exact g1.elim)⟩
end VL
end
section
/-! texts: methods, f-strings, int(text), slices -/
namespace VL
open PySem L2 PySem.Spec PyProof.Rows
/-- a method of a text, with one thing handed in -/
def mM1 (g : MOp) (f fe : Ws → Hv → Res W) : Ws → Hv → Res W := fun r h => (f r h).bind fun x h1 => match x with
  | .str a => (fe r h1).bind fun y h2 => g (.str a) y h2
  | _ => .bad
def mM0 (g : Str → W) (f : Ws → Hv → Res W) : Ws → Hv → Res W := fun r h => (f r h).bind fun x h1 => match x with
  | .str a => .val (g a) h1
  | _ => .bad
def mSplit : MOp := fun x y h => match x, y with
  | .str a, .str b => if (b.length == 0) = false ∧ a.length ≤ 90000 then mNew (.lst ((Txt.split a b).map W.str)) h else .bad
  | _, _ => .bad
def mPtn : MOp := fun x y h => match x, y with
  | .str a, .str b => if (b.length == 0) = false ∧ a.length ≤ 90000 then .val (.tup [.str (Txt.partition a b).1, .str (Txt.partition a b).2.1, .str (Txt.partition a b).2.2]) h else .bad
  | _, _ => .bad
def strsW : List W → Option (List Str)
  | [] => some []
  | .str x :: xs => (strsW xs).map (x :: ·)
  | _ => none
def mJn : MOp := fun x y h => match x, y with
  | .str a, .ref p => (match h[p]? with
    | some (.lst xs) => (match strsW xs with
      | some ys => if (ys.map (·.length)).sum + ys.length * a.length ≤ 90000 then .val (.str (Txt.join a ys)) h else .bad
      | none => .bad)
    | _ => .bad)
  | _, _ => .bad
def mSw : MOp := fun x y h => match x, y with
  | .str a, .str b => .val (.bl (Txt.startswith a b)) h
  | _, _ => .bad
def mAscii (a : Str) : W := .bl (Txt.isascii a)
def mDigit (a : Str) : W := .bl (Txt.isdigit a)
def mAlpha (a : Str) : W := .bl (Txt.isalpha a)
theorem paired_strs {ps : Pl} : ∀ l : List Str, Paired (WV ps) (l.map W.str) (l.map V.str)
  | [] => .nil
  | _ :: l => .cons rfl (paired_strs l)
theorem strsW_ok {ps : Pl} : ∀ {xs : List W} {ys : List Str} {vs : List V}, strsW xs = some ys → Paired (WV ps) xs vs → vs = ys.map V.str
  | [], _, _, e, .nil => by cases e; rfl
  | x :: xs, ys, _, e, .cons a t => by
    unfold strsW at e
    split at e
    · cases ‹x :: xs = []›
    · rename_i z zs ez
      cases ez
      cases q : strsW xs with
      | none => (rw [q] at e; cases e)
      | some us =>
        rw [q] at e
        cases e
        rw [show _ = V.str z from a, strsW_ok q t]
        rfl
    · cases e
section
variable {T : Tx} {X : Cx} {o e : Expr} {f fe : Ws → Hv → Res W}
def RT1 (T : Tx) (rr : V → List V → Hp → VK → Prop) (g : MOp) : Prop := ∀ ps h H a y vy (Q : VK) (E : XK), View T ps h H → WV ps y vy → Good T WV ps H (g (.str a) y h) Q E → rr (.str a) [vy] H Q
theorem t1_of {E : WX} {rr : V → List V → Hp → VK → Prop} {g : MOp} (hg : RT1 T rr g) {s : L2.St} {H : Hp} {Q : VK} (h : tE T E (mM1 g f fe) s H Q) : tM1 rr (tE T E f) (tE T E fe) s H Q := by
  obtain ⟨ps, r, hv, es, vw, gd⟩ := h
  refine ⟨ps, r, hv, es, vw, (Good.bind (R := WV) (S := WV) gd).imp (fun v H1 q => ?_) fun _ _ _ z => z⟩
  obtain ⟨qs, w, h1, st, vw1, wv, g1⟩ := q
  dsimp only at g1
  split at g1
  · rename_i a
    cases (show v = .str a from wv)
    refine ⟨⟨_, rfl⟩, qs, r, h1, es.mono st.pre, vw1, (Good.bind (R := WV) (S := WV) g1).imp (fun u H2 q2 => ?_) fun _ _ _ z => z⟩
    obtain ⟨rs, w2, h2, st2, vw2, wv2, g2⟩ := q2
    exact hg rs h2 H2 a w2 u Q _ vw2 wv2 g2
  · exact g1.elim
theorem se_m1t {id : String} {name : Str} {apos pos : Pos} {rr : V → List V → Hp → VK → Prop} {g : MOp} (hg : RT1 T rr g) (slot : Slot "str" name id) (ty : typeOf (.builtin id) = pure (.type "method_descriptor")) (rule : MtR X id rr) (ho : SE T X o f) (he : SE T X e fe)
    (hs : starEach [e] X.env = [(false, eval e X.env)] := by rfl) (hbase : attributeBase o name X.env (eval o X.env) = eval o X.env := by rfl) (hline : (apos.endLine == pos.line) = true := by rfl) : SE T X (.Call (.Attribute o name apos) [e] [] pos) (mM1 g f fe) := fun E cn =>
  PEi (pe_m1 slot ty rule (ho E cn) (he E cn) hs hbase hline) fun s H Q h => t1_of hg h
theorem se_m0t {id : String} {name : Str} {apos pos : Pos} {C : Str → Prop} {gv : Str → V} {g : Str → W} (hC : ∀ a, C a) (hg : ∀ ps a, WV ps (g a) (gv a)) (slot : Slot "str" name id) (ty : typeOf (.builtin id) = pure (.type "method_descriptor")) (rule : MtR X id (fun x xs H Q => ∃ a, x = .str a ∧ xs = [] ∧ C a ∧ Q (gv a) H)) (ho : SE T X o f)
    (hbase : attributeBase o name X.env (eval o X.env) = eval o X.env := by rfl) (hline : (apos.endLine == pos.line) = true := by rfl) : SE T X (.Call (.Attribute o name apos) [] [] pos) (mM0 g f) := fun E cn =>
  PEi (pe_m0 slot ty rule (ho E cn) hbase hline) fun s H Q ⟨ps, r, hv, es, vw, gd⟩ => by
  refine ⟨ps, r, hv, es, vw, (Good.bind (R := WV) (S := WV) gd).imp (fun v H1 q => ?_) fun _ _ _ z => z⟩
  obtain ⟨qs, w, h1, st, vw1, wv, g1⟩ := q
  dsimp only at g1
  split at g1
  · rename_i a
    cases (show v = .str a from wv)
    exact ⟨⟨_, rfl⟩, a, rfl, rfl, hC a, Good.now (R := WV) g1 vw1 (hg qs a)⟩
  · exact g1.elim
theorem ro_split : RT1 T (fun x xs H Q => ∃ a b, x = .str a ∧ xs = [.str b] ∧ (b.length == 0) = false ∧ a.length + 2 ≤ sizeLine ∧ rNewStrs (Txt.split a b) H Q) mSplit := by
  intro ps h H a y vy Q E vw wy gd
  unfold mSplit at gd
  split at gd
  · rename_i a' b e1
    cases e1
    cases (show vy = .str b from wy)
    split at gd
    · rename_i hc
      exact ⟨a, b, rfl, rfl, hc.1, sz_ok (by omega), fun p hp => good_new vw gd (fun H' p' e => ⟨_, paired_strs _, e⟩) hp⟩
    · exact gd.elim
  · exact gd.elim
theorem ro_ptn : RT1 T (fun x xs H Q => ∃ a b, x = .str a ∧ xs = [.str b] ∧ (b.length == 0) = false ∧ a.length ≤ sizeLine ∧ ∀ p, H p = none → Q (.ref p) (upd H p (.tup [.str (Txt.partition a b).1, .str (Txt.partition a b).2.1, .str (Txt.partition a b).2.2]))) mPtn := by
  intro ps h H a y vy Q E vw wy gd
  unfold mPtn at gd
  split at gd
  · rename_i a' b e1
    cases e1
    cases (show vy = .str b from wy)
    split at gd
    · rename_i hc
      exact ⟨a, b, rfl, rfl, hc.1, sz_ok (by omega), fun p hp => good_tup vw gd (.cons rfl (.cons rfl (.cons rfl .nil))) hp⟩
    · exact gd.elim
  · exact gd.elim
theorem ro_jn {K : PySem.W.Frag} (hK : T.K = K := by rfl) : RT1 T (fun x xs H Q => ∃ a p, ∃ ys : List Str, x = .str a ∧ xs = [.ref p] ∧ (SqL K H p (ys.map V.str) ∨ SqT K H p (ys.map V.str)) ∧ (ys.map (·.length)).sum + ys.length * a.length ≤ 16777216 ∧ Q (.str (Txt.join a ys)) H) mJn := by
  subst hK
  intro ps h H a y vy Q E vw wy gd
  unfold mJn at gd
  split at gd
  · rename_i a' p e1
    cases e1
    obtain ⟨ad, ea, rfl⟩ := wy
    split at gd
    · rename_i xs e2
      split at gd
      · rename_i ys e3
        split at gd
        · rename_i hl
          obtain ⟨vs, rr, eH⟩ := vw.ob _ ad _ ea e2
          rw [strsW_ok e3 rr] at eH
          exact ⟨a, ad, ys, rfl, rfl, .inl (SqL.of eH), Nat.le_trans hl (by decide), Good.now (R := WV) gd vw rfl⟩
        · exact gd.elim
      · exact gd.elim
    · exact gd.elim
  · exact gd.elim
theorem ro_sw : RT1 T (fun x xs H Q => ∃ a b, x = .str a ∧ xs = [.str b] ∧ Q (.bl (Txt.startswith a b)) H) mSw := by
  intro ps h H a y vy Q E vw wy gd
  unfold mSw at gd
  split at gd
  · rename_i a' b e1
    cases e1
    cases (show vy = .str b from wy)
    exact ⟨a, b, rfl, rfl, Good.now (R := WV) gd vw rfl⟩
  · exact gd.elim
section
variable {T : Tx} {X : Cx} {o e : Expr} {f fe : Ws → Hv → Res W} {apos pos : Pos}
theorem se_split (ho : SE T X o f) (he : SE T X e fe) (hs : starEach [e] X.env = [(false, eval e X.env)] := by rfl) (hbase : attributeBase o "split" X.env (eval o X.env) = eval o X.env := by rfl) (hline : (apos.endLine == pos.line) = true := by rfl) :
    SE T X (.Call (.Attribute o "split" apos) [e] [] pos) (mM1 mSplit f fe) := se_m1t ro_split PySem.F.slot_str_split PySem.F.type_str_split mt_split ho he hs hbase hline
theorem se_ptn (ho : SE T X o f) (he : SE T X e fe) (hs : starEach [e] X.env = [(false, eval e X.env)] := by rfl) (hbase : attributeBase o "partition" X.env (eval o X.env) = eval o X.env := by rfl) (hline : (apos.endLine == pos.line) = true := by rfl) :
    SE T X (.Call (.Attribute o "partition" apos) [e] [] pos) (mM1 mPtn f fe) := se_m1t ro_ptn PySem.F.slot_str_partition PySem.F.type_str_partition mt_partition ho he hs hbase hline
theorem se_jn (ho : SE T X o f) (he : SE T X e fe) (hK : T.K = X.K := by rfl) (hs : starEach [e] X.env = [(false, eval e X.env)] := by rfl) (hbase : attributeBase o "join" X.env (eval o X.env) = eval o X.env := by rfl) (hline : (apos.endLine == pos.line) = true := by rfl) :
    SE T X (.Call (.Attribute o "join" apos) [e] [] pos) (mM1 mJn f fe) := se_m1t (ro_jn hK) PySem.F.slot_str_join PySem.F.type_str_join mt_join ho he hs hbase hline
theorem se_sw (ho : SE T X o f) (he : SE T X e fe) (hs : starEach [e] X.env = [(false, eval e X.env)] := by rfl) (hbase : attributeBase o "startswith" X.env (eval o X.env) = eval o X.env := by rfl) (hline : (apos.endLine == pos.line) = true := by rfl) :
    SE T X (.Call (.Attribute o "startswith" apos) [e] [] pos) (mM1 mSw f fe) := se_m1t ro_sw PySem.F.slot_str_startswith PySem.F.type_str_startswith mt_startswith ho he hs hbase hline
theorem se_ascii (ho : SE T X o f) (hbase : attributeBase o "isascii" X.env (eval o X.env) = eval o X.env := by rfl) (hline : (apos.endLine == pos.line) = true := by rfl) : SE T X (.Call (.Attribute o "isascii" apos) [] [] pos) (mM0 mAscii f) :=
  se_m0t (fun _ => trivial) (fun _ _ => rfl) PySem.F.slot_str_isascii PySem.F.type_str_isascii mt_isascii ho hbase hline
theorem se_digit (ho : SE T X o f) (hbase : attributeBase o "isdigit" X.env (eval o X.env) = eval o X.env := by rfl) (hline : (apos.endLine == pos.line) = true := by rfl) : SE T X (.Call (.Attribute o "isdigit" apos) [] [] pos) (mM0 mDigit f) :=
  se_m0t (fun _ => trivial) (fun _ _ => rfl) PySem.F.slot_str_isdigit PySem.F.type_str_isdigit mt_isdigit ho hbase hline
theorem se_alpha (ho : SE T X o f) (hbase : attributeBase o "isalpha" X.env (eval o X.env) = eval o X.env := by rfl) (hline : (apos.endLine == pos.line) = true := by rfl) : SE T X (.Call (.Attribute o "isalpha" apos) [] [] pos) (mM0 mAlpha f) :=
  se_m0t (fun _ => trivial) (fun _ _ => rfl) PySem.F.slot_str_isalpha PySem.F.type_str_isalpha mt_isalpha ho hbase hline
end
/-! ### int(text) -/
def mIntT : MFn := fun ws h => match ws with
  | [.str a] => (match PySem.intText? a with
    | some n => if a.length ≤ 640 then .val (.int n) h else .bad
    | none => .bad)
  | _ => .bad
theorem rc_intT : RC T (fun xs H Q => ∃ a n, xs = [.str a] ∧ PySem.intText? a = some n ∧ a.length ≤ 640 ∧ Q (.int n) H) mIntT := by
  intro ps h H ws vs Q E vw wv gd
  unfold mIntT at gd
  split at gd
  · obtain ⟨v, rfl, e⟩ := one_of wv
    cases e
    split at gd
    · rename_i n en
      split at gd
      · rename_i hl
        exact ⟨_, n, rfl, en, hl, Good.now gd vw rfl⟩
      · exact gd.elim
    · exact gd.elim
  · exact gd.elim
/-! ### slices of texts -/
def mCutS (w : W) (lo hi : Option Int) (h : Hv) : Res W := match w with
  | .str z => if z.length ≤ 90000 then .val (.str (cutS z lo hi)) h else .bad
  | _ => .bad
def mSlS (f : Ws → Hv → Res W) (lo hi : Ws → Hv → Res (Option Int)) : Ws → Hv → Res W := fun r h => (f r h).bind fun w h1 => (lo r h1).bind fun l h2 => (hi r h2).bind fun u h3 => mCutS w l u h3
theorem se_sliceS {lo hi : Option Expr} {fl fh : Ws → Hv → Res (Option Int)} {p2 pos : Pos} (he : SE T X e f) (hl : SO T X lo fl) (hh : SO T X hi fh) : SE T X (.Subscript e (.Slice lo hi none p2) pos) (mSlS f fl fh) := fun E cn => PEi (pe_slice sl_str (he E cn) (hl E cn) (hh E cn)) fun s H Q ⟨ps, r, hv, es, vw, gd⟩ => by
  refine ⟨ps, r, hv, es, vw, (Good.bind (R := WV) (S := WV) gd).imp (fun v H1 q => ?_) fun _ _ _ z => z⟩
  obtain ⟨qs, w, h1, st, vw1, wv, g1⟩ := q
  refine ⟨qs, r, h1, es.mono st.pre, vw1, (Good.bind (R := OEq2) (S := WV) g1).imp (fun l H2 q2 => ?_) fun _ _ _ z => z⟩
  obtain ⟨rs, l', h2, st2, vw2, e2, g2⟩ := q2
  cases e2
  refine ⟨rs, r, h2, (es.mono st.pre).mono st2.pre, vw2, (Good.bind (R := OEq2) (S := WV) g2).imp (fun u H3 q3 => ?_) fun _ _ _ z => z⟩
  obtain ⟨ts, u', h3, st3, vw3, e3, g3⟩ := q3
  cases e3
  dsimp only at g3
  unfold mCutS at g3
  split at g3
  · rename_i z
    cases (show v = .str z from wv)
    split at g3
    · rename_i hl
      exact ⟨z, rfl, sz_ok (by omega), Good.now (R := WV) g3 vw3 rfl⟩
    · exact g3.elim
  · exact g3.elim
/-! ### f-strings -/
def mFmt (f : Ws → Hv → Res W) : Ws → Hv → Res W := fun r h => (f r h).bind fun x h1 => match x with
  | .str y => if y.length ≤ 90000 then .val (.str y) h1 else .bad
  | .int i => if i.natAbs.log2 < 1920 then .val (.str (Str.ofString (toString i))) h1 else .bad
  | _ => .bad
theorem se_fmt {pos : Pos} (he : SE T X e f) : SE T X (.FormattedValue e (-1) none pos) (mFmt f) := fun E cn => PEi (pe_fmt (he E cn)) fun s H Q ⟨ps, r, hv, es, vw, gd⟩ => by
  refine ⟨ps, r, hv, es, vw, (Good.bind (R := WV) (S := WV) gd).imp (fun v H1 q => ?_) fun _ _ _ z => z⟩
  obtain ⟨qs, w, h1, st, vw1, wv, g1⟩ := q
  dsimp only at g1
  split at g1
  · rename_i y
    split at g1
    · rename_i hl
      exact .inl ⟨y, wv, sz_ok (by omega), Good.now (R := WV) g1 vw1 rfl⟩
    · exact g1.elim
  · rename_i i
    split at g1
    · rename_i hl
      exact .inr ⟨i, wv, hl, Good.now (R := WV) g1 vw1 rfl⟩
    · exact g1.elim
  · exact g1.elim
def mFs : List (Ws → Hv → Res W) → Str → Ws → Hv → Res W
  | [], acc => fun _ h => .val (.str acc) h
  | f :: fs, acc => fun r h => (f r h).bind fun x h1 => match x with
    | .str y => if (acc ++ y).length ≤ 90000 then mFs fs (acc ++ y) r h1 else .bad
    | _ => .bad
def SJ (T : Tx) (X : Cx) (es : List Expr) (fs : List (Ws → Hv → Res W)) : Prop := ∀ E, Cn X E → PJ X es (fs.map (tE T E))
theorem sj_nil : SJ T X [] [] := fun _ _ => .nil
theorem sj_cons {es : List Expr} {fs : List (Ws → Hv → Res W)} (h : SE T X e f) (t : SJ T X es fs) : SJ T X (e :: es) (f :: fs) := fun E cn => .cons (h E cn) (t E cn)
theorem tJs_of {E : WX} : ∀ (fs : List (Ws → Hv → Res W)) (acc : Str) (s : L2.St) (H : Hp) (Q : VK) (ps : Pl) (r : Ws) (h : Hv), ES ps r s → View T ps h H → Good T WV ps H (mFs fs acc r h) Q (fun c d H' => E c d s H') → tJs (fs.map (tE T E)) acc s H fun out H1 => Q (.str out) H1
  | [], acc, s, H, Q, ps, r, h, es, vw, gd => Good.now (R := WV) gd vw rfl
  | f :: fs, acc, s, H, Q, ps, r, h, es, vw, gd => by
    refine ⟨ps, r, h, es, vw, (Good.bind (R := WV) (S := WV) gd).imp (fun v H1 q => ?_) fun _ _ _ z => z⟩
    obtain ⟨qs, w, h1, st, vw1, wv, g1⟩ := q
    dsimp only at g1
    split at g1
    · rename_i y
      split at g1
      · rename_i hl
        exact ⟨y, wv, sz_ok (by omega), tJs_of fs (acc ++ y) s H1 Q qs r h1 (es.mono st.pre) vw1 g1⟩
      · exact g1.elim
    · exact g1.elim
theorem se_joined {v1 v2 : Expr} {rest : List Expr} {fs : List (Ws → Hv → Res W)} {pos : Pos} (h : SJ T X (v1 :: v2 :: rest) fs) : SE T X (.JoinedStr (v1 :: v2 :: rest) pos) (mFs fs Str.empty) := fun E cn => PEi (pe_joined (h E cn)) fun s H Q ⟨ps, r, hv, es, vw, gd⟩ => tJs_of fs Str.empty s H Q ps r hv es vw gd
end
end VL
end
section
/-! walks over texts, in, text * int, upper, comprehensions with two names, a, b, c = .. -/
namespace VL
open PySem L2 PySem.Spec PyProof.Rows
/-! ### for c in text -/
def nxStr (z : Str) : Nat → Hv → Nxt := fun i h => match z.cps[i]? with
  | some c => .item (.str ⟨#[c]⟩) h
  | none => .stop
def srcStr (w : W) (h : Hv) : Res Src := match w with
  | .str z => .val ⟨z.length + 1, nxStr z⟩ h
  | _ => .bad
def mSrcS (f : Ws → Hv → Res W) : Ws → Hv → Res Src := fun r h => (f r h).bind srcStr
theorem sim_str {T : Tx} {ps : Pl} {z : Str} {n : Nat} : SimI T ps ⟨n, nxStr z⟩ (Its z) := by
  intro qs h H i pre vw
  show NxOk T qs H (Its z) i (nxStr z i h)
  unfold nxStr
  split
  · rename_i c e
    refine ⟨?_, fun x H' y => ?_⟩
    · show i < z.cps.size
      exact (Array.getElem?_eq_some_iff.mp e).1
    · obtain ⟨rfl, c', e', rfl⟩ := y
      rw [e] at e'
      cases e'
      exact ⟨qs, Step.refl _ _, vw, rfl⟩
  · rename_i e
    exact Array.getElem?_eq_none_iff.mp e
theorem si_str {T : Tx} {X : Cx} {tg e : Expr} {f : Ws → Hv → Res W} (he : SE T X e f) : SI T X tg e (mSrcS f) := fun E cn => ⟨fun pins s σ H R I h => (pi_str (he E cn)).run pins s σ H R I (by
  obtain ⟨ps, r, hv, es, vw, gd⟩ := h
  refine ⟨ps, r, hv, es, vw, (Good.bind (R := WV) (S := SimI T) gd).imp (fun v H1 q => ?_) fun _ _ _ z => z⟩
  obtain ⟨qs, w, h1, st, vw1, wv, g1⟩ := q
  unfold srcStr at g1
  split at g1
  · exact ⟨_, wv, Good.now (R := SimI T) g1 vw1 sim_str⟩
  · exact g1.elim)⟩
/-! ### one sign in a text; a flat value in a list -/
def mInSg (neg : Bool) : MOp := fun x y h => match x, y with
  | .str a, .str z => (match a.cps.toList with
    | [c] => .val (.bl (if neg then !decide (c ∈ z.cps.toList) else decide (c ∈ z.cps.toList))) h
    | _ => .bad)
  | _, _ => .bad
theorem ro_inSg {T : Tx} (neg : Bool) : RO T (fun x y H Q => ∃ (c : Nat) (z : Str), x = .str ⟨#[c]⟩ ∧ y = .str z ∧ Q (.bl (if neg then !decide (c ∈ z.cps.toList) else decide (c ∈ z.cps.toList))) H) (mInSg neg) := by
  intro ps h H x y vx vy Q E vw wx wy gd
  unfold mInSg at gd
  split at gd
  · rename_i a z
    split at gd
    · rename_i c e
      have ea : a = ⟨#[c]⟩ := Str.ext' (Array.toList_inj.mp e)
      subst ea
      exact ⟨c, z, wx, wy, Good.now (R := WV) gd vw rfl⟩
    · exact gd.elim
  · exact gd.elim
def flatW : W → Option V
  | .non => some .non
  | .bl b => some (.bl b)
  | .int i => some (.int i)
  | .str x => some (.str x)
  | _ => none
def flatsW : List W → Option (List V)
  | [] => some []
  | x :: xs => match flatW x, flatsW xs with
    | some v, some vs => some (v :: vs)
    | _, _ => none
theorem flatW_ok {ps : Pl} {w : W} {u v : V} (e : flatW w = some u) (wv : WV ps w v) : v = u ∧ flatV v = true := by
  cases w <;> first | cases e; done | (cases e; cases wv; exact ⟨rfl, rfl⟩)
theorem flatsW_ok {ps : Pl} : ∀ {ws : List W} {us vs : List V}, flatsW ws = some us → Paired (WV ps) ws vs → vs = us ∧ vs.all flatV = true
  | [], _, _, e, .nil => by cases e; exact ⟨rfl, rfl⟩
  | w :: ws, us, v :: vs, e, .cons a t => by
    unfold flatsW at e
    split at e
    · rename_i x xs e1 e2
      cases e
      obtain ⟨rfl, f⟩ := flatW_ok e1 a
      obtain ⟨rfl, g⟩ := flatsW_ok e2 t
      exact ⟨rfl, by rw [List.all_cons, f, g]; rfl⟩
    · cases e
def mInL (neg : Bool) : MOp := fun x y h => match y with
  | .ref p => (match h[p]? with
    | some (.lst xs) => (match flatW x, flatsW xs with
      | some v, some vs => .val (.bl (if neg then !inV v vs else inV v vs)) h
      | _, _ => .bad)
    | _ => .bad)
  | _ => .bad
theorem ro_inL {T : Tx} (neg : Bool) {K : PySem.W.Frag} : RO T (rIn K neg) (mInL neg) := by
  intro ps h H x y vx vy Q E vw wx wy gd
  unfold mInL at gd
  split at gd
  · rename_i p
    obtain ⟨a, ea, rfl⟩ := wy
    split at gd
    · rename_i xs e1
      split at gd
      · rename_i v vs e2 e3
        obtain ⟨us, rr, eH⟩ := vw.ob _ a _ ea e1
        obtain ⟨rfl, f⟩ := flatW_ok e2 wx
        obtain ⟨rfl, g⟩ := flatsW_ok e3 rr
        exact ⟨a, _, rfl, .inl (SqL.of eH), f, g, Good.now (R := WV) gd vw rfl⟩
      · exact gd.elim
    · exact gd.elim
  · exact gd.elim
/-! ### text * int -/
def timesT (x : Str) (n : Int) : Str := ⟨(List.replicate n.toNat x.cps).foldl (· ++ ·) #[]⟩
theorem fold_len (a : Array Nat) : ∀ (n : Nat) (acc : Array Nat), ((List.replicate n a).foldl (· ++ ·) acc).size = acc.size + n * a.size
  | 0, acc => by simp
  | n + 1, acc => by
    rw [List.replicate_succ, List.foldl_cons, fold_len a n, Array.size_append, Nat.succ_mul]
    omega
theorem times_len (z : Str) (n : Int) : (timesT z n).length = n.toNat * z.length := by
  show ((List.replicate n.toNat z.cps).foldl (· ++ ·) #[]).size = n.toNat * z.cps.size
  rw [fold_len]
  simp
def rTimes : R2 := fun x y H Q => ∃ (z : Str) (n : Int), x = .str z ∧ y = .int n ∧ z.length = 1 ∧ 2 ≤ n ∧ n ≤ 10000 ∧ Q (.str (timesT z n)) H
theorem op_times {X : Cx} : OpR X (binaryOp .Mult) rTimes := by
  (intro pins s σ H x y v u Q I rx ry h)
  obtain ⟨z, n, rfl, rfl, hz, h2, h3, q⟩ := h
  obtain ⟨t, rfl⟩ := rx
  obtain ⟨t2, rfl⟩ := ry
  have c2 : (n == 1 || z.length == 0) = false := by
    have n1 : (n == 1) = false := by rw [beq_eq_false_iff_ne]; omega
    rw [n1, hz]
    rfl
  refine P.mul_str ?_ (fun _ _ => ?_) (fun _ _ => ?_) ?_
  · rw [decide_eq_false (by omega), decide_eq_false (by omega)]
    rfl
  · have e : (2 : Int) ^ 63 - 1 = 9223372036854775807 := by decide
    rw [hz, e]
    have : (9223372036854775807 : Int) / n ≥ 1 := by
      have := Int.le_ediv_of_mul_le (a := 1) (b := 9223372036854775807) (c := n) (by omega) (by omega)
      exact this
    show ¬ ((1 : Nat) : Int) > _
    omega
  · have hl : z.length * n.toNat ≤ 10000 := by rw [hz]; omega
    unfold PySem.Builtin.Str.tooLong
    exact decide_eq_false (by have := sz_ok (n := z.length * n.toNat) (by omega); omega)
  · rw [if_neg (by omega), c2]
    refine ⟨?_, .str (timesT z n), H, I.tok _, ⟨_, rfl⟩, q⟩
    have l := times_len z n
    have e : (timesT z n).length = n.toNat * z.length := l
    rw [hz] at e
    exact sz_ok (n := (timesT z n).length) (by omega)
def mTimes : MOp := fun x y h => match x, y with
  | .str z, .int n => if z.length = 1 ∧ 2 ≤ n ∧ n ≤ 10000 then .val (.str (timesT z n)) h else .bad
  | _, _ => .bad
theorem ro_times {T : Tx} : RO T rTimes mTimes := by
  intro ps h H x y vx vy Q E vw wx wy gd
  unfold mTimes at gd
  split at gd
  · rename_i z n
    split at gd
    · rename_i c
      exact ⟨z, n, wx, wy, c.1, c.2.1, c.2.2, Good.now (R := WV) gd vw rfl⟩
    · exact gd.elim
  · exact gd.elim
/-! ### text.upper() -/
def mUpper (f : Ws → Hv → Res W) : Ws → Hv → Res W := fun r h => (f r h).bind fun x h1 => match x with
  | .str a => if a.length ≤ 90000 then .val (.str (Txt.upper a)) h1 else .bad
  | _ => .bad
theorem se_upper {T : Tx} {X : Cx} {o : Expr} {f : Ws → Hv → Res W} {apos pos : Pos} (ho : SE T X o f) (hbase : attributeBase o "upper" X.env (eval o X.env) = eval o X.env := by rfl) (hline : (apos.endLine == pos.line) = true := by rfl) : SE T X (.Call (.Attribute o "upper" apos) [] [] pos) (mUpper f) := fun E cn =>
  PEi (pe_upper (ho E cn) hbase hline) fun s H Q ⟨ps, r, hv, es, vw, gd⟩ => by
  refine ⟨ps, r, hv, es, vw, (Good.bind (R := WV) (S := WV) gd).imp (fun v H1 q => ?_) fun _ _ _ z => z⟩
  obtain ⟨qs, w, h1, st, vw1, wv, g1⟩ := q
  dsimp only at g1
  split at g1
  · rename_i a
    cases (show v = .str a from wv)
    split at g1
    · rename_i c
      exact ⟨⟨_, rfl⟩, a, rfl, rfl, Nat.le_trans c (by decide), Good.now (R := WV) g1 vw1 rfl⟩
    · exact g1.elim
  · exact g1.elim
/-! ### a, b, c = .. -/
def mPar3 (i j l : Nat) (g : Ws → Hv → Res (List W)) : MS := fun r h => (g r h).andS r fun ws h1 => match ws with
  | [u, v, w] => .nx (((r.set i (some u)).set j (some v)).set l (some w)) h1
  | _ => .bad
theorem ss_par3 {T : Tx} {X : Cx} (i j l : Nat) {x y z : Str} {ea eb ec : Expr} {g : Ws → Hv → Res (List W)} {px py pz pt pos : Pos} {kt k2 pt2} (hN : X.N.Nodup) (ha : SA T X [ea, eb, ec] g) (hc : X.calm = true := by rfl) (hi : X.N[i]? = some x := by rfl) (hj : X.N[j]? = some y := by rfl) (hl : X.N[l]? = some z := by rfl) (hij : i ≠ j := by decide) (hil : i ≠ l := by decide) (hjl : j ≠ l := by decide)
    (hx : X.env.scope.names.lookup x = some .local := by rfl) (hy : X.env.scope.names.lookup y = some .local := by rfl) (hz : X.env.scope.names.lookup z = some .local := by rfl)
    (hw : swappedStores [.Tuple [.Name x px, .Name y py, .Name z pz] kt pt] (.Tuple [ea, eb, ec] k2 pt2) X.env = pure (some [x, y, z]) := by rfl)
    (hs : swapsWithSole [.Tuple [.Name x px, .Name y py, .Name z pz] kt pt] (.Tuple [ea, eb, ec] k2 pt2) pos.line X.env = pure false := by rfl) :
    SS T X (.Assign [.Tuple [.Name x px, .Name y py, .Name z pz] kt pt] (.Tuple [ea, eb, ec] k2 pt2) pos) (mPar3 i j l g) := fun E cn => PSi (ps_par3 hc hN hi hj hl hij hil hjl hx hy hz (ha E cn) hw hs) fun D s H ⟨ps, r, hv, es, vw, gd⟩ => by
  refine ⟨ps, r, hv, es, vw, (good_andS (R := WVs) es gd).imp (fun v H1 q => ?_) fun _ _ _ z => z⟩
  obtain ⟨qs, w, h1, st, vw1, wv, es1, g1⟩ := q
  try dsimp only at g1
  split at g1
  · cases wv with
    | cons a t =>
      obtain ⟨v2, v3, rfl, b, c⟩ := two_args t
      exact ⟨_, v2, v3, rfl, g1 qs H1 _ (Step.refl _ _) vw1 (((es1.set i a).set j b).set l c)⟩
  · exact g1.elim
/-! ### [.. for x, y in .. if ..] -/
def setT (i j : Nat) (w : W) (r : Ws) : Option Ws := match w with
  | .tup [a, b] => some ((r.set i (some a)).set j (some b))
  | _ => none
def compT (nx : Nat → Hv → Nxt) (i j : Nat) (t : Ws → Hv → Res Bool) (f : Ws → Hv → Res W) (p : Nat) : Nat → Nat → Ws → Hv → Res W
  | 0, _, _, _ => .bad
  | n + 1, k, r, h => match nx k h with
    | .stop => .val (.ref p) h
    | .bad => .bad
    | .item w h1 => (match setT i j w r with
      | none => .bad
      | some r1 => (noX (t r1 h1)).bind fun b h2 => if b then ((noX (f r1 h2)).bind fun y h3 => match h3[p]? with
        | some (.lst acc) => if acc.length < 100000 then compT nx i j t f p n (k + 1) r (h3.set p (.lst (acc ++ [y]))) else .bad
        | _ => .bad) else compT nx i j t f p n (k + 1) r h2)
def mLcT (src : Ws → Hv → Res Src) (i j : Nat) (t : Ws → Hv → Res Bool) (f : Ws → Hv → Res W) : Ws → Hv → Res W := fun r h => (src r h).bind fun S h1 => compT S.nx i j t f h1.length S.n 0 r (h1 ++ [.lst []])
section
variable {T : Tx} {X : Cx} {elt iter : Expr} {ifs : List Expr} {scope : Scope} {pos px py pt : Pos} {src : Ws → Hv → Res Src} {t : Ws → Hv → Res Bool} {f : Ws → Hv → Res W} {x y : Str}
theorem lcT_read {K : PySem.W.Frag} (hK : T.K = K) (i j : Nat) (hij : i ≠ j) {E : WX} {s : L2.St} {H : Hp} {Q : VK} {tt : TT} (htt : ∀ s H Q, tT T No t s H Q → tt s H Q) (h : tE T E (mLcT src i j t f) s H Q) : tLc (tI T E src) (gTup K 2 (gCons (gName i) (gCons (gName j) gNil))) tt (tE T No f) [i, j] s H Q := by
  subst hK
  obtain ⟨ps, r, hv, es, vw, gd⟩ := h
  refine ⟨ps, r, hv, es, vw, (Good.bind (R := SimI T) (S := WV) gd).imp (fun J H1 q => ?_) fun _ _ _ z => z⟩
  obtain ⟨qs, S, h1, st, vw1, sim, g1⟩ := q
  intro D hD
  obtain ⟨vw2, st2, e2⟩ := vw1.alloc hD (o := .lst []) (u := .lst []) ⟨[], .nil, upd_same⟩
  have pq := st2.pre
  refine ⟨fun k m H => ∃ ps h, Pl.Le (qs ++ [D]) ps ∧ ES ps r s ∧ View T ps h H ∧ Good T WV ps H (compT S.nx i j t f h1.length m k r h) Q (fun c d H' => E c d s H'), ⟨S.n, qs ++ [D], _, Pl.Le.refl _, (es.mono st.pre).mono pq, vw2, Good.step g1 st2⟩, ?_⟩
  rintro k m H3 ⟨rs, h3, pre, es3, vw3, g3⟩
  cases m with
  | zero => exact g3.elim
  | succ m =>
    have ok := sim rs h3 H3 k (pq.trans pre) vw3
    unfold compT at g3
    have eD := at_pre pre e2
    cases q : S.nx k h3 with
    | bad => rw [q] at g3; exact g3.elim
    | stop =>
      rw [q] at g3 ok
      exact .inl ⟨ok, g3 rs H3 _ (Step.refl _ _) vw3 ⟨D, eD, rfl⟩⟩
    | item w h4 =>
      rw [q] at g3 ok
      refine .inr ⟨ok.1, fun H => ∃ ps h, Pl.Le (qs ++ [D]) ps ∧ ES ps r s ∧ View T ps h H ∧ Good T WV ps H (compT S.nx i j t f h1.length m (k + 1) r h) Q (fun c d H' => E c d s H'), fun H' z => ⟨m, Nat.lt_succ_self m, z⟩, fun v H4 y => ?_⟩
      obtain ⟨ts, st4, vw4, wv⟩ := ok.2 v H4 y
      have g4 := g3.step st4
      dsimp only at g4
      unfold setT at g4
      split at g4
      · rename_i q4
        exact g4.elim
      · rename_i r1 q4
        split at q4
        · rename_i a b
          cases q4
          obtain ⟨ad, vs9, rfl, ht, rr9⟩ := wv.tup_of
          obtain ⟨va, vb, rfl, wa, wb⟩ := two_args rr9
          have es4 : ES ts ((r.set i (some a)).set j (some b)) (((wipe s [i, j]).set i (some va)).set j (some vb)) := by
            show ES ts ((r.set i (some a)).set j (some b)) ((((s.set j none).set i none).set i (some va)).set j (some vb))
            rw [List.set_set, List.set_comm none (some va) (Ne.symm hij), List.set_set]
            exact ((es3.mono st4.pre).set i wa).set j wb
          have wi : wipe (((wipe s [i, j]).set i (some va)).set j (some vb)) [i, j] = wipe s [i, j] := by
            show (((((s.set j none).set i none).set i (some va)).set j (some vb)).set j none).set i none = (s.set j none).set i none
            rw [List.set_set, List.set_set, List.set_comm (some va) none hij, List.set_set, List.set_set]
          refine ⟨ad, [va, vb], rfl, (vw4.tup ad _ ht).sq, rfl, va, [vb], rfl, vb, [], rfl, rfl, wi, htt _ _ _ ⟨ts, _, h4, es4, vw4, (good_noX (R := BEq2) (S := WV) g4).imp (fun b9 H5 q5 => ?_) fun _ _ _ z => z⟩⟩
          obtain ⟨us, b', h5, st5, vw5, eb, g5⟩ := q5
          cases eb
          have es5 := es4.mono st5.pre
          have esr := (es3.mono st4.pre).mono st5.pre
          have pre5 := (pre.trans st4.pre).trans st5.pre
          cases b9 with
          | false => exact iteF ⟨us, h5, pre5, esr, vw5, g5⟩
          | true =>
            refine iteT ⟨us, _, h5, es5, vw5, (good_noX (R := WV) (S := WV) g5).imp (fun yv H6 q6 => ?_) fun _ _ _ z => z⟩
            obtain ⟨vs, wy, h6, st6, vw6, wvy, g6⟩ := q6
            dsimp only at g6
            split at g6
            · rename_i acc e6
              split at g6
              · rename_i hl
                have eD6 := at_pre (pre5.trans st6.pre) e2
                obtain ⟨av, rr, eH⟩ := vw6.ob _ D _ eD6 e6
                have l1 : acc.length = av.length := rr.length
                obtain ⟨vw7, st7⟩ := vw6.put eD6 (o := .lst (acc ++ [wy])) (u := .lst (av ++ [yv])) ⟨_, paired_app rr (.cons wvy .nil), upd_same⟩ (notX eH)
                exact ⟨av, eH, Nat.lt_of_lt_of_le (l1 ▸ hl) (by decide), vs, _, pre5.trans st6.pre, esr.mono st6.pre, vw7, Good.step g6 st7⟩
              · exact g6.elim
            · exact g6.elim
        · cases q4
theorem se_lcTIf (i j : Nat) {c : Expr} {kt : Nat} (hN : X.N.Nodup) (hi : SI T X (.Tuple [.Name x px, .Name y py] kt pt) iter src) (ok : BlkOk X.N X.env.scope scope [(x, i), (y, j)]) (hx : ∀ (s : Shared) (H : Hp) (C : Addr) (cl : List (Str × Addr)) (fp : List Addr), PG (X.blk s H scope (compEnvC scope cl C X.env) fp) (.Tuple [.Name x px, .Name y py] kt pt) (gTup X.K 2 (gCons (gName i) (gCons (gName j) gNil))))
    (ht : ∀ (s : Shared) (H : Hp) (C : Addr) (cl : List (Str × Addr)) (fp : List Addr), STt T (X.blk s H scope (compEnvC scope cl C X.env) fp) c t)
    (he : ∀ (s : Shared) (H : Hp) (C : Addr) (cl : List (Str × Addr)) (fp : List Addr), SE T (X.blk s H scope (compEnvC scope cl C X.env) fp) elt f) (hK : T.K = X.K := by rfl) (hij : i ≠ j := by decide) (hc : X.calm = true := by rfl) (hs : ∀ x, foldedSetIterable iter X.env x = pure x := by intro _; rfl) :
    SE T X (.ListComp elt [⟨.Tuple [.Name x px, .Name y py] kt pt, iter, [c], 0⟩] scope pos) (mLcT src i j t f) := fun E cn => PEi (pe_lc (own := [(x, i), (y, j)]) hc hN (hi E cn) ok hx (fun s H C cl fp => pts_one (ht s H C cl fp No cn_no)) (fun s H C cl fp => he s H C cl fp No cn_no) hs) fun s H Q h => lcT_read hK i j hij (fun _ _ _ z => z) h
theorem se_lcT (i j : Nat) {kt : Nat} (hN : X.N.Nodup) (hi : SI T X (.Tuple [.Name x px, .Name y py] kt pt) iter src) (ok : BlkOk X.N X.env.scope scope [(x, i), (y, j)]) (hx : ∀ (s : Shared) (H : Hp) (C : Addr) (cl : List (Str × Addr)) (fp : List Addr), PG (X.blk s H scope (compEnvC scope cl C X.env) fp) (.Tuple [.Name x px, .Name y py] kt pt) (gTup X.K 2 (gCons (gName i) (gCons (gName j) gNil))))
    (he : ∀ (s : Shared) (H : Hp) (C : Addr) (cl : List (Str × Addr)) (fp : List Addr), SE T (X.blk s H scope (compEnvC scope cl C X.env) fp) elt f) (hK : T.K = X.K := by rfl) (hij : i ≠ j := by decide) (hc : X.calm = true := by rfl) (hs : ∀ x, foldedSetIterable iter X.env x = pure x := by intro _; rfl) :
    SE T X (.ListComp elt [⟨.Tuple [.Name x px, .Name y py] kt pt, iter, [], 0⟩] scope pos) (mLcT src i j mYes f) := fun E cn => PEi (pe_lc (own := [(x, i), (y, j)]) hc hN (hi E cn) ok hx (fun _ _ _ _ _ => pts_nil) (fun s H C cl fp => he s H C cl fp No cn_no) hs) fun s H Q h => lcT_read hK i j hij (fun _ _ _ z => yes_read z) h
end
end VL
end
section
/-! dict comprehensions, all(list) -/
namespace VL
open PySem L2 PySem.Spec PyProof.Rows
/-! ### {k: v for x in .. if ..} -/
def compD (nx : Nat → Hv → Nxt) (i : Nat) (t : Ws → Hv → Res Bool) (fk fv : Ws → Hv → Res W) (p : Nat) : Nat → Nat → Ws → Hv → Res W
  | 0, _, _, _ => .bad
  | n + 1, k, r, h => match nx k h with
    | .stop => .val (.ref p) h
    | .bad => .bad
    | .item w h1 => (noX (t (r.set i (some w)) h1)).bind fun b h2 => if b then ((noX (fk (r.set i (some w)) h2)).bind fun y h3 => (noX (fv (r.set i (some w)) h3)).bind fun z h4 => match keyW y, h4[p]? with
        | some key, some (.dic acc) => if acc.length < 100000 then compD nx i t fk fv p n (k + 1) r (h4.set p (.dic (putW2 acc key z))) else .bad
        | _, _ => .bad) else compD nx i t fk fv p n (k + 1) r h2
def mDc (src : Ws → Hv → Res Src) (i : Nat) (t : Ws → Hv → Res Bool) (fk fv : Ws → Hv → Res W) : Ws → Hv → Res W := fun r h => (src r h).bind fun S h1 => compD S.nx i t fk fv h1.length S.n 0 r (h1 ++ [.dic []])
section
variable {T : Tx} {X : Cx} {kx vx iter : Expr} {ifs : List Expr} {scope : Scope} {pos px : Pos} {src : Ws → Hv → Res Src} {t : Ws → Hv → Res Bool} {fk fv : Ws → Hv → Res W} {x : Str}
theorem dc_read (i : Nat) {E : WX} {s : L2.St} {H : Hp} {Q : VK} {tt : TT} (htt : ∀ s H Q, tT T No t s H Q → tt s H Q) (h : tE T E (mDc src i t fk fv) s H Q) : tDc (tI T E src) (gName i) tt (tE T No fk) (tE T No fv) [i] s H Q := by
  obtain ⟨ps, r, hv, es, vw, gd⟩ := h
  refine ⟨ps, r, hv, es, vw, (Good.bind (R := SimI T) (S := WV) gd).imp (fun J H1 q => ?_) fun _ _ _ z => z⟩
  obtain ⟨qs, S, h1, st, vw1, sim, g1⟩ := q
  intro D hD
  obtain ⟨vw2, st2, e2⟩ := vw1.alloc hD (o := .dic []) (u := .dK []) ⟨[], .nil, upd_same⟩
  have pq := st2.pre
  refine ⟨fun k m H => ∃ ps h, Pl.Le (qs ++ [D]) ps ∧ ES ps r s ∧ View T ps h H ∧ Good T WV ps H (compD S.nx i t fk fv h1.length m k r h) Q (fun c d H' => E c d s H'), ⟨S.n, qs ++ [D], _, Pl.Le.refl _, (es.mono st.pre).mono pq, vw2, Good.step g1 st2⟩, ?_⟩
  rintro k m H3 ⟨rs, h3, pre, es3, vw3, g3⟩
  cases m with
  | zero => exact g3.elim
  | succ m =>
    have ok := sim rs h3 H3 k (pq.trans pre) vw3
    unfold compD at g3
    have eD := at_pre pre e2
    cases q : S.nx k h3 with
    | bad => rw [q] at g3; exact g3.elim
    | stop =>
      rw [q] at g3 ok
      exact .inl ⟨ok, g3 rs H3 _ (Step.refl _ _) vw3 ⟨D, eD, rfl⟩⟩
    | item w h4 =>
      rw [q] at g3 ok
      refine .inr ⟨ok.1, fun H => ∃ ps h, Pl.Le (qs ++ [D]) ps ∧ ES ps r s ∧ View T ps h H ∧ Good T WV ps H (compD S.nx i t fk fv h1.length m (k + 1) r h) Q (fun c d H' => E c d s H'), fun H' z => ⟨m, Nat.lt_succ_self m, z⟩, fun v H4 y => ?_⟩
      obtain ⟨ts, st4, vw4, wv⟩ := ok.2 v H4 y
      have g4 := g3.step st4
      dsimp only at g4
      have es4 : ES ts (r.set i (some w)) ((wipe s [i]).set i (some v)) := by
        show ES ts (r.set i (some w)) ((s.set i none).set i (some v))
        rw [List.set_set]
        exact (es3.mono st4.pre).set i wv
      refine ⟨?_, htt _ _ _ ⟨ts, r.set i (some w), h4, es4, vw4, (good_noX (R := BEq2) (S := WV) g4).imp (fun b H5 q5 => ?_) fun _ _ _ z => z⟩⟩
      · show (((s.set i none).set i (some v)).set i none) = s.set i none
        rw [List.set_set, List.set_set]
      · obtain ⟨us, b', h5, st5, vw5, eb, g5⟩ := q5
        cases eb
        have es5 := es4.mono st5.pre
        have esr := (es3.mono st4.pre).mono st5.pre
        have pre5 := (pre.trans st4.pre).trans st5.pre
        cases b with
        | false => exact iteF ⟨us, h5, pre5, esr, vw5, g5⟩
        | true =>
          refine iteT ⟨us, r.set i (some w), h5, es5, vw5, (good_noX (R := WV) (S := WV) g5).imp (fun yv H6 q6 => ?_) fun _ _ _ z => z⟩
          obtain ⟨vs, wy, h6, st6, vw6, wvy, g6⟩ := q6
          refine ⟨vs, r.set i (some w), h6, es5.mono st6.pre, vw6, (good_noX (R := WV) (S := WV) g6).imp (fun zv H7 q7 => ?_) fun _ _ _ z => z⟩
          obtain ⟨ws, wz, h7, st7, vw7, wvz, g7⟩ := q7
          dsimp only at g7
          split at g7
          · rename_i key acc ek e7
            split at g7
            · rename_i hl
              have ey := keyW_v ek (wvy.mono st7.pre)
              have eD7 := at_pre ((pre5.trans st6.pre).trans st7.pre) e2
              obtain ⟨av, rr, eH⟩ := vw7.ob _ D _ eD7 e7
              have l1 : acc.length = av.length := rr.length
              obtain ⟨vw8, st8⟩ := vw7.put eD7 (o := .dic (putW2 acc key wz)) (u := .dK (putK av key zv)) ⟨_, put_v wvz rr, upd_same⟩ (notD eH)
              exact ⟨av, key, ey, eH, Nat.lt_of_lt_of_le (l1 ▸ hl) (by decide), ws, _, (pre5.trans st6.pre).trans st7.pre, (esr.mono st6.pre).mono st7.pre, vw8, Good.step g7 st8⟩
            · exact g7.elim
          · exact g7.elim
theorem se_dcIf (i : Nat) {c : Expr} (hN : X.N.Nodup) (hi : SI T X (.Name x px) iter src) (ok : BlkOk X.N X.env.scope scope [(x, i)]) (hx : ∀ (s : Shared) (H : Hp) (C : Addr) (cl : List (Str × Addr)) (fp : List Addr), PG (X.blk s H scope (compEnvC scope cl C X.env) fp) (.Name x px) (gName i))
    (ht : ∀ (s : Shared) (H : Hp) (C : Addr) (cl : List (Str × Addr)) (fp : List Addr), STt T (X.blk s H scope (compEnvC scope cl C X.env) fp) c t)
    (hk : ∀ (s : Shared) (H : Hp) (C : Addr) (cl : List (Str × Addr)) (fp : List Addr), SE T (X.blk s H scope (compEnvC scope cl C X.env) fp) kx fk)
    (he : ∀ (s : Shared) (H : Hp) (C : Addr) (cl : List (Str × Addr)) (fp : List Addr), SE T (X.blk s H scope (compEnvC scope cl C X.env) fp) vx fv) (hc : X.calm = true := by rfl) (hs : ∀ x, foldedSetIterable iter X.env x = pure x := by intro _; rfl) :
    SE T X (.DictComp kx vx [⟨.Name x px, iter, [c], 0⟩] scope pos) (mDc src i t fk fv) := fun E cn => PEi (pe_dc (own := [(x, i)]) hc hN (hi E cn) ok hx (fun s H C cl fp => pts_one (ht s H C cl fp No cn_no)) (fun s H C cl fp => hk s H C cl fp No cn_no) (fun s H C cl fp => he s H C cl fp No cn_no) hs) fun s H Q h => dc_read i (fun _ _ _ z => z) h
theorem se_dc (i : Nat) (hN : X.N.Nodup) (hi : SI T X (.Name x px) iter src) (ok : BlkOk X.N X.env.scope scope [(x, i)]) (hx : ∀ (s : Shared) (H : Hp) (C : Addr) (cl : List (Str × Addr)) (fp : List Addr), PG (X.blk s H scope (compEnvC scope cl C X.env) fp) (.Name x px) (gName i))
    (hk : ∀ (s : Shared) (H : Hp) (C : Addr) (cl : List (Str × Addr)) (fp : List Addr), SE T (X.blk s H scope (compEnvC scope cl C X.env) fp) kx fk)
    (he : ∀ (s : Shared) (H : Hp) (C : Addr) (cl : List (Str × Addr)) (fp : List Addr), SE T (X.blk s H scope (compEnvC scope cl C X.env) fp) vx fv) (hc : X.calm = true := by rfl) (hs : ∀ x, foldedSetIterable iter X.env x = pure x := by intro _; rfl) :
    SE T X (.DictComp kx vx [⟨.Name x px, iter, [], 0⟩] scope pos) (mDc src i mYes fk fv) := fun E cn => PEi (pe_dc (own := [(x, i)]) hc hN (hi E cn) ok hx (fun _ _ _ _ _ => pts_nil) (fun s H C cl fp => hk s H C cl fp No cn_no) (fun s H C cl fp => he s H C cl fp No cn_no) hs) fun s H Q h => dc_read i (fun _ _ _ z => yes_read z) h
end
/-! ### all(list of true and false) -/
def boolsW : List W → Option (List Bool)
  | [] => some []
  | .bl b :: r => (boolsW r).map (b :: ·)
  | _ :: _ => none
theorem boolsW_ok {ps : Pl} : ∀ {xs : List W} {vs : List V} {bs : List Bool}, boolsW xs = some bs → Paired (WV ps) xs vs → vs = bs.map V.bl
  | [], _, _, e, .nil => by cases e; rfl
  | w :: xs, v :: vs, bs, e, .cons r t => by
    unfold boolsW at e
    split at e
    · rename_i q; cases q
    · rename_i b r' q
      cases q
      cases q2 : boolsW xs with
      | none => rw [q2] at e; cases e
      | some cs =>
        rw [q2] at e
        cases e
        have := boolsW_ok q2 t
        cases (show v = .bl b from r)
        rw [this]
        rfl
    · cases e
def mAllL : MFn := fun ws h => match ws with
  | [.ref p] => (match h[p]? with
    | some (.lst xs) => (match boolsW xs with
      | some bs => .val (.bl (bs.all id)) h
      | none => .bad)
    | _ => .bad)
  | _ => .bad
theorem rc_all {T : Tx} {K : PySem.W.Frag} (hK : T.K = K := by rfl) : RC T (rAll K) mAllL := by
  subst hK
  intro ps h H ws vs Q E vw wv gd
  unfold mAllL at gd
  split at gd
  · obtain ⟨v, rfl, a, ea, rfl⟩ := one_of wv
    split at gd
    · rename_i xs e1
      split at gd
      · rename_i bs e2
        obtain ⟨zs, r1, eH⟩ := vw.ob _ a _ ea e1
        have := boolsW_ok e2 r1
        subst this
        exact ⟨a, bs, rfl, SqL.of eH, Good.now (R := WV) gd vw rfl⟩
      · exact gd.elim
    · exact gd.elim
  · exact gd.elim
end VL
end
section
/-! {**d, k: v}: an entry put, entries put one behind the other, the display -/
namespace VL
open PySem PySem.Calls
section
variable {P : Program} {w : World} {κ : Type} [DecidableEq κ] {kd : KeyKind P w κ} {A : Around} {E : Value → Shared → Prop}
/-- where the key stands among the entries -/
theorem spot {tab : Array DictEntry} {l : List (κ × Value)} (pr : Pairs kd tab.toList l) (k : κ) : tab.findIdx? (fun e => kd.is k e.key) = l.findIdx? fun q => decide (q.1 = k) := by
  have z := pr.findIdx k
  cases tab with
  | mk l0 => rw [List.findIdx?_toArray]; exact z
theorem spot_size {tab : Array DictEntry} {l : List (κ × Value)} (pr : Pairs kd tab.toList l) : tab.size = l.length := by
  have z := pr.length
  rw [Array.length_toList] at z
  exact z
theorem absent_of {l : List (κ × Value)} {k : κ} (e : (l.findIdx? fun q => decide (q.1 = k)) = none) : ∀ q ∈ l, ¬ q.1 = k := fun q hq z => by
  have := List.findIdx?_eq_none_iff.mp e q hq
  simp [z] at this
theorem put_fresh {l : List (κ × Value)} {k : κ} (v : Value) (ab : ∀ q ∈ l, ¬ q.1 = k) : stored l k v = l ++ [(k, v)] := by
  unfold stored
  exact if_neg fun z => by
    obtain ⟨q, hq, e⟩ := List.any_eq_true.mp z
    exact ab q hq (of_decide_eq_true e)
theorem put_there {l : List (κ × Value)} {k : κ} {i : Nat} (v : Value) (e : (l.findIdx? fun q => decide (q.1 = k)) = some i) : stored l k v = l.map fun q => if q.1 = k then (q.1, v) else q := by
  obtain ⟨lt, hi, _⟩ := List.findIdx?_eq_some_iff_getElem.mp e
  unfold stored
  exact if_pos (List.any_eq_true.mpr ⟨l[i], List.getElem_mem lt, hi⟩)
theorem put_entry {s : Shared} {a : Addr} {l : List (κ × Value)} {k : κ} {u v : Value} {Q : Unit → Shared → Prop} (hu : kd.is k u = true) (D : s.heap.DictOf kd a l) (room : l.length ≤ sizeLine)
    (q : ∀ g, g.DictOf kd a (stored l k v) → Heap.SameBut a s.heap g → Q () { s with heap := g }) : wpAny (model P w) A (dictPut a (kd.hash k) u v) Q E s := by
  obtain ⟨ob, tab, ep, here, ex, dat, keys, pr, nd⟩ := D
  have ts := spot_size pr
  unfold dictPut
  apply wpAny_bind
  apply wpAny_dictFind_of hu here dat keys
  rw [spot pr k]
  rcases c : (l.findIdx? fun q => decide (q.1 = k)) with _ | i
  · have ab := absent_of c
    have nd2 : ((l ++ [(k, v)]).map (·.1)).Nodup := by
      rw [List.map_append]
      exact List.nodup_append.mpr ⟨nd, List.pairwise_singleton .., fun x hx y hy z => by
        obtain ⟨p, hp, rfl⟩ := List.mem_map.mp hx
        exact ab p hp (z.trans (List.mem_singleton.mp hy))⟩
    have pr2 : Pairs kd (tab.push ⟨kd.hash k, u, v⟩).toList (l ++ [(k, v)]) := by
      rw [Array.toList_push]
      exact pr.append hu (kd.hash k) v
    rw [c]
    refine wpAny_updateDictKeys (hz := ts ▸ room) here dat (q _ ?_ (Heap.SameBut.update ..))
    rw [put_fresh v ab]
    exact ⟨_, _, ep + 1, Heap.get?_update_self _ here (Obj.isFreed_of_dict (Obj.data_mapDictKeys dat _)), ex.mapDictKeys _, Obj.data_mapDictKeys dat _, keys.push hu v, pr2, nd2⟩
  · have at_i : (tab.toList.findIdx? fun e => kd.is k e.key) = some i := (pr.findIdx k).trans c
    have pr2 : Pairs kd (tab.modify i fun e => { e with val := v }).toList (l.map fun q => if q.1 = k then (q.1, v) else q) := by
      rw [Array.toList_modify]
      exact pr.modify nd at_i v
    rw [c]
    refine wpAny_updateDict here dat (q _ ?_ (Heap.SameBut.update ..))
    rw [put_there v c]
    exact ⟨_, _, ep, Heap.get?_update_self _ here (Obj.isFreed_of_dict (Obj.data_mapDict dat _)), ex.mapDict _, Obj.data_mapDict dat _, keys.modify i v, pr2, by rw [keys_map_store]; exact nd⟩
/-- a loop that changes nothing -/
theorem idle_loop {α : Type} {f : α → PUnit → Sem (ForInStep PUnit)} {s : Shared} : ∀ {l : List α} {Q : PUnit → Shared → Prop}, (∀ x ∈ l, ∀ R : ForInStep PUnit → Shared → Prop, R (.yield PUnit.unit) s → wpAny (model P w) A (f x PUnit.unit) R E s) → Q PUnit.unit s → wpAny (model P w) A (forIn l PUnit.unit f) Q E s
  | [], Q, _, q => by
    rw [List.forIn_nil]
    exact wpAny_pure q
  | x :: l, Q, h, q => by
    rw [List.forIn_cons]
    exact wpAny_bind (h x List.mem_cons_self _ (idle_loop (fun y hy => h y (List.mem_cons_of_mem _ hy)) q))
/-- a loop over n, n + 1, ..: each turn takes a heap of G i to one of G (i + 1) -/
theorem step_loop {f : Nat → PUnit → Sem (ForInStep PUnit)} {s : Shared} {m : Nat} (G : Nat → Heap → Prop) (turn : ∀ i g (R : ForInStep PUnit → Shared → Prop), i < m → G i g → (∀ g', G (i + 1) g' → R (.yield PUnit.unit) { s with heap := g' }) → wpAny (model P w) A (f i PUnit.unit) R E { s with heap := g }) :
    ∀ (n i : Nat) (g : Heap) (Q : PUnit → Shared → Prop), i + n = m → G i g → (∀ g', G m g' → Q PUnit.unit { s with heap := g' }) → wpAny (model P w) A (forIn (List.range' i n) PUnit.unit f) Q E { s with heap := g }
  | 0, i, g, Q, hm, hg, q => by
    have e : i = m := hm
    subst e
    exact wpAny_pure (q g hg)
  | n + 1, i, g, Q, hm, hg, q => by
    (rw [List.range'_succ, List.forIn_cons])
    exact wpAny_bind (turn i g _ (by omega) hg fun g' h' => step_loop G turn n (i + 1) g' Q (by omega) h' q)
/-- the entries of the dict at o put into the one at a -/
theorem put_all {s : Shared} {a o : Addr} {l more : List (κ × Value)} {Q : Unit → Shared → Prop} (ne : a ≠ o) (sm : (o == sysModules) = false) (D : s.heap.DictOf kd a l) (M : s.heap.DictOf kd o more)
    (plain : ∀ k u, kd.is k u = true → ∀ p, u ≠ .ref p) (room : l.length + more.length ≤ sizeLine) (q : ∀ g, g.DictOf kd a (merged l more) → g.DictOf kd o more → Heap.SameBut a s.heap g → Q () { s with heap := g }) :
    wpAny (model P w) A (mergeMapping a (.ref o) false) Q E s := by
  have D0 := D
  have ty := M.typeIs
  obtain ⟨da, ta, ea, ha, _, dda, _, _, _⟩ := D
  obtain ⟨ob, tab, ep, here, ex, dat, keys, pr, nd⟩ := M
  have ts := spot_size pr
  -- the loop over the entries
  have run : ∀ Q' : PUnit → Shared → Prop, (∀ g, g.DictOf kd a (merged l more) → g.DictOf kd o more → Heap.SameBut a s.heap g → Q' PUnit.unit { s with heap := g }) →
      ∀ f : Nat → PUnit → Sem (ForInStep PUnit), (∀ i g (R : ForInStep PUnit → Shared → Prop) (e : DictEntry), tab[i]? = some e → g.get? o = some ob → wpAny (model P w) A (dictPut a e.hash e.key e.val) (fun _ s' => s'.heap.get? o = some ob ∧ R (.yield PUnit.unit) s') E { s with heap := g } → wpAny (model P w) A (f i PUnit.unit) R E { s with heap := g }) →
      wpAny (model P w) A (forIn (List.range tab.size) PUnit.unit f) Q' E s := by
    intro Q' q' f hf
    rw [List.range_eq_range']
    refine step_loop (s := s) (m := tab.size) (fun i g => g.DictOf kd a (merged l (more.take i)) ∧ g.get? o = some ob ∧ Heap.SameBut a s.heap g) (fun i g R hi ⟨g1, g2, g3⟩ k => ?_) tab.size 0 s.heap Q' (Nat.zero_add _) ⟨D0, here, Heap.SameBut.refl _ _⟩ fun g ⟨g1, g2, g3⟩ => ?_
    · have hi2 : i < more.length := ts ▸ hi
      have ei : tab[i]? = some tab[i] := Array.getElem?_eq_getElem hi
      have mi : more[i]? = some (more[i].1, more[i].2) := List.getElem?_eq_getElem hi2
      obtain ⟨ku, ev⟩ := pr.get? (by rw [Array.getElem?_toList]; exact ei) mi
      obtain ⟨k2, ku2, eh⟩ := keys tab[i] (Array.getElem_mem hi)
      have same := kd.inj _ _ _ ku2 ku
      refine hf i g R tab[i] ei g2 ?_
      rw [eh, same]
      refine put_entry ku g1 ?_ fun g' p1 p2 => ?_
      · have z1 := merged_length_le l (more.take i)
        have z2 : (more.take i).length ≤ more.length := List.length_take_le' ..
        exact Nat.le_trans z1 (Nat.le_trans (Nat.add_le_add_left z2 _) room)
      · have kept : g'.get? o = some ob := (p2.2 o (Ne.symm ne)).trans g2
        refine ⟨kept, k g' ⟨?_, kept, g3.trans p2⟩⟩
        rw [merged_take_succ l more i _ mi, ← ev]
        exact p1
    · refine q' g ?_ ⟨ob, tab, ep, g2, ex, dat, keys, pr, nd⟩ g3
      rw [ts, List.take_length] at g1
      exact g1
  unfold mergeMapping
  apply wpAny_bind
  apply wpAny_isInstance (T := "dict") ty PySem.F.sub_dict_dict
  rw [if_pos rfl]
  apply wpAny_bind
  apply wpAny_specialOf ty PySem.F.slot_dict_iter.lookup
  apply wpAny_bind
  apply wpAny_pure
  rw [beq_self_eq_true]
  show wpAny (model P w) A (if (o == sysModules) = true then _ else _) Q E s
  rw [sm, if_neg (by decide)]
  apply wpAny_bind
  apply wpAny_dictEntries ha dda
  dsimp only
  split
  · apply wpAny_bind
    apply wpAny_dictEntries here dat
    apply wpAny_bind
    rw [← Array.forIn_toList]
    refine idle_loop (fun x hx R r => ?_) ?_
    · obtain ⟨k, ku, _⟩ := keys x (Array.mem_toList_iff.mp hx)
      split
      · rename_i p z
        exact absurd z (plain k _ ku p)
      · exact wpAny_pure r
    · apply wpAny_bind
      apply wpAny_dictEntries here dat
      apply wpAny_bind
      apply wpAny_dictEpoch here dat
      apply wpAny_bind
      refine run _ (fun g h1 h2 h3 => wpAny_pure (q g h1 h2 h3)) _ fun i g R e ei eo h => ?_
      apply wpAny_bind
      apply wpAny_dictEntries eo dat
      rw [ei]
      apply wpAny_bind
      apply wpAny_holding
      (rw [if_neg Bool.false_ne_true])
      refine wpAny_mono h (fun _ s' ⟨z1, z2⟩ => ?_) fun _ _ z => z
      apply wpAny_bind
      apply wpAny_dictEpoch z1 dat
      rw [if_neg (by simp)]
      exact wpAny_pure z2
  · apply wpAny_bind
    apply wpAny_dictEntries here dat
    apply wpAny_bind
    apply wpAny_dictEpoch here dat
    apply wpAny_bind
    refine run _ (fun g h1 h2 h3 => wpAny_pure (q g h1 h2 h3)) _ fun i g R e ei eo h => ?_
    apply wpAny_bind
    apply wpAny_dictEntries eo dat
    rw [ei]
    apply wpAny_bind
    apply wpAny_holding
    (rw [if_neg Bool.false_ne_true])
    refine wpAny_mono h (fun _ s' ⟨z1, z2⟩ => ?_) fun _ _ z => z
    apply wpAny_bind
    apply wpAny_dictEpoch z1 dat
    rw [if_neg (by simp)]
    exact wpAny_pure z2
/-- {**m, k: v}: m's dict is put into a new one, then a second one that holds k alone -/
theorem star_rule {s : Shared} {m : Sem Value} {kv : Sem Value × Sem Value} {Q : Value → Shared → Prop} (plain : ∀ k u, kd.is k u = true → ∀ p, u ≠ .ref p)
    (h : wpAny (model P w) A m (fun x s1 => ∃ (o : Addr) (more : List (κ × Value)), x = .ref o ∧ s.heap.objs.size ≠ o ∧ (o == sysModules) = false ∧ s1.heap.DictOf kd s.heap.objs.size [] ∧ s1.heap.DictOf kd o more ∧ more.length ≤ 100000 ∧
      ∀ h2, h2.DictOf kd s.heap.objs.size (merged [] more) → Heap.SameBut s.heap.objs.size s1.heap h2 →
        wpAny (model P w) A (evalPairs [kv]) (fun vs s3 => ∃ (kvs acc : List (κ × Value)), Carries kd vs kvs ∧ s3.heap.DictOf kd h2.objs.size [] ∧ s3.heap.DictOf kd s.heap.objs.size acc ∧ acc.length ≤ 200000 ∧ s.heap.objs.size ≠ h2.objs.size ∧ (h2.objs.size == sysModules) = false ∧
          ∀ h4 h5, h4.DictOf kd h2.objs.size (merged [] kvs) → Heap.SameBut h2.objs.size s3.heap h4 → h5.DictOf kd s.heap.objs.size (merged acc (merged [] kvs)) → h5.DictOf kd h2.objs.size (merged [] kvs) → Heap.SameBut s.heap.objs.size h4 h5 →
            Q (.ref s.heap.objs.size) { s3 with heap := h5, toks := s3.toks + vs.length }) E
          { s1 with heap := h2.push { cls := .type "dict", data := .dict #[] } }) E { s with heap := s.heap.push { cls := .type "dict", data := .dict #[] } }) :
    wpAny (model P w) A (dictDisplay [(none, m), (some kv.1, kv.2)]) Q E s := by
  unfold dictDisplay
  simp only [List.forIn_nil, List.forIn_cons]
  apply wpAny_bind
  apply wpAny_bind
  apply wpAny_bind
  rw [if_pos (show ([] : List (Sem Value × Sem Value)).isEmpty = true from rfl)]
  apply wpAny_pure
  dsimp only
  apply wpAny_bind
  apply wpAny_alloc
  apply wpAny_bind
  apply wpAny_holding
  refine wpAny_mono h (fun x s1 ⟨o, more, ex, ne, sm, d0, dm, lm, k⟩ => ?_) fun _ _ z => z
  subst ex
  apply wpAny_bind
  apply wpAny_onRaise
  apply wpAny_tryCatch
  apply wpAny_onRaise
  apply wpAny_holding
  refine put_all ne sm d0 dm plain (by rw [List.length_nil, sizeLine_eq]; omega) fun g2 p1 p2 p3 => ?_
  apply wpAny_pure
  dsimp only
  apply wpAny_bind
  rw [if_neg (fun z => absurd z (by simp))]
  apply wpAny_pure
  apply wpAny_pure
  apply wpAny_bind
  rw [if_neg (fun z => absurd z (by simp))]
  dsimp only
  apply wpAny_bind
  apply wpAny_holding
  refine wpAny_subDict (knd := kd) (pairs := [kv]) (by show (1 : Nat) ≤ 15; decide) (wpAny_mono (wpAny_evalPairs_len (k g2 p1 p3)) (fun vs s3 ⟨lv, kvs, acc, cr, e0, ea, la, ne2, sm2, q⟩ => ⟨kvs, cr, e0, fun h4 f4 b4 => ?_⟩) fun _ _ z => z)
  have l0 : vs.length = 1 := lv
  have l1 := cr.length
  have l2 := merged_length_le ([] : List (κ × Value)) kvs
  apply wpAny_bind
  apply wpAny_onRaise
  apply wpAny_holding
  refine put_all ne2 sm2 (ea.sameBut b4 ne2) f4 plain (by rw [sizeLine_eq]; rw [List.length_nil] at l2; omega) fun g5 p5 p6 p7 => ?_
  apply wpAny_pure
  exact wpAny_pure (q h4 g5 f4 b4 p5 p6 p7)
end
end VL
end
section
/-! {**d, k: v} in the layer; dicts compared -/
namespace VL
open PySem L2 PySem.Spec PyProof.Rows
def tStar (tm : TE) (trs : List (TE × TE)) : TE := fun σ H Q => ∀ p, H p = none → tm σ (upd H p (.dK [])) fun x H1 => ∃ (o : Addr) (more : List (Key × V)), x = .ref o ∧ p ≠ o ∧ H1 p = some (.dK []) ∧ Rd H1 o (.dK more) ∧ more.length ≤ 100000 ∧
  ∀ q, upd H1 p (.dK (mergeK [] more)) q = none → tPairs trs σ (upd (upd H1 p (.dK (mergeK [] more))) q (.dK [])) fun ps H3 => H3 q = some (.dK []) ∧ ∃ (acc kvs : List (Key × V)), H3 p = some (.dK acc) ∧ acc.length ≤ 200000 ∧ p ≠ q ∧ ps = kvs.map (fun kv => (kV kv.1, kv.2)) ∧ kvs.length ≤ 15 ∧
    Q (.ref p) (upd (upd H3 q (.dK (mergeK [] kvs))) p (.dK (mergeK acc (mergeK [] kvs))))
theorem mix_nr {P : Program} {w : World} : ∀ k key, (mixKind P w).is k key = true → ∀ p, key ≠ .ref p := fun k key h p e => by
  rcases keyIs_shape (show keyIs k key = true from h) with ⟨i, t, _, rfl⟩ | ⟨x, t, _, rfl⟩
  · cases e
  · cases e
theorem pe_star1 {X : Cx} {pos : Pos} {de ke ve : Expr} {tm tk tv : TE} (hd : PE X de tm) (hk : PE X ke tk) (hv : PE X ve tv) : PE X (.Dict [none, some ke] [de, ve] pos) (tStar tm [(tk, tv)]) := by
  constructor
  intro pins s σ H Q I q
  -- the new dict, still empty
  have hn : H s.heap.objs.size = none := I.hok.fresh Nat.le.refl
  have I1 : Inv X pins σ (upd H s.heap.objs.size (.dK [])) { s with heap := s.heap.push { cls := .type "dict", data := .dict #[] }, toks := s.toks } := I.laid (fun _ _ q => Heap.get?_push_of_some _ q) (Nat.le_refl _) (dk_empty s.heap I.big)
  have pp : PPs X pos [some ke] [ve] [(tk, tv)] := pps_cons hk hv pps_nil
  rw [arm_eval_Dict]
  apply wpAny_bind; apply wpAny_standAt
  refine star_rule (kd := mixKind X.prog X.w) (m := do let x ← eval de X.env; standAt pos; pure x) (kv := (eval ke X.env, do let x ← eval ve X.env; standAt pos; pure x)) mix_nr ?_
  refine wpAny_bind (thn (hd.run pins _ σ _ _ I1 (q _ hn)) fun xv s1 ⟨x, H1, I2, rx, o, more, ex, hne, e1, rd, hl, q2⟩ => wpAny_bind (wpAny_standAt (wpAny_pure ?_)))
  subst ex
  cases (show xv = .ref o from rx)
  obtain ⟨z1, hS1, vs0, r0, dd1⟩ := dk_of I2.hok e1
  cases r0
  obtain ⟨z2, hS2, vs, rel, dd2⟩ := dk_rd I2.hok rd
  refine ⟨o, vs, rfl, hne, hS2, dd1, dd2, by rw [← rel.length]; exact hl, fun h2 hd2 sb2 => ?_⟩
  have lm := length_mergeK more []
  rw [List.length_nil] at lm
  have he2 : ∃ q, h2.get? s.heap.objs.size = some q := let ⟨q, _, _, hq, _⟩ := hd2; ⟨q, hq⟩
  have I3 : Inv X pins σ (upd H1 s.heap.objs.size (.dK (mergeK [] more))) { s1 with heap := h2, toks := s1.toks } := d_write I2 (by rw [e1]; exact True.intro) sb2 he2 (dk_new (by rw [sizeLine_eq]; omega) hS1 (rel.merge .nil) hd2)
  have hn2 := I3.hok.fresh (Nat.le_refl h2.objs.size)
  have I4 := I3.laid (a := h2.objs.size) (o := .dK []) (h' := h2.push { cls := .type "dict", data := .dict #[] }) (t' := s1.toks) (fun _ _ q => Heap.get?_push_of_some _ q) (Nat.le_refl _) (dk_empty h2 I3.big)
  refine thn (pp.run pins _ σ _ _ I4 (q2 _ hn2)) fun ws s3 ⟨ps, H3, I5, rl, e3, acc, kvs, ea, la, npq, ep, lk, q3⟩ => ?_
  subst ep
  obtain ⟨rs, c, rk⟩ := carries_of (P := X.prog) (w := X.w) rl
  obtain ⟨z3, hS3, vs3, r3, dd3⟩ := dk_of I5.hok e3
  cases r3
  obtain ⟨z4, hS4, va, ra, dd4⟩ := dk_of I5.hok ea
  refine ⟨rs, va, c, dd3, dd4, by rw [← ra.length]; exact la, npq, hS3, fun h4 h5 k4 sb4 k5 _ sb5 => ?_⟩
  have lm2 := length_mergeK kvs []
  rw [List.length_nil] at lm2
  have lm3 := length_mergeK (mergeK [] kvs) acc
  have he4 : ∃ q, h4.get? h2.objs.size = some q := let ⟨q, _, _, hq, _⟩ := k4; ⟨q, hq⟩
  have he5 : ∃ q, h5.get? s.heap.objs.size = some q := let ⟨q, _, _, hq, _⟩ := k5; ⟨q, hq⟩
  have I6 : Inv X pins σ (upd H3 h2.objs.size (.dK (mergeK [] kvs))) { s3 with heap := h4, toks := s3.toks + ws.length } := d_write I5 (by rw [e3]; exact True.intro) sb4 he4 (dk_new (by rw [sizeLine_eq]; omega) hS3 (rk.merge .nil) k4)
  have I7 : Inv X pins σ (upd (upd H3 h2.objs.size (.dK (mergeK [] kvs))) s.heap.objs.size (.dK (mergeK acc (mergeK [] kvs)))) { ({ s3 with heap := h4, toks := s3.toks + ws.length } : Shared) with heap := h5, toks := s3.toks + ws.length } := d_write I6 (by rw [upd_ne npq, ea]; exact True.intro) sb5 he5 (dk_new (by rw [sizeLine_eq]; omega) hS4 ((rk.merge .nil).merge ra) k5)
  exact ⟨.ref s.heap.objs.size, _, I7, rfl, q3⟩
/-- {**m, k: v} -/
def mStar (fm : Ws → Hv → Res W) (prs : List ((Ws → Hv → Res W) × (Ws → Hv → Res W))) : Ws → Hv → Res W := fun r h => (fm r (h ++ [.dic []])).bind fun x h1 => match x with
  | .ref o => (match decide (o = h.length), dicO h1[o]?, h1[h.length]? with
    | false, some more, some (.dic []) => if more.length ≤ 100000 then (mPairs prs r (h1.set h.length (.dic (mergeW [] more)) ++ [.dic []])).bind fun kvs h3 => (match h3[h1.length]?, h3[h.length]? with
      | some (.dic []), some (.dic acc) => if kvs.length ≤ 15 ∧ acc.length ≤ 200000 then .val (.ref h.length) ((h3.set h1.length (.dic (mergeW [] kvs))).set h.length (.dic (mergeW acc (mergeW [] kvs)))) else .bad
      | _, _ => .bad) else .bad
    | _, _, _ => .bad)
  | _ => .bad
section
variable {T : Tx} {X : Cx} {pos : Pos} {de ke ve : Expr} {fm fk fv : Ws → Hv → Res W}
theorem se_star1 (hd : SE T X de fm) (hk : SE T X ke fk) (hv : SE T X ve fv) : SE T X (.Dict [none, some ke] [de, ve] pos) (mStar fm [(fk, fv)]) := fun E cn => PEi (pe_star1 (hd E cn) (hk E cn) (hv E cn)) fun s H Q ⟨ps, r, hv, es, vw, gd⟩ p hp => by
  obtain ⟨vw1, st1, e1⟩ := vw.alloc hp (o := .dic []) (u := .dK []) ⟨[], .nil, upd_same⟩
  have g0 := Good.step gd st1
  refine ⟨_, r, _, es.mono st1.pre, vw1, (Good.bind (R := WV) (S := WV) g0).imp (fun x H1 q => ?_) fun _ _ _ z => z⟩
  obtain ⟨qs, w, h1, st2, vw2, wv, g1⟩ := q
  dsimp only at g1
  split at g1
  · rename_i oi
    obtain ⟨o, eo, rfl⟩ := wv
    split at g1
    · rename_i more q1 q2 q3
      split at g1
      · rename_i hl
        have noi : oi ≠ hv.length := of_decide_eq_false q1
        obtain ⟨vs, rr, rd⟩ := dic_rd vw2 eo q2
        have ep := at_pre st2.pre e1
        obtain ⟨zs, rz, eH⟩ := vw2.ob _ p _ ep q3
        cases rz
        have npo : p ≠ o := fun z => by
          subst z
          have ea' : qs.l[oi]? = some p := eo
          have eb' : qs.l[hv.length]? = some p := ep
          have h1' := List.getElem?_eq_some_iff.mp ea'
          have h2' := List.getElem?_eq_some_iff.mp eb'
          exact noi ((List.getElem_inj vw2.nd).mp (h1'.2.trans h2'.2.symm))
        obtain ⟨vw3, st3⟩ := vw2.put ep (o := .dic (mergeW [] more)) (u := .dK (mergeK [] vs)) ⟨_, merge_v rr .nil, upd_same⟩ (notD eH)
        refine ⟨o, vs, rfl, npo, eH, rd, by rw [← rr.length]; exact hl, fun q hq => ?_⟩
        obtain ⟨vw4, st4, e4⟩ := vw3.alloc hq (o := .dic []) (u := .dK []) ⟨[], .nil, upd_same⟩
        have es4 := ((es.mono st1.pre).mono st2.pre).mono (st3.pre.trans st4.pre)
        have g2 := Good.step g1 (st3.trans st4)
        refine pairs_read es4 vw4 ((Good.bind (R := PWs) (S := WV) g2).imp (fun us H3 q5 => ?_) fun _ _ _ z => z)
        obtain ⟨ts, kvs, h3, st5, vw5, ⟨us', rfl, rr5⟩, g3⟩ := q5
        dsimp only at g3
        split at g3
        · rename_i acc q6 q7
          split at g3
          · rename_i hk
            have eq5 : ts[h1.length]? = some q := at_pre st5.pre (by
              have : (h1.set hv.length (O.dic (mergeW [] more))).length = h1.length := List.length_set ..
              rw [← this]; exact e4)
            have ep5 : ts[hv.length]? = some p := at_pre (((st3.pre.trans st4.pre)).trans st5.pre) ep
            obtain ⟨z3, rz3, eH3⟩ := vw5.ob _ q _ eq5 q6
            cases rz3
            obtain ⟨va, ra, eHa⟩ := vw5.ob _ p _ ep5 q7
            have npq : p ≠ q := fun z => by
              subst z
              rw [eH3] at eHa
              have hq' := hq
              rw [upd_same] at hq'
              cases hq'
            obtain ⟨vw6, st6⟩ := vw5.put eq5 (o := .dic (mergeW [] kvs)) (u := .dK (mergeK [] us')) ⟨_, merge_v rr5 .nil, upd_same⟩ (notD eH3)
            have eHa6 : upd H3 q (.dK (mergeK [] us')) p = some (.dK va) := by rw [upd_ne npq]; exact eHa
            obtain ⟨vw7, st7⟩ := vw6.put ep5 (o := .dic (mergeW acc (mergeW [] kvs))) (u := .dK (mergeK va (mergeK [] us'))) ⟨_, merge_v (merge_v rr5 .nil) ra, upd_same⟩ (notD eHa6)
            refine ⟨eH3, va, us', eHa, by rw [← ra.length]; exact hk.2, npq, rfl, by rw [← rr5.length]; exact hk.1, ?_⟩
            exact g3 _ _ _ (st6.trans st7) vw7 ⟨p, ep5, rfl⟩
          · exact g3.elim
        · exact g3.elim
      · exact g1.elim
    · exact g1.elim
  · exact g1.elim
end
end VL
end
section
/-! dicts of flat values, compared -/
namespace VL
open PySem L2 PySem.Spec PyProof.Rows
def hitsV (ls : List (Key × V)) : List (Key × V) → Bool
  | [] => true
  | (k, v) :: r => match valV ls k with
    | none => false
    | some y => eqV v y && hitsV ls r
theorem valV_mem : ∀ {ls : List (Key × V)} {k : Key} {y : V}, valV ls k = some y → (k, y) ∈ ls
  | [], k, y, e => by cases e
  | (a, v) :: ls, k, y, e => by
    by_cases c : a = k
    · rw [valV_pos c] at e
      cases e
      rw [← c]
      exact List.mem_cons_self
    · rw [valV_neg c] at e
      exact List.mem_cons_of_mem _ (valV_mem e)
theorem hits_V {A : Around} {s : Shared} {ls : List (Key × V)} {vb : List (Key × Value)} (rb : KV ls vb) (fl : ∀ p ∈ ls, flatV p.2 = true) {ks : List (Key × V)} {va : List (Key × Value)} (ra : KV ks va) :
    (∀ p ∈ ks, flatV p.2 = true) → PySem.W.KeqHits A s vb va (hitsV ls ks) := by
  unfold KV at ra
  induction ra with
  | nil => intro _; exact .nil
  | @cons p q ps qs h t ih =>
    intro hp
    obtain ⟨h1, h2⟩ := h
    obtain ⟨pk, pv⟩ := p
    obtain ⟨k, v⟩ := q
    have h1' : pk = k := h1
    subst h1'
    have rr := rb.val pk
    show PySem.W.KeqHits A s vb ((pk, v) :: qs) (match valV ls pk with | none => false | some y => eqV pv y && hitsV ls ps)
    cases e : valV ls pk with
    | none =>
      rw [e] at rr
      exact .miss (RelO.none_of rr)
    | some y =>
      rw [e] at rr
      obtain ⟨u, hu, ru⟩ := RelO.some_of rr
      exact .hit hu (eqAt_V h2 ru (hp _ List.mem_cons_self) (fl _ (valV_mem e))) (ih fun p' hm => hp p' (List.mem_cons_of_mem _ hm))
section
variable {X : Cx}
def rEqDD (neg : Bool) : R2 := fun x y H Q => ∃ a b ks ls, x = .ref a ∧ y = .ref b ∧ H a = some (.dK ks) ∧ H b = some (.dK ls) ∧ (∀ p ∈ ks, flatV p.2 = true) ∧ (∀ p ∈ ls, flatV p.2 = true) ∧ Q (.bl (if neg then !(ks.length == ls.length && hitsV ls ks) else (ks.length == ls.length && hitsV ls ks))) H
/-- what two dicts of flat values, tracked, look like in the heap -/
theorem two_dicts {pins : List (Addr × Obj)} {s : Shared} {σ : L2.St} {H : Hp} {a b : Addr} {ks ls : List (Key × V)} (I : Inv X pins σ H s) (ea : H a = some (.dK ks)) (eb : H b = some (.dK ls)) (fk : ∀ p ∈ ks, flatV p.2 = true) (fl : ∀ p ∈ ls, flatV p.2 = true) :
    ∃ va vb : List (Key × Value), va.length = ks.length ∧ vb.length = ls.length ∧ (a == sysModules) = false ∧ (b == sysModules) = false ∧ s.heap.DictOf (mixKind X.prog X.w) a va ∧ s.heap.DictOf (mixKind X.prog X.w) b vb ∧ ∀ A : Around, PySem.W.KeqHits A s vb va (hitsV ls ks) := by
  have oa := I.hok a _ ea
  have ob := I.hok b _ eb
  unfold ObjOk at oa ob
  obtain ⟨_, na, va, ka, da⟩ := oa
  obtain ⟨_, nb, vb, kb, db⟩ := ob
  exact ⟨va, vb, ka.length.symm, kb.length.symm, na, nb, da, db, fun A => hits_V kb fl ka fk⟩
theorem op_eq_DD (hu : X.A.units < cLine) : OpR X (compareOp .Eq) (rEqDD false) := fun pins s σ H x y v u Q I rx ry ⟨a, b, ks, ls, e1, e2, ea, eb, fk, fl, q⟩ => by
  subst e1 e2
  cases rx
  cases ry
  obtain ⟨va, vb, la, lb, na, nb, da, db, hit⟩ := two_dicts I ea eb fk fl
  exact PySem.W.keq_eq (knd := mixKind X.prog X.w) na nb da db hu (fun _ => hit _) (fin_bl I q (by rw [la, lb]; rfl))
theorem op_ne_DD (hu : X.A.units < cLine) : OpR X (compareOp .NotEq) (rEqDD true) := fun pins s σ H x y v u Q I rx ry ⟨a, b, ks, ls, e1, e2, ea, eb, fk, fl, q⟩ => by
  subst e1 e2
  cases rx
  cases ry
  obtain ⟨va, vb, la, lb, na, nb, da, db, hit⟩ := two_dicts I ea eb fk fl
  exact PySem.W.keq_ne (knd := mixKind X.prog X.w) na nb da db hu (fun _ => hit _) (fin_bl I q (by rw [la, lb]; rfl))
end
/-! ### mirrors -/
def flatKs (kvs : List (Key × W)) : Option (List (Key × V)) := match kvs with
  | [] => some []
  | (k, w) :: r => match flatW w, flatKs r with
    | some v, some vs => some ((k, v) :: vs)
    | _, _ => none
theorem flatKs_ok {ps : Pl} : ∀ {kvs : List (Key × W)} {us vs : List (Key × V)}, flatKs kvs = some us → Paired (PW2 ps) kvs vs → vs = us ∧ ∀ p ∈ vs, flatV p.2 = true
  | [], _, _, e, .nil => by cases e; exact ⟨rfl, fun p h => absurd h List.not_mem_nil⟩
  | (k, w) :: kvs, us, (b, v) :: vs, e, .cons h t => by
    obtain ⟨h1, h2⟩ := h
    have h1 : k = b := h1
    subst h1
    unfold flatKs at e
    split at e
    · rename_i v' vs' e1 e2
      cases e
      obtain ⟨i1, i2⟩ := flatKs_ok e2 t
      obtain ⟨j1, j2⟩ := flatW_ok e1 h2
      subst i1
      subst j1
      refine ⟨rfl, fun p hp => ?_⟩
      rcases List.mem_cons.mp hp with z | z
      · rw [z]; exact j2
      · exact i2 p z
    · cases e
def mEqD (neg : Bool) : MOp := fun x y h => match x, y with
  | .ref a, .ref b => (match h[a]?, h[b]? with
    | some (.dic ks), some (.dic ls) => (match flatKs ks, flatKs ls with
      | some us, some vs => .val (.bl (if neg then !(us.length == vs.length && hitsV vs us) else (us.length == vs.length && hitsV vs us))) h
      | _, _ => .bad)
    | _, _ => .bad)
  | _, _ => .bad
theorem ro_eqD {T : Tx} (neg : Bool) : RO T (rEqDD neg) (mEqD neg) := by
  intro ps h H x y vx vy Q E vw wx wy gd
  unfold mEqD at gd
  split at gd
  · obtain ⟨a, ea, rfl⟩ := wx
    obtain ⟨b, eb, rfl⟩ := wy
    split at gd
    · rename_i ks ls e1 e2
      split at gd
      · rename_i us vs f1 f2
        obtain ⟨ka, ra, eA⟩ := vw.ob _ a _ ea e1
        obtain ⟨kb, rb, eB⟩ := vw.ob _ b _ eb e2
        obtain ⟨rfl, fa⟩ := flatKs_ok f1 ra
        obtain ⟨rfl, fb⟩ := flatKs_ok f2 rb
        exact ⟨a, b, ka, kb, rfl, rfl, eA, eB, fa, fb, Good.now (R := WV) gd vw rfl⟩
      · exact gd.elim
    · exact gd.elim
  · exact gd.elim
end VL
end
section
/-! own classes made with defaults and keyword-only parameters -/
namespace VL
open PySem L2 PySem.Spec PyProof.Rows
/-! ### keywords -/
def SK (T : Tx) (X : Cx) (kws : List Keyword) (g : Ws → Hv → Res (List W)) : Prop := ∀ E, Cn X E → PK X kws (tA T E g)
section
variable {T : Tx} {X : Cx} {e : Expr} {kws : List Keyword} {f : Ws → Hv → Res W} {g : Ws → Hv → Res (List W)} {nm : Option Str} {kpos : Pos}
theorem sk_nil : SK T X [] mNil := fun E cn => ⟨fun pos pins s σ H Q I ⟨ps, r, h, es, vw, gd⟩ => pk_nil.run pos pins s σ H Q I (Good.now (R := WVs) gd vw .nil)⟩
theorem sk_cons (h1 : SE T X e f) (h2 : SK T X kws g) : SK T X (⟨nm, e, kpos⟩ :: kws) (mCons f g) := fun E cn => ⟨fun pos pins s σ H Q I ⟨ps, r, h, es, vw, gd⟩ => (pk_cons (h1 E cn) (h2 E cn)).run pos pins s σ H Q I (by
    refine ⟨ps, r, h, es, vw, (Good.bind (R := WV) (S := WVs) gd).imp (fun v H1 q => ?_) fun _ _ _ z => z⟩
    obtain ⟨qs, w, h1, st, vw1, wv, g1⟩ := q
    refine ⟨qs, r, h1, es.mono st.pre, vw1, (Good.bind (R := WVs) (S := WVs) g1).imp (fun u H2 q2 => ?_) fun _ _ _ z => z⟩
    obtain ⟨rs, w2, h2, st2, vw2, wv2, g2⟩ := q2
    exact Good.now (R := WVs) g2 vw2 (.cons (wv.mono st2.pre) wv2))⟩
end
/-! ### C(.., k = ..) -/
structure MkF (T : Tx) (P : Program) (w : World) (K : PySem.W.Frag) (mg : Str → Option Value) (base : Heap) (k : Nat) (x : Str) (c : String) (C : Addr) (n : Nat) (ks : List Str) (np : Nat) (mf : MFn) (G : List W → List W → List W) : Prop where
  cv : T.cv c = .ref C
  mgC : mg x = some (.ref C)
  ini : ∃ fI fd qs g gV, Mk K C fI ∧ qs.length = np + 1 ∧ FnOk P w K mg base (L2.CX P w) k fI fd qs (spV T (np + 1) mf) ∧ KBn K fd qs (n + 1) ks g gV ∧
    ∀ (ps : Pl) (y : V) (ws zs : List W) (vs us : List V), Paired (WV ps) ws vs → Paired (WV ps) zs us → ws.length = n → zs.length = ks.length → ∃ tl, gV (y :: vs) us = y :: tl ∧ Paired (WV ps) (G ws zs) tl ∧ tl.length = np
def mMakeF (c : String) (n m : Nat) (mf : MFn) (G : List W → List W → List W) (g gk : Ws → Hv → Res (List W)) : Ws → Hv → Res W := fun r h => (g r h).bind fun ws h1 => (gk r h1).bind fun zs h2 => if ws.length = n ∧ zs.length = m then (mf (.ref h2.length :: G ws zs) (h2 ++ [.ins c []])).bind fun v h3 => (match v with
  | .non => .val (.ref h2.length) h3
  | _ => .bad) else .bad
section
variable {T : Tx} {X : Cx} {C : Addr} {c : String} {x : Str} {e : Expr} {es : List Expr} {kws : List Keyword} {g gk : Ws → Hv → Res (List W)} {p pos : Pos} {n np k : Nat} {ks : List Str} {mf : MFn} {G : List W → List W → List W}
theorem make_runF (M : MkF T X.prog X.w X.K X.mg X.base k x c C n ks np mf G) (hr : Room (k + 1) X.A) {E : WX} (cn : Cn X E) {pins : List (Addr × Obj)} {s : Shared} {σ : L2.St} {H : Hp} {us kv : List Value} {vs zv : List V} {Q : VK} {ps : Pl} {h1 : Hv} {ws zs : List W} (I : Inv X pins σ H s) (r : Vals vs us) (rk : Vals zv kv) (vw : View T ps h1 H) (wv : Paired (WV ps) ws vs) (wz : Paired (WV ps) zs zv) (hl : ws.length = n) (hz : zs.length = ks.length)
    (gd : Good T WV ps H ((mf (.ref h1.length :: G ws zs) (h1 ++ [.ins c []])).bind fun v h2 => (match v with | .non => .val (.ref h1.length) h2 | _ => .bad)) Q (WE E σ)) : wpAny (model X.prog X.w) X.A (call (.ref C) us (ks.zip kv)) (EP X pins σ Q) X.xe s := by
  obtain ⟨fI, fd, qs0, g9, gV, mk, ql, F, hb, hG⟩ := M.ini
  obtain ⟨hp, gs, dr, tk, os⟩ := s
  let dx := hp.objs.size
  let y := hp.objs.size + 1
  have nd : H dx = none := I.hok.fresh (Nat.le_refl _)
  have ny : H y = none := I.hok.fresh (Nat.le_succ _)
  have ne : dx ≠ y := Nat.ne_of_lt (Nat.lt_succ_self _)
  have I2 := Inv.made I (C := C)
  have r1 : Vals (V.ref y :: vs) (Value.ref y :: us) := .cons rfl r
  obtain ⟨tl, etl, wtl, ltl⟩ := hG ps (V.ref y) ws zs vs zv wv wz hl hz
  have r2 : Vals (V.ref y :: tl) (g9 (Value.ref y :: us) kv) := by
    rw [← etl]
    exact hb.rel r1 rk
  -- the view with the new object
  have vw0 : View T ps h1 (upd H dx (.own y)) := ⟨vw.len, vw.nd, fun i b o e1 e2 => (vw.ob i b o e1 e2).put fun u hu => by rw [upd_ne (ne_of_none hu nd)]; exact hu, tabs_new vw.tab nd _, vw.fact, (fun a vs t => by
    exact (vw.tup a vs t).put fun z => by
      rw [upd_ne (ne_of_none z nd)]
      exact z), vw.hold_new nd⟩
  have st0 : Step ps H ps (upd H dx (.own y)) := ⟨Pl.Le.refl _, fun _ _ z n _ => absurd z n, fun b u e _ _ => by rw [upd_ne (ne_of_none e nd)]; exact e⟩
  have ny2 : upd H dx (.own y) y = none := by rw [upd_ne (Ne.symm ne)]; exact ny
  obtain ⟨vw1, st1, e1⟩ := vw0.alloc ny2 (o := .ins c []) (u := .ins C dx []) ⟨[], dx, C, M.cv, .nil, upd_same⟩
  have prom : spV T (np + 1) mf (V.ref y :: tl) (upd (upd H dx (.own y)) y (.ins C dx [])) (fun v H2 => v = .non ∧ Q (.ref y) H2) (WE E σ) := by
    refine ⟨by simp only [List.length_cons]; omega, T.hd, ps ++ [y], h1 ++ [.ins c []], .ref h1.length :: G ws zs, vw1, .cons ⟨y, e1, rfl⟩ (WVs.mono st1.pre wtl), ?_⟩
    have g0 := gd.step (st0.trans st1)
    refine (Good.bind (R := WV) (S := WV) g0).imp (fun v H2 q => ?_) fun _ _ _ z => z
    obtain ⟨ts, w2, h2, st2, vw2, wv2, gg⟩ := q
    dsimp only at gg
    split at gg
    · cases wv2
      exact ⟨rfl, gg.now (R := WV) vw2 ⟨y, at_pre st2.pre e1, rfl⟩⟩
    · exact gg.elim
  have lu : (Value.ref y :: us).length = n + 1 := by
    have a := r.length
    have b := wv.length
    simp only [List.length_cons]
    omega
  have lk : kv.length = ks.length := by
    have a := rk.length
    have b := wz.length
    omega
  have bt := hb.to _ (Value.ref y :: us) kv I2.kIn lu lk
  refine wpAny_call (make_map (f := fI) I.kIn mk.makes mk.init (beq_iff_eq.mp mk.fn) (codeAny_mono (F.run _ X.stack _ _ ⟨Value.ref y :: us, ks.zip kv⟩ (g9 (Value.ref y :: us) kv) _ _ (WE E σ) (hr.make C us (ks.zip kv)) (I2.env0.make C us (ks.zip kv)) bt r2 prom) fun fin s9 hq => ?_))
  match fin, hq with
  | .error er, hq => exact passAt cn.tk σ pins _ _ er s9 I2 hq
  | .ok (.ret u), hq =>
    obtain ⟨v, H', I3, rv, ev, q3⟩ := I2.after hq
    subst ev
    exact ⟨rv, V.ref y, H', I3, rfl, q3⟩
  | .ok .next, hq => exact hq.elim
  | .ok .brk, hq => exact hq.elim
  | .ok .cont, hq => exact hq.elim
/-- C(e, .., k = v, ..) -/
theorem se_makeF (M : MkF T X.prog X.w X.K X.mg X.base k x c C n ks np mf G) (hr : Room (k + 1) X.A) (hg : Gl X x) (ha : SA T X (e :: es) g) (hkw : SK T X kws gk)
    (hdb : (x == ("__debug__" : Str)) = false := by decide)
    (hall : (backToKw pos (keywordEach kws X.env)).all (·.1.isSome) = true := by rfl) (hks : (backToKw pos (keywordEach kws X.env)).filterMap (·.1) = ks := by rfl)
    (he : (starEach (e :: es) X.env) = (false, eval e X.env) :: starEach es X.env := by rfl) (hpl : ((backTo pos (starEach (e :: es) X.env)).any (·.1) || (backToKw pos (keywordEach kws X.env)).any (·.1.isNone)) = false := by rfl) :
    SE T X (.Call (.Name x p) (e :: es) kws pos) (mMakeF c n ks.length mf G g gk) := fun E cn => ⟨fun pins s σ H Q I h => by
  obtain ⟨ps, r, hv, es0, vw, gd⟩ := h
  obtain ⟨fI, fd, qs0, g9, gV, mk, _⟩ := M.ini
  refine wpAny_Call_Name_kw (ld_glob I hg M.mgC ?_ hdb)
  refine PySem.W.callWith_KW (h₀ := X.base) I.ok.mod.kin mk.kp hall (thn ((ha E cn).run pos pins s σ H _ I ⟨ps, r, hv, es0, vw, Good.bind (R := WVs) (S := WV) gd⟩) fun us s1 hh => ?_) hpl he
  obtain ⟨vs, H1, I1, r1, qs, ws, h1, st, vw1, wv, g1⟩ := hh
  refine thn ((hkw E cn).run pos pins s1 σ H1 _ I1 ⟨qs, r, h1, es0.mono st.pre, vw1, Good.bind (R := WVs) (S := WV) g1⟩) fun kv s2 hh => ?_
  obtain ⟨zv, H2, I2, rk, rs, zs, h2, st2, vw2, wz, g2⟩ := hh
  refine ⟨I2.kIn, ?_⟩
  rw [hks]
  dsimp only at g2
  split at g2
  · rename_i hn
    exact make_runF M hr cn I2 r1 rk vw2 (WVs.mono st2.pre wv) wz hn.1 hn.2 g2
  · exact g2.elim⟩
/-- C(k = v, ..), C() -/
theorem se_makeF0 (M : MkF T X.prog X.w X.K X.mg X.base k x c C 0 ks np mf G) (hr : Room (k + 1) X.A) (hg : Gl X x) (hkw : SK T X kws gk)
    (hdb : (x == ("__debug__" : Str)) = false := by decide)
    (hall : (backToKw pos (keywordEach kws X.env)).all (·.1.isSome) = true := by rfl) (hks : (backToKw pos (keywordEach kws X.env)).filterMap (·.1) = ks := by rfl)
    (hpl : (((backTo pos (starEach [] X.env)).any (·.1)) || (backToKw pos (keywordEach kws X.env)).any (·.1.isNone)) = false := by rfl) :
    SE T X (.Call (.Name x p) [] kws pos) (mMakeF c 0 ks.length mf G mNil gk) := fun E cn => ⟨fun pins s σ H Q I h => by
  obtain ⟨ps, r, hv, es0, vw, gd⟩ := h
  obtain ⟨fI, fd, qs0, g9, gV, mk, _⟩ := M.ini
  refine wpAny_Call_Name_kw (ld_glob I hg M.mgC ?_ hdb)
  refine PySem.W.callWith_KW0 (h₀ := X.base) I.ok.mod.kin mk.kp hall ?_ hpl
  have g1 : Good T WV ps H ((gk r hv).bind fun zs h2 => if ([] : List W).length = 0 ∧ zs.length = ks.length then (mf (.ref h2.length :: G [] zs) (h2 ++ [.ins c []])).bind fun v h3 => (match v with
      | .non => .val (.ref h2.length) h3
      | _ => .bad) else .bad) Q (WE E σ) := gd
  refine thn ((hkw E cn).run pos pins s σ H _ I ⟨ps, r, hv, es0, vw, Good.bind (R := WVs) (S := WV) g1⟩) fun kv s2 hh => ?_
  obtain ⟨zv, H2, I2, rk, rs, zs, h2, st2, vw2, wz, g2⟩ := hh
  refine ⟨I2.kIn, ?_⟩
  rw [hks]
  dsimp only at g2
  split at g2
  · rename_i hn
    exact make_runF M hr cn (us := []) (vs := []) I2 .nil rk vw2 .nil wz hn.1 hn.2 g2
  · exact g2.elim⟩
end
/-! ### a def with defaults -/
section
variable {P : Program} {w : World} {K : PySem.W.Frag} {mg : Str → Option Value} {base : Heap} {T : Tx} {N qs : List Str} {x qual : Str} {st : Stmt} {f : Addr} {fd : FuncData} {k : Nat} {b : MS} {dvs : List V} {kws : List (Str × V)}
theorem fn_defD (F : FunD K x qual (defArgs st) (defBody st) (defScope st) dvs kws f fd) (S : FnScope N qs (defScope st))
    (hb : ∀ (d9 : Hd) (cdv : Value) (A : Around) (outer : List Env) (s : Shared) (H : Hp) (E : XK), Room k (A.deeper (envOfC qual (defScope st) s.heap.objs.size f cdv)) → SSs (T.hold d9) (cxOf (L2.CX P w) P w K mg base N qual (defScope st) f cdv A outer s H E) (defBody st) b) :
    FnOk P w K mg base (L2.CX P w) (k + 1) f fd qs (spV T qs.length (mDef N b)) :=
  F.ok (CX := L2.CX P w) S (fun vs H Q E h => h.1) fun cdv A outer s H vs Q E hr h => (def_read h).elim fun d9 h => ⟨_, hb d9 cdv A outer s H E hr _ ⟨takes_of rfl rfl rfl rfl, passes_of rfl⟩, h⟩
end
end VL
end
section
/-! islower; in on tuples; constants; repr of dicts of flat values -/
namespace VL
open PySem L2 PySem.Spec PyProof.Rows
def mLower (a : Str) : W := .bl (Txt.islower a)
section
variable {T : Tx} {X : Cx} {o e : Expr} {f fe : Ws → Hv → Res W} {apos pos : Pos}
theorem se_lower (ho : SE T X o f) (hbase : attributeBase o "islower" X.env (eval o X.env) = eval o X.env := by rfl) (hline : (apos.endLine == pos.line) = true := by rfl) : SE T X (.Call (.Attribute o "islower" apos) [] [] pos) (mM0 mLower f) :=
  se_m0t (fun _ => trivial) (fun _ _ => rfl) PySem.F.slot_str_islower PySem.F.type_str_islower mt_islower ho hbase hline
end
/-! ### in, on lists and tuples of flat values -/
def mInA (neg : Bool) : MOp := fun x y h => match y with
  | .tup xs => (match flatW x, flatsW xs with
    | some v, some vs => .val (.bl (if neg then !inV v vs else inV v vs)) h
    | _, _ => .bad)
  | _ => mInL neg x y h
theorem ro_inA {T : Tx} (neg : Bool) {K : PySem.W.Frag} (hK : T.K = K := by rfl) : RO T (rIn K neg) (mInA neg) := by
  subst hK
  intro ps h H x y vx vy Q E vw wx wy gd
  unfold mInA at gd
  split at gd
  · rename_i xs
    obtain ⟨a, vs', rfl, ht, rr⟩ := wy.tup_of
    split at gd
    · rename_i v vs e2 e3
      obtain ⟨rfl, f⟩ := flatW_ok e2 wx
      obtain ⟨rfl, g⟩ := flatsW_ok e3 rr
      exact ⟨a, _, rfl, .inr (vw.tup a _ ht).sq, f, g, Good.now (R := WV) gd vw rfl⟩
    · exact gd.elim
  · exact ro_inL neg ps h H x y vx vy Q E vw wx wy gd
/-! ### names of the module's own: a tuple of flat values, a number -/
section
variable {T : Tx} {X : Cx} {e : Expr} {a : Addr}
theorem paired_flats {ps : Pl} : ∀ {ws : List W} {us : List V}, flatsW ws = some us → Paired (WV ps) ws us
  | [], us, e => by cases e; exact .nil
  | w :: ws, us, e => by
    unfold flatsW at e
    split at e
    · rename_i x xs e1 e2
      cases e
      refine .cons ?_ (paired_flats e2)
      cases w <;> first | (cases e1; done) | (cases e1; rfl)
    · cases e
theorem se_conT {ws : List W} {us : List V} (hp : PE X e (tC (.ref a))) (hk : KT X.K a us) (hf : flatsW ws = some us := by rfl) (hK : T.K = X.K := by rfl) : SE T X e (mC (.tup ws)) := fun E cn => PEi hp fun s H Q ⟨ps, r, hv, es, vw, gd⟩ => by
  have gd' : Good T WV ps H (.val (.tup ws) hv) Q _ := gd
  refine gd' (ps.more a us) H (.ref a) ⟨Pl.Le.more _ _ _, fun b o ha hb _ => absurd ha hb, fun _ _ z _ _ => z⟩ ⟨vw.len, vw.nd, fun i b o e1 e2 => (vw.ob i b o e1 e2).mono (Pl.Le.more _ _ _), vw.tab, vw.fact, (fun b vs t => ?_), vw.hold⟩ (WV.tup_mk (.inr ⟨rfl, rfl⟩) (paired_flats hf))
  rcases t with t | ⟨rfl, rfl⟩
  · exact vw.tup b vs t
  · rw [← hK] at hk
    exact .inr hk
theorem se_conI {x : Str} {n : Int} {t : Tok} {pos : Pos} (hg : Gl X x) (hm : X.mg x = some (.int n t)) (hd : (x == ("__debug__" : Str)) = false := by decide) : SE T X (.Name x pos) (mC (.int n)) := se_c (pe_glob (v := .int n) hg hm ⟨_, rfl⟩ hd) fun _ => rfl
end
/-! ### repr, of dicts of flat values too -/
def keyD : Key → PyData
  | .inl i => .int i
  | .inr s => .str s
def flatD : V → PyData
  | .bl b => .bool b
  | .int i => .int i
  | .str x => .str x
  | _ => .none
theorem reads_flat {h : Heap} {v : V} {u : Value} (f : flatV v = true) (r : RelV v u) : Reads h u (flatD v) [] := by
  cases v with
  | non => cases r; exact .none
  | bl b => cases r; exact .bool b
  | int i => obtain ⟨t, rfl⟩ := r; exact .int i t
  | str x => obtain ⟨t, rfl⟩ := r; exact .str x t
  | _ => cases f
theorem reads_key {h : Heap} {k : Key} {u : Value} (r : keyIs k u = true) : Reads h u (keyD k) [] := by
  rcases keyIs_shape r with ⟨i, t, rfl, rfl⟩ | ⟨x, t, rfl, rfl⟩
  · exact .int i t
  · exact .str x t
theorem reads_pairs {P : Program} {w : World} {h : Heap} : ∀ {kvs : List (Key × V)} {vs : List (Key × Value)} {es : List DictEntry}, (∀ p ∈ kvs, flatV p.2 = true) → KV kvs vs → Pairs (mixKind P w) es vs →
    ReadsAll h (es.map (·.key)) ((kvs.map fun q => (keyD q.1, flatD q.2)).map (·.1)) [] ∧ ReadsAll h (es.map (·.val)) ((kvs.map fun q => (keyD q.1, flatD q.2)).map (·.2)) []
  | [], _, _, _, .nil, .nil => ⟨.nil, .nil⟩
  | (k, v) :: kvs, (k2, u) :: vs, e :: es, hf, .cons h1 h2, .cons g1 g2 g3 => by
    obtain ⟨i1, i2⟩ := reads_pairs (h := h) (fun p hp => hf p (List.mem_cons_of_mem _ hp)) h2 g3
    have ek : k = k2 := h1.1
    subst ek
    have g1' : keyIs k e.key = true := g1
    refine ⟨.cons (as := []) (bs := []) (reads_key g1') i1, .cons (as := []) (bs := []) ?_ i2⟩
    show Reads h e.val (flatD v) []
    rw [g2]
    exact reads_flat (hf _ List.mem_cons_self) h1.2
def rReprF (K : PySem.W.Frag) : List V → Hp → VK → Prop := fun xs H Q => (∃ a kvs, xs = [.ref a] ∧ H a = some (.dK kvs) ∧ (∀ p ∈ kvs, flatV p.2 = true) ∧ (PyData.dict (kvs.map fun q => (keyD q.1, flatD q.2))).showable = true ∧ (PyData.dict (kvs.map fun q => (keyD q.1, flatD q.2))).depth ≤ 60 ∧ (PyData.dict (kvs.map fun q => (keyD q.1, flatD q.2))).shown.length ≤ sizeLine ∧ Q (.str (PyData.dict (kvs.map fun q => (keyD q.1, flatD q.2))).shown) H) ∨ rRepr K xs H Q
def mReprF : MFn := fun ws h => match ws with
  | [.ref p] => (match h[p]? with
    | some (.dic kvs) => (match flatKs kvs with
      | some us => if (PyData.dict (us.map fun q => (keyD q.1, flatD q.2))).showable = true ∧ (PyData.dict (us.map fun q => (keyD q.1, flatD q.2))).depth ≤ 60 ∧ (PyData.dict (us.map fun q => (keyD q.1, flatD q.2))).shown.length ≤ 100000 then .val (.str (PyData.dict (us.map fun q => (keyD q.1, flatD q.2))).shown) h else .bad
      | none => .bad)
    | _ => mRepr ws h)
  | _ => mRepr ws h
theorem rc_reprF {T : Tx} {K : PySem.W.Frag} (hK : T.K = K := by rfl) : RC T (rReprF K) mReprF := by
  subst hK
  intro ps h H ws vs Q E vw wv gd
  unfold mReprF at gd
  split at gd
  · split at gd
    · rename_i kvs e1
      split at gd
      · rename_i us e2
        split at gd
        · rename_i hc
          obtain ⟨v, rfl, a, ea, rfl⟩ := one_of wv
          obtain ⟨kv, rr, eH⟩ := vw.ob _ a _ ea e1
          obtain ⟨rfl, fl⟩ := flatKs_ok e2 rr
          exact .inl ⟨a, _, rfl, eH, fl, hc.1, hc.2.1, Nat.le_trans hc.2.2 (by decide), Good.now (R := WV) gd vw rfl⟩
        · exact gd.elim
      · exact gd.elim
    · exact .inr (rc_repr rfl ps h H _ vs Q E vw wv gd)
  · exact .inr (rc_repr rfl ps h H _ vs Q E vw wv gd)
theorem call_reprF {X : Cx} (hg : X.A.guards = some []) (hu : X.A.units + 64 < cLine) : CallR X (.builtin "repr") (rReprF X.K) := by
  intro pins s σ H xs us Q I r h; rcases h with ⟨a, kvs, rfl, ea, fl, h1, h2, h3, q⟩ | h
  · obtain ⟨u, rfl, ru⟩ := vals1 r
    cases ru
    have hob : ObjOk X.prog X.w H s.heap a (.dK kvs) := I.hok a _ ea
    obtain ⟨_, hsm, kv, rkv, o, es, ep, g1, g2, g3, g4, g5, _⟩ := hob
    obtain ⟨r1, r2⟩ := reads_pairs (h := s.heap) fl rkv g5
    have rd : Reads s.heap (.ref a) (.dict (kvs.map fun q => (keyD q.1, flatD q.2))) ([a] ++ [] ++ []) := .dict (kvs := kvs.map fun q => (keyD q.1, flatD q.2)) g1 g2.1 g3 r1 r2
    have ns : sysModules ∉ ([a] ++ [] ++ [] : List Addr) := by
      have z : ¬ a = sysModules := by simpa using hsm
      simpa using fun q => z q.symm
    have un : X.A.units + ((PyData.dict (kvs.map fun q => (keyD q.1, flatD q.2))).depth + 1) < cLine := by omega
    exact repr_of_reads' rd h1 (fun _ => ns) hg un (fun _ _ e => e) (fun h' u tk hk => ⟨.str _, H, I.kept hk, ⟨_, rfl⟩, q⟩) h3
  · exact call_reprD hg hu pins s σ H xs us Q I r h
end VL
end
section
/-! what a call with defaults binds -/
namespace VL
open PySem L2 PySem.Spec PyProof.Rows
def KbF (K : PySem.W.Frag) (fd : FuncData) (qs : List Str) (n : Nat) (ks : List Str) (np : Nat) (Gm : List W → List W → List W) : Prop :=
  qs.length = np + 1 ∧ ∃ (g : List Value → List Value → List Value) (gV : List V → List V → List V), KBn K fd qs (n + 1) ks g gV ∧
    ∀ (ps : Pl) (y : V) (ws zs : List W) (vs us : List V), Paired (WV ps) ws vs → Paired (WV ps) zs us → ws.length = n → zs.length = ks.length → ∃ tl, gV (y :: vs) us = y :: tl ∧ Paired (WV ps) (Gm ws zs) tl ∧ tl.length = np
theorem MkF.of {T : Tx} {P : Program} {w : World} {K : PySem.W.Frag} {mg : Str → Option Value} {base : Heap} {k : Nat} {x : Str} {c : String} {C fI : Addr} {fd : FuncData} {n : Nat} {ks : List Str} {np : Nat} {mf : MFn} {Gm : List W → List W → List W} {qs : List Str}
    (cv : T.cv c = .ref C) (mgC : mg x = some (.ref C)) (mk : Mk K C fI) (F : FnOk P w K mg base (L2.CX P w) k fI fd qs (spV T (np + 1) mf)) (h : KbF K fd qs n ks np Gm) : MkF T P w K mg base k x c C n ks np mf Gm := by
  obtain ⟨ql, g, gV, hb, hG⟩ := h
  exact ⟨cv, mgC, fI, fd, qs, g, gV, mk, ql, F, hb, hG⟩
/-- the defaults behind the first j, then the lacking keyword-only ones, then the keywords -/
def gAll {α : Type} (j : Nat) (us its mv ws : List α) : List α := us ++ (its.drop j ++ (mv ++ ws))
theorem gAll_rel {j : Nat} {vs ds mz zs : List V} {us its mv ws : List Value} (a : Vals vs us) (b : Vals ds its) (c : Vals mz mv) (d : Vals zs ws) : Vals (gAll j vs ds mz zs) (gAll j us its mv ws) := a.append ((b.drop j).append (c.append d))
theorem kbF_of {K : PySem.W.Frag} {fd : FuncData} {qs : List Str} {n j : Nat} {ks : List Str} {np : Nat} {dvs mvs : List V} {dws mws : List W} (hq : qs.length = np + 1) (hd : ∀ ps, Paired (WV ps) (dws.drop j) (dvs.drop j)) (hm : ∀ ps, Paired (WV ps) mws mvs) (hn : n + ((dvs.drop j).length + (mvs.length + ks.length)) = np)
    (h : ∃ its mv : List Value, KBn K fd qs (n + 1) ks (fun us ws => gAll j us its mv ws) (fun vs zs => gAll j vs dvs mvs zs)) : KbF K fd qs n ks np (fun ws zs => ws ++ (dws.drop j ++ (mws ++ zs))) := by
  obtain ⟨its, mv, hb⟩ := h
  refine ⟨hq, _, _, hb, fun ps y ws zs vs us wv wz l1 l2 => ⟨vs ++ (dvs.drop j ++ (mvs ++ us)), rfl, paired_app wv (paired_app (hd ps) (paired_app (hm ps) wz)), ?_⟩⟩
  have e1 := wv.length
  have e2 := wz.length
  simp only [List.length_append] at hn ⊢
  omega
end VL
namespace VL
open PySem L2 PySem.Spec PyProof.Rows
section
variable {T : Tx} {P : Program} {w : World} {K : PySem.W.Frag} {mg : Str → Option Value} {base : Heap} {k n np : Nat} {x : Str} {c : String} {C f : Addr} {ks : List Str} {mf : MFn} {Gm : List W → List W → List W}
theorem MkF.hold (M : MkF T P w K mg base k x c C n ks np mf Gm) (d : Hd) : MkF (T.hold d) P w K mg base k x c C n ks np mf Gm := ⟨M.cv, M.mgC, M.ini⟩
theorem MkV.hold (M : MkV T P w K mg base k x c C n mf) (d : Hd) : MkV (T.hold d) P w K mg base k x c C n mf := ⟨M.cv, M.mgC, M.ini⟩
theorem FnG.hold (F : FnG P w K mg base T k f n mf) (d : Hd) : FnG P w K mg base (T.hold d) k f n mf := ⟨F.run⟩
end
end VL
namespace VL
open PySem
theorem hu1 {u : Nat} (h : u + 64 < cLine) : u + 1 < cLine := Nat.lt_of_le_of_lt (Nat.add_le_add_left (by decide) u) h
theorem hu0 {u : Nat} (h : u + 64 < cLine) : u < cLine := Nat.lt_of_le_of_lt (Nat.le_add_right u 64) h
end VL
end
section
/-! dicts from texts to numbers, as lists -/
namespace VL
open PySem L2
abbrev DI := List (Str × Int)
def dW (D : DI) : List (Key × W) := D.map fun q => (.inr q.1, .int q.2)
def gt : DI → Str → Option Int
  | [], _ => none
  | (t, i) :: r, s => if t = s then some i else gt r s
def pt (D : DI) (s : Str) (i : Int) : DI := if s ∈ D.map (·.1) then D.map (fun q => if q.1 = s then (q.1, i) else q) else D ++ [(s, i)]
def mgD (D E : DI) : DI := E.foldl (fun a q => pt a q.1 q.2) D
def Nd (D : DI) : Prop := (D.map (·.1)).Nodup
section
variable {D E : DI} {s t : Str} {i : Int}
theorem gt_cons {r : DI} : gt ((t, i) :: r) s = if t = s then some i else gt r s := rfl
theorem dW_len : (dW D).length = D.length := by simp [dW]
theorem gt_none : ∀ {D : DI}, gt D s = none ↔ s ∉ D.map (·.1)
  | [] => by simp [gt]
  | (t, i) :: r => by
    unfold gt
    by_cases c : t = s
    · subst c; simp
    · rw [if_neg c, gt_none, List.map_cons, List.mem_cons]
      constructor
      · intro a b
        rcases b with b | b
        · exact c b.symm
        · exact a b
      · exact fun a b => a (.inr b)
theorem valW_dW : ∀ {D : DI}, valW (dW D) (.inr s) = (gt D s).map W.int
  | [] => rfl
  | (t, i) :: r => by
    have ih := valW_dW (D := r)
    unfold gt
    by_cases c : t = s
    · subst c
      rw [if_pos rfl]
      simp [dW, valW]
    · rw [if_neg c, ← ih]
      simp [dW, valW, List.find?_cons, c]
theorem any_dW : ((dW D).any fun kv => decide (kv.1 = .inr s)) = decide (s ∈ D.map (·.1)) := by
  rw [Bool.eq_iff_iff]
  simp only [List.any_eq_true, decide_eq_true_eq, dW, List.mem_map]
  constructor
  · rintro ⟨_, ⟨q, hq, rfl⟩, e⟩
    exact ⟨q, hq, by simpa using e⟩
  · rintro ⟨q, hq, rfl⟩
    exact ⟨_, ⟨q, hq, rfl⟩, rfl⟩
theorem put_dW : putW2 (dW D) (.inr s) (.int i) = dW (pt D s i) := by
  unfold putW2 pt
  rw [any_dW]
  by_cases c : s ∈ D.map (·.1)
  · rw [if_pos (decide_eq_true c), if_pos c]
    unfold dW
    (rw [List.map_map, List.map_map])
    refine List.map_congr_left fun q hq => ?_
    by_cases e : q.1 = s
    · simp [e]
    · simp [e]
  · rw [if_neg (by rw [decide_eq_false c]; decide), if_neg c]
    simp [dW]
theorem merge_dW : ∀ {E D : DI}, mergeW (dW D) (dW E) = dW (mgD D E)
  | [], D => rfl
  | (s, i) :: E, D => by
    show mergeW (putW2 (dW D) (.inr s) (.int i)) (dW E) = _
    rw [put_dW, merge_dW]
    rfl
theorem gt_map : ∀ {D : DI}, gt (D.map (fun q => if q.1 = s then (q.1, i) else q)) t = if t = s then (gt D s).map fun _ => i else gt D t
  | [] => by by_cases c : t = s <;> simp [gt, c]
  | (u, j) :: r => by
    have ih := gt_map (D := r)
    rw [List.map_cons]
    by_cases c : u = s
    · subst c
      rw [if_pos rfl]
      unfold gt
      by_cases e : u = t
      · subst e; simp
      · rw [if_neg e, ih, if_neg (Ne.symm e), if_neg e, if_neg (Ne.symm e)]
    · rw [if_neg c]
      unfold gt
      by_cases e : u = t
      · subst e
        rw [if_pos rfl, if_neg c, if_pos rfl]
      · rw [if_neg e, ih, if_neg e]
        simp [c]
theorem gt_app : ∀ {D : DI}, gt (D ++ E) t = (gt D t).or (gt E t)
  | [] => by simp [gt]
  | (u, j) :: r => by
    have ih := gt_app (D := r)
    rw [List.cons_append, gt_cons, gt_cons]
    by_cases e : u = t
    · simp [e]
    · rw [if_neg e, if_neg e, ih]
theorem gt_pt : gt (pt D s i) t = if t = s then some i else gt D t := by
  unfold pt
  by_cases c : s ∈ D.map (·.1)
  · rw [if_pos c, gt_map]
    by_cases e : t = s
    · rw [if_pos e, if_pos e]
      cases q : gt D s with
      | none => exact absurd c (gt_none.mp q)
      | some v => rfl
    · rw [if_neg e, if_neg e]
  · rw [if_neg c, gt_app]
    by_cases e : t = s
    · subst e
      rw [gt_none.mpr c, if_pos rfl]
      simp [gt]
    · rw [if_neg e]
      have : gt [(s, i)] t = none := by simp [gt, Ne.symm e]
      rw [this]
      simp
theorem keys_map : (D.map (fun q => if q.1 = s then (q.1, i) else q)).map (·.1) = D.map (·.1) := by
  rw [List.map_map]
  refine List.map_congr_left fun q hq => ?_
  by_cases e : q.1 = s <;> simp [e]
theorem nd_pt (n : Nd D) : Nd (pt D s i) := by
  unfold pt
  by_cases c : s ∈ D.map (·.1)
  · rw [if_pos c]
    unfold Nd
    rw [keys_map]
    exact n
  · rw [if_neg c]
    unfold Nd
    (rw [List.map_append, List.nodup_append])
    refine ⟨n, by simp, ?_⟩
    rintro a ha b hb rfl
    simp at hb
    exact c (hb ▸ ha)
theorem pt_new (c : s ∉ D.map (·.1)) : pt D s i = D ++ [(s, i)] := if_neg c
theorem pt_mem {q : Str × Int} (h : q ∈ pt D s i) : q ∈ D ∨ q = (s, i) := by
  unfold pt at h
  split at h
  · obtain ⟨p, hp, e⟩ := List.mem_map.mp h
    split at e
    · rename_i c
      rw [← e, c]
      exact .inr rfl
    · rw [← e]
      exact .inl hp
  · (rcases List.mem_append.mp h with h | h)
    · exact .inl h
    · (exact .inr (by simpa using h))
theorem pt_len : (pt D s i).length ≤ D.length + 1 := by
  unfold pt
  split <;> simp
theorem mg_nil : ∀ {E D : DI}, Nd (D ++ E) → mgD D E = D ++ E
  | [], D, _ => by simp [mgD]
  | (s, i) :: E, D, n => by
    have e : D ++ (s, i) :: E = (D ++ [(s, i)]) ++ E := by simp
    have c : s ∉ D.map (·.1) := fun z => by
      unfold Nd at n
      rw [List.map_append, List.nodup_append] at n
      exact n.2.2 s z s (by simp) rfl
    show mgD (pt D s i) E = _
    rw [pt_new c, e]
    exact mg_nil (e ▸ n)
theorem mg_self (n : Nd D) : mgD [] D = D := mg_nil (D := []) n
theorem mg_app {F : DI} : mgD D (E ++ F) = mgD (mgD D E) F := by
  unfold mgD
  rw [List.foldl_append]
theorem nd_rev (n : Nd D) : Nd D.reverse := by
  unfold Nd
  rw [List.map_reverse]
  exact List.pairwise_reverse.mpr (n.imp fun h => Ne.symm h)
theorem gt_of_mem : ∀ {D : DI}, Nd D → (s, i) ∈ D → gt D s = some i
  | (t, j) :: r, n, h => by
    unfold Nd at n
    rw [List.map_cons, List.nodup_cons] at n
    unfold gt
    (rcases List.mem_cons.mp h with z | z)
    · cases z
      rw [if_pos rfl]
    · rw [if_neg]
      · exact gt_of_mem n.2 z
      · intro e
        have e : t = s := e
        subst e
        exact n.1 (List.mem_map.mpr ⟨_, z, rfl⟩)
theorem mem_of_gt : ∀ {D : DI}, gt D s = some i → (s, i) ∈ D
  | (t, j) :: r, h => by
    unfold gt at h
    split at h
    · rename_i c
      cases h
      rw [c]
      exact List.mem_cons_self
    · exact List.mem_cons_of_mem _ (mem_of_gt h)
theorem gt_iff (n : Nd D) : gt D s = some i ↔ (s, i) ∈ D := ⟨mem_of_gt, gt_of_mem n⟩
theorem gt_ext (h : ∀ q, q ∈ D ↔ q ∈ E) (n : Nd D) (m : Nd E) (s : Str) : gt D s = gt E s := by
  cases q : gt D s with
  | some v => exact ((gt_iff m).mpr ((h _).mp (mem_of_gt q))).symm
  | none =>
    cases p : gt E s with
    | none => rfl
    | some v => rw [(gt_iff n).mpr ((h _).mpr (mem_of_gt p))] at q; cases q
theorem gt_rev (n : Nd D) : gt D.reverse s = gt D s := gt_ext (fun q => List.mem_reverse) (nd_rev n) n s
theorem nd_filter (n : Nd D) (p : Str × Int → Bool) : Nd (D.filter p) := List.Sublist.nodup (List.Sublist.map _ List.filter_sublist) n
theorem gt_filter (n : Nd D) (p : Int → Bool) : gt (D.filter fun q => p q.2) s = (gt D s).filter p := by
  have nf := nd_filter n fun q => p q.2
  cases q : gt D s with
  | some v =>
    have m := mem_of_gt q
    by_cases c : p v = true
    · rw [gt_of_mem nf (List.mem_filter.mpr ⟨m, c⟩), Option.filter_some, if_pos c]
    · have : gt (D.filter fun q => p q.2) s = none := by
        cases z : gt (D.filter fun q => p q.2) s with
        | none => rfl
        | some u =>
          obtain ⟨z1, z2⟩ := List.mem_filter.mp (mem_of_gt z)
          rw [gt_of_mem n z1] at q
          cases q
          exact absurd z2 c
      rw [this, Option.filter_some, if_neg c]
  | none =>
    cases z : gt (D.filter fun q => p q.2) s with
    | none => rfl
    | some u =>
      obtain ⟨z1, z2⟩ := List.mem_filter.mp (mem_of_gt z)
      rw [gt_of_mem n z1] at q
      cases q
theorem nodup_len {α : Type} [DecidableEq α] : ∀ {l m : List α}, l.Nodup → (∀ x ∈ l, x ∈ m) → l.length ≤ m.length
  | [], _, _, _ => (Nat.zero_le _)
  | a :: l, m, n, h => by
    rw [List.nodup_cons] at n
    have ha := h a List.mem_cons_self
    have ih := nodup_len (m := m.erase a) n.2 fun x hx => (List.mem_erase_of_ne (fun e => n.1 (by rw [← e]; exact hx))).mpr (h x (List.mem_cons_of_mem _ hx))
    have l1 := List.length_erase_of_mem ha
    have l2 : 0 < m.length := List.length_pos_of_mem ha
    simp only [List.length_cons]
    omega
theorem keys_of_gt (h : ∀ s, gt D s = gt E s) : ∀ x ∈ D.map (·.1), x ∈ E.map (·.1) := fun x hx => by
  by_cases c : x ∈ E.map (·.1)
  · exact c
  · have e := gt_none.mpr c
    rw [← h] at e
    exact absurd hx (gt_none.mp e)
theorem len_of_gt (n : Nd D) (m : Nd E) (h : ∀ s, gt D s = gt E s) : D.length = E.length := by
  have a := nodup_len n (keys_of_gt h)
  have b := nodup_len m (keys_of_gt fun s => (h s).symm)
  simp only [List.length_map] at a b
  omega
def dV (D : DI) : List (Key × V) := D.map fun q => (.inr q.1, .int q.2)
theorem flatKs_dW : ∀ {D : DI}, flatKs (dW D) = some (dV D)
  | [] => rfl
  | (s, i) :: r => by
    show (match flatW (.int i), flatKs (dW r) with | some v, some vs => some ((Sum.inr s, v) :: vs) | _, _ => none) = _
    rw [flatKs_dW]
    rfl
theorem valV_dV : ∀ {D : DI}, valV (dV D) (.inr s) = (gt D s).map V.int
  | [] => rfl
  | (t, i) :: r => by
    have ih := valV_dV (D := r)
    show valV ((Sum.inr t, V.int i) :: dV r) _ = _
    unfold gt
    by_cases c : t = s
    · subst c
      rw [if_pos rfl, valV_pos rfl]
      rfl
    · rw [if_neg c, ← ih, valV_neg (fun e => c (Sum.inr.inj e))]
theorem hits_dV : ∀ {D : DI}, hitsV (dV E) (dV D) = D.all fun q => decide (gt E q.1 = some q.2)
  | [] => rfl
  | (s, i) :: r => by
    show (match valV (dV E) (.inr s) with | none => false | some y => eqV (.int i) y && hitsV (dV E) (dV r)) = _
    rw [valV_dV, List.all_cons, hits_dV]
    cases q : gt E s with
    | none => simp
    | some v =>
      show (eqV (.int i) (.int v) && _) = _
      have e : eqV (.int i) (.int v) = decide (i = v) := by
        rw [Bool.eq_iff_iff]
        simp [eqV]
      rw [e]
      by_cases c : i = v
      · subst c; simp
      · have : ¬ (v = i) := fun z => c z.symm
        simp [c, this]
/-- the same by keys -/
def sameD (D E : DI) : Bool := D.length == E.length && D.all fun q => decide (gt E q.1 = some q.2)
theorem same_iff (n : Nd D) (m : Nd E) : sameD D E = true ↔ ∀ s, gt D s = gt E s := by
  unfold sameD
  rw [Bool.and_eq_true, beq_iff_eq, List.all_eq_true]
  constructor
  · rintro ⟨hl, ha⟩ s
    cases q : gt D s with
    | some v => exact (of_decide_eq_true (ha _ (mem_of_gt q))).symm
    | none =>
      cases p : gt E s with
      | none => rfl
      | some v =>
        have n1 : (s :: D.map (·.1)).Nodup := List.nodup_cons.mpr ⟨gt_none.mp q, n⟩
        have := nodup_len (m := E.map (·.1)) n1 fun x hx => by
          rcases List.mem_cons.mp hx with z | z
          · subst z
            exact List.mem_map.mpr ⟨_, mem_of_gt p, rfl⟩
          · obtain ⟨r, hr, rfl⟩ := List.mem_map.mp z
            exact List.mem_map.mpr ⟨_, mem_of_gt (of_decide_eq_true (ha _ hr)), rfl⟩
        simp only [List.length_cons, List.length_map] at this
        omega
  · intro h
    refine ⟨len_of_gt n m h, fun q hq => decide_eq_true ?_⟩
    rw [← h]
    exact gt_of_mem n hq
theorem eqD_of {h : Hv} {a b : Nat} (e1 : h[a]? = some (.dic (dW D))) (e2 : h[b]? = some (.dic (dW E))) : mEqD false (.ref a) (.ref b) h = .val (.bl (sameD D E)) h := by
  have l1 : (dV D).length = D.length := by simp [dV]
  have l2 : (dV E).length = E.length := by simp [dV]
  unfold mEqD
  simp only [e1, e2, flatKs_dW, hits_dV, l1, l2]
  rfl
theorem neD_of {h : Hv} {a b : Nat} (e1 : h[a]? = some (.dic (dW D))) (e2 : h[b]? = some (.dic (dW E))) : mEqD true (.ref a) (.ref b) h = .val (.bl (!sameD D E)) h := by
  have l1 : (dV D).length = D.length := by simp [dV]
  have l2 : (dV E).length = E.length := by simp [dV]
  unfold mEqD
  simp only [e1, e2, flatKs_dW, hits_dV, l1, l2]
  rfl
/-! ### the mirrors of dicts -/
theorem getDO_dW {h : Hv} {p : Nat} {x : W} (e : dicO h[p]? = some (dW D)) : getDO (.ref p) (.str s) (some x) h = .val ((gt D s).elim x W.int) h := by
  unfold getDO
  simp only [keyW, e, valW_dW]
  cases gt D s <;> rfl
theorem getDO_in {h : Hv} {p : Nat} (e : dicO h[p]? = some (dW D)) (g : gt D s = some i) : getDO (.ref p) (.str s) none h = .val (.int i) h := by
  unfold getDO
  simp only [keyW, e, valW_dW, g]
  rfl
theorem pairsW_dW : ∀ {D : DI}, pairsW ((dW D).map itemW) = some (dW D)
  | [] => rfl
  | (s, i) :: r => by
    have ih := pairsW_dW (D := r)
    show pairsW (.tup [.str s, .int i] :: (dW r).map itemW) = _
    unfold pairsW
    simp only [keyW, ih]
    rfl
theorem pairsW_app : ∀ {xs ys : List W} {a b : List (Key × W)}, pairsW xs = some a → pairsW ys = some b → pairsW (xs ++ ys) = some (a ++ b)
  | [], ys, a, b, h, g => by cases h; exact g
  | x :: xs, ys, a, b, h, g => by
    unfold pairsW at h
    split at h
    · rename_i q0; cases q0
    · rename_i k1 v1 r1 q0
      cases q0
      split at h
      · rename_i k2 r2 e1 e2
        cases h
        have ih := pairsW_app e2 g
        show pairsW (.tup [k1, v1] :: (xs ++ ys)) = _
        unfold pairsW
        simp only [e1, ih]
        rfl
      · cases h
    · cases h
theorem pairsW_rev (D : DI) : pairsW ((dW D).map itemW).reverse = some (dW D.reverse) := by
  have : ((dW D).map itemW).reverse = (dW D.reverse).map itemW := by simp [dW]
  rw [this]
  exact pairsW_dW
end
end VL
end
section
/-! walks over locked dicts -/
namespace VL
open PySem L2
theorem set_set_eq {α : Type} {h : List α} {p : Nat} {a b : α} : (h.set p a).set p b = h.set p b := List.set_set ..
theorem set_get_eq {α : Type} {h : List α} {p : Nat} {a : α} (e : h[p]? = some a) : h.set p a = h := by
  apply List.ext_getElem?
  intro i
  by_cases c : i = p
  · subst c
    rw [List.getElem?_set_self (List.getElem?_eq_some_iff.mp e).1, e]
  · rw [List.getElem?_set_ne (Ne.symm c)]
theorem slotP_of {i p : Nat} {r : Ws} (e : r[i]? = some (some (.ref p))) : slotP i r = some p := by
  unfold slotP
  rw [e]
/-- a locked expression whose heap only grows -/
theorem lockE_of {i p : Nat} {f : Ws → Hv → Res W} {r : Ws} {h : Hv} {kvs : List (Key × W)} {w : W} {t : Hv} (er : r[i]? = some (some (.ref p))) (e : h[p]? = some (.dic kvs)) (ef : f r (h.set p (.rod kvs)) = .val w (h.set p (.rod kvs) ++ t)) : mLockE i f r h = .val w (h ++ t) := by
  have lt : p < h.length := (List.getElem?_eq_some_iff.mp e).1
  unfold mLockE
  simp only [slotP_of er, e, ef]
  show Res.val w ((h.set p (.rod kvs) ++ t).set p (.dic kvs)) = _
  rw [List.set_append_left p _ (by rw [List.length_set]; exact lt), set_set_eq, set_get_eq e]
/-- a list over a dict's items, by pure pieces -/
theorem compT_items {D : List (Key × W)} {p q i j : Nat} {f : Ws → Hv → Res W} {r : Ws} (g : Key × W → W) (hf : ∀ (z : Key × W) (h : Hv), z ∈ D → h[p]? = some (.rod D) → f ((r.set i (some (kW z.1))).set j (some z.2)) h = .val (g z) h) :
    ∀ (n k : Nat) (h : Hv) (acc : List W), k + n = D.length → h[p]? = some (.rod D) → p ≠ q → h[q]? = some (.lst acc) → acc.length + n < 100000 →
      compT (nxItems p) i j mYes f q (n + 1) k r h = .val (.ref q) (h.set q (.lst (acc ++ (D.drop k).map g)))
  | 0, k, h, acc, hk, e1, ne, e2, hl => by
    have d : D.drop k = [] := List.drop_eq_nil_of_le (by omega)
    have z : D[k]? = none := List.getElem?_eq_none_iff.mpr (by omega)
    unfold compT
    simp only [nxItems, e1, z, d, List.map_nil, List.append_nil]
    rw [set_get_eq e2]
  | n + 1, k, h, acc, hk, e1, ne, e2, hl => by
    have lt : k < D.length := by omega
    have z : D[k]? = some D[k] := List.getElem?_eq_getElem lt
    have m : D[k] ∈ D := List.getElem_mem lt
    have ef := hf D[k] h m e1
    have lq : q < h.length := (List.getElem?_eq_some_iff.mp e2).1
    have ih := compT_items (q := q) g hf n (k + 1) (h.set q (.lst (acc ++ [g D[k]]))) (acc ++ [g D[k]]) (by omega) (by rw [List.getElem?_set_ne (Ne.symm ne)]; exact e1) ne (List.getElem?_set_self lq) (by simp; omega)
    have dk : D.drop k = D[k] :: D.drop (k + 1) := (List.getElem_cons_drop lt).symm
    unfold compT
    have st : setT i j (itemW D[k]) r = some ((r.set i (some (kW D[k].1))).set j (some D[k].2)) := rfl
    simp only [nxItems, e1, z, st]
    have ys : mYes ((r.set i (some (kW D[k].1))).set j (some D[k].2)) h = .val true h := rfl
    simp only [ys, noX, bind_val, if_true, ef, e2, show acc.length < 100000 by omega]
    rw [ih, set_set_eq, dk, List.map_cons, List.append_assoc]
    rfl
theorem lcT_items {D : List (Key × W)} {p i j : Nat} {f fo : Ws → Hv → Res W} {r : Ws} {h : Hv} (g : Key × W → W) (hf : ∀ (z : Key × W) (h : Hv), z ∈ D → h[p]? = some (.rod D) → f ((r.set i (some (kW z.1))).set j (some z.2)) h = .val (g z) h) (ho : fo r h = .val (.ref p) h) (e1 : h[p]? = some (.rod D)) (hl : D.length < 90000) :
    mLcT (mItems fo) i j mYes f r h = .val (.ref h.length) (h ++ [.lst (D.map g)]) := by
  have lt : p < h.length := (List.getElem?_eq_some_iff.mp e1).1
  have src : mItems fo r h = .val ⟨D.length + 1, nxItems p⟩ h := by
    unfold mItems
    rw [ho, bind_val]
    simp only [srcItems, e1]
  unfold mLcT
  rw [src, bind_val]
  have := compT_items (q := h.length) g hf D.length 0 (h ++ [.lst []]) [] (by omega) (get_old e1) (by omega) get_last (by simp; omega)
  rw [this]
  simp
/-- {k: d[k] for k in d if ..}, by pure pieces -/
theorem compD_keys {D : List (Key × W)} {p q i : Nat} {t : Ws → Hv → Res Bool} {fk fv : Ws → Hv → Res W} {r : Ws} (b : Key × W → Bool) (hb : ∀ (z : Key × W) (h : Hv), z ∈ D → h[p]? = some (.rod D) → t (r.set i (some (kW z.1))) h = .val (b z) h) (hk : ∀ (z : Key × W) (h : Hv), fk (r.set i (some (kW z.1))) h = .val (kW z.1) h) (hv : ∀ (z : Key × W) (h : Hv), z ∈ D → h[p]? = some (.rod D) → fv (r.set i (some (kW z.1))) h = .val z.2 h) :
    ∀ (n k : Nat) (h : Hv) (acc : List (Key × W)), k + n = D.length → h[p]? = some (.rod D) → p ≠ q → h[q]? = some (.dic acc) → acc.length + n < 100000 → (acc.map (·.1) ++ (D.drop k).map (·.1)).Nodup →
      compD (nxKeys p) i t fk fv q (n + 1) k r h = .val (.ref q) (h.set q (.dic (acc ++ (D.drop k).filter b)))
  | 0, k, h, acc, e0, e1, ne, e2, hl, nd => by
    have d : D.drop k = [] := List.drop_eq_nil_of_le (by omega)
    have z : D[k]? = none := List.getElem?_eq_none_iff.mpr (by omega)
    unfold compD
    simp only [nxKeys, e1, z, d, List.filter_nil, List.append_nil]
    rw [set_get_eq e2]
  | n + 1, k, h, acc, e0, e1, ne, e2, hl, nd => by
    have lt : k < D.length := by omega
    have z : D[k]? = some D[k] := List.getElem?_eq_getElem lt
    have m : D[k] ∈ D := List.getElem_mem lt
    have lq : q < h.length := (List.getElem?_eq_some_iff.mp e2).1
    have dk : D.drop k = D[k] :: D.drop (k + 1) := (List.getElem_cons_drop lt).symm
    rw [dk, List.map_cons] at nd
    unfold compD
    simp only [nxKeys, e1, z, hb D[k] h m e1, noX, bind_val]
    by_cases c : b D[k] = true
    · have kw : keyW (kW D[k].1) = some D[k].1 := by cases D[k].1 <;> rfl
      have nn : ¬ (acc.any fun kv => decide (kv.1 = D[k].1)) = true := fun y => by
        obtain ⟨u, hu, e⟩ := List.any_eq_true.mp y
        rw [List.nodup_append] at nd
        exact nd.2.2 u.1 (List.mem_map.mpr ⟨u, hu, rfl⟩) D[k].1 List.mem_cons_self (of_decide_eq_true e)
      have pn : putW2 acc D[k].1 D[k].2 = acc ++ [D[k]] := if_neg nn
      have ih := compD_keys (q := q) b hb hk hv n (k + 1) (h.set q (.dic (acc ++ [D[k]]))) (acc ++ [D[k]]) (by omega) (by rw [List.getElem?_set_ne (Ne.symm ne)]; exact e1) ne (List.getElem?_set_self lq) (by simp; omega) (by simpa using nd)
      rw [if_pos c]
      simp only [hk, noX, bind_val, hv D[k] h m e1, kw, e2, show acc.length < 100000 by omega, if_true, pn]
      rw [ih, set_set_eq, dk, List.filter_cons_of_pos c, List.append_assoc]
      rfl
    · have ih := compD_keys (q := q) b hb hk hv n (k + 1) h acc (by omega) e1 ne e2 (by omega) (by
        rw [List.nodup_append] at nd ⊢
        obtain ⟨n1, n2, n3⟩ := nd
        exact ⟨n1, (List.nodup_cons.mp n2).2, fun a ha c hc => n3 a ha c (List.mem_cons_of_mem _ hc)⟩)
      rw [if_neg c, ih, dk, List.filter_cons_of_neg c]
theorem dc_keys {D : List (Key × W)} {p i : Nat} {t : Ws → Hv → Res Bool} {fo fk fv : Ws → Hv → Res W} {r : Ws} {h : Hv} (b : Key × W → Bool) (hb : ∀ (z : Key × W) (h : Hv), z ∈ D → h[p]? = some (.rod D) → t (r.set i (some (kW z.1))) h = .val (b z) h) (hk : ∀ (z : Key × W) (h : Hv), fk (r.set i (some (kW z.1))) h = .val (kW z.1) h) (hv : ∀ (z : Key × W) (h : Hv), z ∈ D → h[p]? = some (.rod D) → fv (r.set i (some (kW z.1))) h = .val z.2 h)
    (ho : fo r h = .val (.ref p) h) (e1 : h[p]? = some (.rod D)) (hl : D.length < 90000) (nd : (D.map (·.1)).Nodup) : mDc (mKeys fo) i t fk fv r h = .val (.ref h.length) (h ++ [.dic (D.filter b)]) := by
  have lt : p < h.length := (List.getElem?_eq_some_iff.mp e1).1
  have src : mKeys fo r h = .val ⟨D.length + 1, nxKeys p⟩ h := by
    unfold mKeys
    rw [ho, bind_val]
    simp only [srcKeys, e1]
  unfold mDc
  rw [src, bind_val]
  have := compD_keys (q := h.length) b hb hk hv D.length 0 (h ++ [.dic []]) [] (by omega) (get_old e1) (by omega) get_last (by simp; omega) (by simpa using nd)
  rw [this]
  simp
theorem nd_dW {D : DI} (n : Nd D) : ((dW D).map (·.1)).Nodup := by
  have e : (dW D).map (·.1) = (D.map (·.1)).map Sum.inr := by simp [dW]
  rw [e]
  exact List.Pairwise.map _ (fun a b h z => h (Sum.inr.inj z)) n
end VL
namespace VL
open PySem L2
theorem star_ok {D : DI} {d : Nat} {s : Str} {i : Int} {r : Ws} {h : Hv} {fm fk fv : Ws → Hv → Res W} (ef : fm r (h ++ [.dic []]) = .val (.ref d) (h ++ [.dic []])) (ed : h[d]? = some (.dic (dW D))) (n : Nd D) (hl : D.length ≤ 10000) (ek : ∀ g, fk r g = .val (.str s) g) (ev : ∀ g, fv r g = .val (.int i) g) :
    mStar fm [(fk, fv)] r h = .val (.ref h.length) (h ++ [.dic (dW (pt D s i)), .dic (dW [(s, i)])]) := by
  have lt : d < h.length := (List.getElem?_eq_some_iff.mp ed).1
  have ne : decide (d = h.length) = false := decide_eq_false (by omega)
  have e1 : dicO (h ++ [O.dic []])[d]? = some (dW D) := by rw [get_old ed]; rfl
  have e2 : (h ++ [O.dic []])[h.length]? = some (O.dic []) := get_last
  have m1 : mergeW [] (dW D) = dW D := by
    have := merge_dW (D := []) (E := D)
    rw [mg_self n] at this
    exact this
  have h3 : (h ++ [O.dic []]).set h.length (.dic (dW D)) ++ [O.dic []] = h ++ [.dic (dW D), .dic []] := by simp
  have pr : mPairs [(fk, fv)] r (h ++ [.dic (dW D), .dic []]) = .val [(.inr s, .int i)] (h ++ [.dic (dW D), .dic []]) := by
    simp only [mPairs, ek, bind_val, ev, keyW]
  have l1 : (h ++ [O.dic []]).length = h.length + 1 := by simp
  have f1 : (h ++ [O.dic (dW D), O.dic []])[h.length + 1]? = some (O.dic []) := by simp [List.getElem?_append]
  have f2 : (h ++ [O.dic (dW D), O.dic []])[h.length]? = some (O.dic (dW D)) := by simp [List.getElem?_append]
  have m2 : mergeW [] [((.inr s : Key), W.int i)] = dW [(s, i)] := by rfl
  have m3 : mergeW (dW D) (dW [(s, i)]) = dW (pt D s i) := by
    have := merge_dW (D := D) (E := [(s, i)])
    exact this
  unfold mStar
  simp only [ef, bind_val, ne, e1, e2, dW_len, show D.length ≤ 100000 by omega, if_true, m1, h3, pr, l1, f1, f2, List.length_singleton, show (1 : Nat) ≤ 15 from by decide, show D.length ≤ 200000 by omega, and_self, m2, m3]
  congr 1
  simp [List.set_append]
end VL
end
section
namespace LD
open PySem L2 VL
def m_is_whole : MFn := mDef ["value"] ((mRet (mAndV (mB mIsi (mCons (mVar 0) (mCons (mC (.ty "int")) mNil))) (mNotV (mB mIsi (mCons (mVar 0) (mCons (mC (.ty "bool")) mNil)))))))
def m__law_numbers : MFn := mDef ["_law_cell", "_law_salt", "_law_sizes", "_law_whole", "_law_left", "_law_result", "_law_k", "_law_one"] ((mSeq (mSet 3 (mB mMax (mCons (mVar 0) (mCons (m2 mSub (m1 mNeg (mC (.int 1))) (mVar 0)) mNil))))
    (mSeq (mSet 4 (mVar 3))
    (mSeq (mSet 5 (mLst mNil))
    (mSeq (mFor (mRng (mCons (mB mLen (mCons (mVar 2) mNil)) mNil)) (mGn 6) (mIfS (mAndT (mT (m2 mGe (mVar 3) (m2 mPow (mC (.int 10)) (mC (.int 18))))) (mT (m2 mGt (mVar 4) (mC (.int 0))))) (mSeq (mExpr (mApp (mVar 5) (m2 mMod (mVar 4) (m2 mIx (mVar 2) (mVar 6)))))
    (mSet 4 (m2 mDiv (mVar 4) (m2 mIx (mVar 2) (mVar 6))))) (mSeq (mSet 7 (m2 mMod (m2 mPow (m2 mAdd (m2 mAdd (m2 mMod (mVar 3) (mC (.int 2147483629))) (m2 mMul (mC (.int 7919)) (mVar 1))) (mC (.int 1))) (mC (.int 3))) (mC (.int 2147483647))))
    (mSeq (mSet 7 (m2 mMod (m2 mMul (m2 mAdd (mVar 7) (m2 mMul (mC (.int 104729)) (m2 mAdd (mVar 6) (mC (.int 1))))) (m2 mAdd (mVar 6) (mC (.int 3)))) (mC (.int 2147483629))))
    (mSeq (mSet 7 (m2 mMod (m2 mMul (m2 mMod (m2 mPow (mVar 7) (mC (.int 5))) (mC (.int 2147483647))) (mC (.int 48271))) (mC (.int 2147483629))))
    (mExpr (mApp (mVar 5) (m2 mMod (m2 mDiv (mVar 7) (mC (.int 16))) (m2 mIx (mVar 2) (mVar 6))))))))))
    (mRet (mVar 5)))))))
def m__law_draw : MFn := mDef ["_law_state", "_law_many", "_law_at"] ((mSeq (mSet 2 (m2 mIx (mVar 0) (mC (.int 1))))
    (mSeq (mAsg (m2 mAdd (mVar 2) (mC (.int 1))) (mSub1 (mVar 0) (mC (.int 1))))
    (mRet (mIf (mT (m2 mLt (mVar 2) (mB mLen (mCons (m2 mIx (mVar 0) (mC (.int 0))) mNil)))) (m2 mMod (mB mInt (mCons (m2 mIx (m2 mIx (mVar 0) (mC (.int 0))) (mVar 2)) mNil)) (mVar 1)) (mC (.int 0)))))))
end LD
end
section
/-! the numbers that a law draws -/
namespace LD
open PySem L2 VL
/-! ### the drawn numbers -/
def IsI (w : W) : Prop := ∃ i : Int, w = .int i ∧ 0 ≤ i ∧ i < 420
theorem app_last {h : Hv} {r : Ws} {acc : List W} {w : W} {fo fe : Ws → Hv → Res W} (hl : acc.length < 100000) (e1 : fo r (h ++ [.lst acc]) = .val (.ref h.length) (h ++ [.lst acc])) (e2 : fe r (h ++ [.lst acc]) = .val w (h ++ [.lst acc])) :
    mApp fo fe r (h ++ [.lst acc]) = .val .non (h ++ [.lst (acc ++ [w])]) := by
  have s : (h ++ [O.lst acc]).set h.length (.lst (acc ++ [w])) = h ++ [.lst (acc ++ [w])] := by simp
  simp [mApp, e1, e2, hl, s]
theorem sz_at {h t : Hv} {p : Nat} {m : Nat} {i : Nat} (e : h[p]? = some (.lst (List.replicate m (.int 420)))) (hi : i < m) : mIx (.ref p) (.int (i : Int)) (h ++ t) = .val (.int 420) (h ++ t) :=
  mIx_lst (get_old e) (atI_nat (by simp [hi]))

abbrev numBody : MS := (mIfS (mAndT (mT (m2 mGe (mVar 3) (m2 mPow (mC (.int 10)) (mC (.int 18))))) (mT (m2 mGt (mVar 4) (mC (.int 0))))) (mSeq (mExpr (mApp (mVar 5) (m2 mMod (mVar 4) (m2 mIx (mVar 2) (mVar 6)))))
    (mSet 4 (m2 mDiv (mVar 4) (m2 mIx (mVar 2) (mVar 6))))) (mSeq (mSet 7 (m2 mMod (m2 mPow (m2 mAdd (m2 mAdd (m2 mMod (mVar 3) (mC (.int 2147483629))) (m2 mMul (mC (.int 7919)) (mVar 1))) (mC (.int 1))) (mC (.int 3))) (mC (.int 2147483647))))
    (mSeq (mSet 7 (m2 mMod (m2 mMul (m2 mAdd (mVar 7) (m2 mMul (mC (.int 104729)) (m2 mAdd (mVar 6) (mC (.int 1))))) (m2 mAdd (mVar 6) (mC (.int 3)))) (mC (.int 2147483629))))
    (mSeq (mSet 7 (m2 mMod (m2 mMul (m2 mMod (m2 mPow (mVar 7) (mC (.int 5))) (mC (.int 2147483647))) (mC (.int 48271))) (mC (.int 2147483629))))
    (mExpr (mApp (mVar 5) (m2 mMod (m2 mDiv (mVar 7) (mC (.int 16))) (m2 mIx (mVar 2) (mVar 6)))))))))
abbrev numEnv (cell salt : Int) (p : Nat) (wh lf : Int) (q : Nat) (kk on : Option W) : Ws := [some (.int cell), some (.int salt), some (.ref p), some (.int wh), some (.int lf), some (.ref q), kk, on]
theorem num_big {h : Hv} {p m i : Nat} {cell salt wh lf : Int} {on : Option W} {acc : List W} (e : h[p]? = some (.lst (List.replicate m (.int 420)))) (hi : i < m) (al : acc.length < 100000) (c1 : (1000000000000000000 : Int) ≤ wh) (c2 : 0 < lf) :
    numBody (numEnv cell salt p wh lf h.length (some (.int i)) on) (h ++ [.lst acc]) = .nx (numEnv cell salt p wh (lf.fdiv 420) h.length (some (.int i)) on) (h ++ [.lst (acc ++ [.int (lf.fmod 420)])]) := by
  have ix := sz_at (t := [.lst acc]) e hi
  have ix2 := sz_at (t := [.lst (acc ++ [.int (lf.fmod 420)])]) e hi
  have ap : mApp (mVar 5) (m2 mMod (mVar 4) (m2 mIx (mVar 2) (mVar 6))) (numEnv cell salt p wh lf h.length (some (.int i)) on) (h ++ [.lst acc]) = .val .non (h ++ [.lst (acc ++ [.int (lf.fmod 420)])]) :=
    app_last al (by simp [numEnv]) (by simp [numEnv, ix, mod420])
  simp only [numEnv] at ap
  simp [numEnv, numBody, pow18, c1, c2, ap, ix2, div420]
theorem num_small {h : Hv} {p m i : Nat} {cell salt wh lf : Int} {on : Option W} {acc : List W} (e : h[p]? = some (.lst (List.replicate m (.int 420)))) (hi : i < m) (hm : m ≤ 1000) (al : acc.length < 100000) (s0 : 0 ≤ salt) (s1 : salt ≤ 100000) (c : ¬ ((1000000000000000000 : Int) ≤ wh ∧ 0 < lf)) :
    ∃ v o : Int, (0 ≤ v ∧ v < 420) ∧ numBody (numEnv cell salt p wh lf h.length (some (.int i)) on) (h ++ [.lst acc]) = .nx (numEnv cell salt p wh lf h.length (some (.int i)) (some (.int o))) (h ++ [.lst (acc ++ [.int v])]) := by
  have ix := sz_at (t := [.lst acc]) e hi
  obtain ⟨a1, a2⟩ := fmod_in wh (show (0 : Int) < 2147483629 by decide)
  have b1 : (wh.fmod 2147483629 + 7919 * salt + 1).natAbs < 2 ^ 64 := by omega
  generalize hx : ((wh.fmod 2147483629 + 7919 * salt + 1) ^ 3).fmod 2147483647 = x
  obtain ⟨x1, x2⟩ := fmod_in ((wh.fmod 2147483629 + 7919 * salt + 1) ^ 3) (show (0 : Int) < 2147483647 by decide)
  rw [hx] at x1 x2
  generalize hy : ((x + 104729 * ((i : Int) + 1)) * ((i : Int) + 3)).fmod 2147483629 = y
  obtain ⟨y1, y2⟩ := fmod_in ((x + 104729 * ((i : Int) + 1)) * ((i : Int) + 3)) (show (0 : Int) < 2147483629 by decide)
  rw [hy] at y1 y2
  obtain ⟨z1, z2⟩ := fmod_in (y ^ 5) (show (0 : Int) < 2147483647 by decide)
  have t1 : (if (1000000000000000000 : Int) ≤ wh then decide (0 < lf) else false) = false := by
    split
    · rename_i q
      exact decide_eq_false fun z => c ⟨q, z⟩
    · rfl
  refine ⟨(((((y ^ 5).fmod 2147483647) * 48271).fmod 2147483629).fdiv 16).fmod 420, (((y ^ 5).fmod 2147483647) * 48271).fmod 2147483629, fmod_in _ (by decide), ?_⟩
  have p3 := pow64 (h := h ++ [.lst acc]) b1 (show 3 ≤ 1000 by decide)
  have p5 := pow64 (i := y) (h := h ++ [.lst acc]) (by omega) (show 5 ≤ 1000 by decide)
  have q1 := mul64 (i := 7919) (j := salt) (h := h ++ [.lst acc]) (by decide) (by omega)
  have q2 := mul64 (i := 104729) (j := (i : Int) + 1) (h := h ++ [.lst acc]) (by decide) (by omega)
  have q3 := mul64 (i := x + 104729 * ((i : Int) + 1)) (j := (i : Int) + 3) (h := h ++ [.lst acc]) (by omega) (by omega)
  have q4 := mul64 (i := (y ^ 5).fmod 2147483647) (j := 48271) (h := h ++ [.lst acc]) (by omega) (by decide)
  have p3' : mPow (.int (wh.fmod 2147483629 + 7919 * salt + 1)) (.int 3) (h ++ [.lst acc]) = .val (.int ((wh.fmod 2147483629 + 7919 * salt + 1) ^ 3)) (h ++ [.lst acc]) := p3
  have p5' : mPow (.int y) (.int 5) (h ++ [.lst acc]) = .val (.int (y ^ 5)) (h ++ [.lst acc]) := p5
  have ap : ∀ o : Int, mApp (mVar 5) (m2 mMod (m2 mDiv (mVar 7) (mC (.int 16))) (m2 mIx (mVar 2) (mVar 6))) (numEnv cell salt p wh lf h.length (some (.int i)) (some (.int o))) (h ++ [.lst acc]) = .val .non (h ++ [.lst (acc ++ [.int ((o.fdiv 16).fmod 420)])]) := fun o =>
    app_last al (by simp [numEnv]) (by simp [numEnv, ix, mod420, div16])
  have t2 : (mAndT (mT (m2 mGe (mVar 3) (m2 mPow (mC (.int 10)) (mC (.int 18))))) (mT (m2 mGt (mVar 4) (mC (.int 0))))) (numEnv cell salt p wh lf h.length (some (.int i)) on) (h ++ [.lst acc]) = .val false (h ++ [.lst acc]) := by
    by_cases q : (1000000000000000000 : Int) ≤ wh
    · have : ¬ 0 < lf := fun z => c ⟨q, z⟩
      simp [numEnv, pow18, q, this]
    · simp [numEnv, pow18, q]
  simp only [numBody, mIfS_eq, t2, andS_val, mSeq_eq]
  simp only [mSet_eq, m2_eq, mVar0, mVarS, bind_val, mC_eq, modM, modN, q1, mAdd_int, p3', hx, andS_val, thenS_nx, mSeq_eq, List.set, q2, q3, hy, p5', q4, mExpr_eq]
  simp only [if_false, Bool.false_eq_true, andS_val, thenS_nx, List.set, mSeq_eq, mSet_eq, m2_eq, mVar0, mVarS, bind_val, mC_eq, modM, modN, q1, mAdd_int, p3', hx, q2, q3, hy, p5', q4, mExpr_eq]
  have ap1 := ap ((((y ^ 5).fmod 2147483647) * 48271).fmod 2147483629)
  rw [ap1]
  rfl

theorem numbers_run {h : Hv} {p m : Nat} {cell salt wh lf : Int} {kk on : Option W} {acc : List W} (e : h[p]? = some (.lst (List.replicate m (.int 420)))) (hm : m ≤ 1000)
    (e1 : VL.forM (nxR 0 m) (mGn 6) numBody (m + 1) 0 (numEnv cell salt p (max cell (-1 - cell)) (max cell (-1 - cell)) h.length none none) (h ++ [.lst []]) = .nx (numEnv cell salt p wh lf h.length kk on) (h ++ [.lst acc])) :
    m__law_numbers [.int cell, .int salt, .ref p] h = .val (.ref h.length) (h ++ [.lst acc]) := by
  have el : mLen [.ref p] (h ++ [.lst []]) = .val (.int m) (h ++ [.lst []]) := by
    simp [mLen, get_old e]
  have rg : rgB (m : Int) = true := rgB_small hm
  have z : (m : Int).toNat = m := by omega
  have fr : mFor (mRng (mCons (mB mLen (mCons (mVar 2) mNil)) mNil)) (mGn 6) numBody (numEnv cell salt p (max cell (-1 - cell)) (max cell (-1 - cell)) h.length none none) (h ++ [.lst []]) = .nx (numEnv cell salt p wh lf h.length kk on) (h ++ [.lst acc]) := by
    have src : mRng (mCons (mB mLen (mCons (mVar 2) mNil)) mNil) (numEnv cell salt p (max cell (-1 - cell)) (max cell (-1 - cell)) h.length none none) (h ++ [.lst []]) = .val ⟨m + 1, nxR 0 m⟩ (h ++ [.lst []]) :=
      mRng_of hm (by simp only [mCons_eq, mB_eq, mVarS, mVar0, mNil_eq, bind_val, el])
    unfold mFor
    rw [src, andS_val]
    exact e1
  unfold m__law_numbers
  rw [mDef_eq]
  simp only [mSeq_eq]
  have st1 : (mSet 3 (mB mMax (mCons (mVar 0) (mCons (m2 mSub (m1 mNeg (mC (.int 1))) (mVar 0)) mNil)))) (startW ["_law_cell", "_law_salt", "_law_sizes", "_law_whole", "_law_left", "_law_result", "_law_k", "_law_one"] [.int cell, .int salt, .ref p]) h = .nx [some (.int cell), some (.int salt), some (.ref p), some (.int (max cell (-1 - cell))), none, none, none, none] h := by
    simp [startW]
  rw [st1, thenS_nx]
  simp only [mSeq_eq, mSet_eq, mVarS, mVar0, andS_val, thenS_nx, List.set, mLst_eq, mNil_eq, bind_val, List.length_nil, Nat.zero_le, if_true, mNew_eq]
  show endS (thenS (mFor _ _ numBody (numEnv cell salt p (max cell (-1 - cell)) (max cell (-1 - cell)) h.length none none) (h ++ [.lst []])) _) = _
  rw [fr]
  rfl
theorem numbers_ok {h : Hv} {p m : Nat} {cell salt : Int} (e : h[p]? = some (.lst (List.replicate m (.int 420)))) (hm : m ≤ 1000) (s0 : 0 ≤ salt) (s1 : salt ≤ 100000) :
    ∃ acc, m__law_numbers [.int cell, .int salt, .ref p] h = .val (.ref h.length) (h ++ [.lst acc]) ∧ (∀ w ∈ acc, IsI w) ∧ acc.length = m := by
  have lp := for_rng (n := m) (lo := 0) (s := 6) (b := numBody) (fun i r g => ∃ (wh lf : Int) (kk on : Option W) (acc : List W), r = numEnv cell salt p wh lf h.length kk on ∧ g = h ++ [.lst acc] ∧ acc.length = i ∧ ∀ w ∈ acc, IsI w) ?_
  · obtain ⟨r', g', e1, wh, lf, kk, on, acc, rfl, rfl, hl, ha⟩ := lp m 0 (numEnv cell salt p (max cell (-1 - cell)) (max cell (-1 - cell)) h.length none none) (h ++ [.lst []]) (by omega) ⟨_, _, none, none, [], rfl, rfl, rfl, by simp⟩
    exact ⟨acc, numbers_run e hm e1, ha, hl⟩
  · rintro i r g hi ⟨wh, lf, kk, on, acc, rfl, rfl, hl, ha⟩
    have al : acc.length < 100000 := by omega
    have zi : (0 : Int) + (i : Int) = (i : Int) := by omega
    have se : (numEnv cell salt p wh lf h.length kk on).set 6 (some (.int (0 + (i : Int)))) = numEnv cell salt p wh lf h.length (some (.int i)) on := by rw [zi]; rfl
    rw [se]
    have mem : ∀ v : Int, 0 ≤ v ∧ v < 420 → ∀ w ∈ acc ++ [W.int v], IsI w := fun v hv w hw => by
      rcases List.mem_append.mp hw with q | q
      · exact ha w q
      · exact ⟨v, List.mem_singleton.mp q, hv⟩
    by_cases c : (1000000000000000000 : Int) ≤ wh ∧ 0 < lf
    · exact ⟨_, _, num_big e hi al c.1 c.2, wh, _, _, on, _, rfl, rfl, by simp [hl], mem _ (fmod_in _ (by decide))⟩
    · obtain ⟨v, o, hv, q⟩ := num_small (cell := cell) (on := on) e hi hm al s0 s1 c
      exact ⟨_, _, q, wh, lf, _, _, _, rfl, rfl, by simp [hl], mem _ hv⟩


def I420 (a : Int) : Prop := 0 ≤ a ∧ a < 420
variable {h g : Hv} {s : Nat}
/-- at s stand the drawn numbers and how many were taken -/
def Stt (h : Hv) (s : Nat) : Prop := ∃ (dg : Nat) (ds : List Int) (k : Nat), h[s]? = some (.lst [.ref dg, .int k]) ∧ h[dg]? = some (.lst (ds.map W.int)) ∧ dg ≠ s
/-- all but s stays -/
def Gr (s : Nat) (h g : Hv) : Prop := Kp s h g ∧ h.length ≤ g.length
theorem Gr.refl (s : Nat) (h : Hv) : Gr s h h := ⟨Kp.refl _ _, Nat.le_refl _⟩
theorem Gr.trans {a b c : Hv} (x : Gr s a b) (y : Gr s b c) : Gr s a c := ⟨x.1.trans y.1, Nat.le_trans x.2 y.2⟩
theorem Gr.ext (x : Ext h g) : Gr s h g := ⟨fun i o _ e => x i o e, x.len⟩
theorem Gr.get {i : Nat} {o : O} (x : Gr s h g) (n : i ≠ s) (e : h[i]? = some o) : g[i]? = some o := x.1 i o n e
theorem Stt.ext (t : Stt h s) (x : Ext h g) : Stt g s := by
  obtain ⟨dg, ds, k, e1, e2, n⟩ := t
  exact ⟨dg, ds, k, x _ _ e1, x _ _ e2, n⟩
theorem Stt.lt (t : Stt h s) : s < h.length := by
  obtain ⟨dg, ds, k, e1, e2, n⟩ := t
  exact lt_of_get e1
theorem draw_at {dg k : Nat} {ds : List Int} (e1 : h[s]? = some (.lst [.ref dg, .int k])) (e2 : h[dg]? = some (.lst (ds.map W.int))) (n : dg ≠ s) {m : Int} (hm : 0 < m) : ∃ d : Int, m__law_draw [.ref s, .int m] h = .val (.int d) (h.set s (.lst [.ref dg, .int ((k : Int) + 1)])) ∧ 0 ≤ d ∧ d < m := by
  let g : Hv := h.set s (.lst [.ref dg, .int ((k : Int) + 1)])
  have f1 : g[s]? = some (.lst [.ref dg, .int ((k : Int) + 1)]) := List.getElem?_set_self (lt_of_get e1)
  have f2 : g[dg]? = some (.lst (ds.map W.int)) := by
    show (h.set s _)[dg]? = _
    rw [List.getElem?_set_ne (Ne.symm n)]
    exact e2
  have sw : startW ["_law_state", "_law_many", "_law_at"] [.ref s, .int m] = [some (.ref s), some (.int m), none] := rfl
  let E : Ws := [some (.ref s), some (.int m), some (.int k)]
  have u0 : mVar 0 [some (.ref s), some (.int m), none] h = .val (.ref s) h := rfl
  have v0 : ∀ g, mVar 0 E g = .val (.ref s) g := fun _ => rfl
  have v1 : ∀ g, mVar 1 E g = .val (.int m) g := fun _ => rfl
  have v2 : ∀ g, mVar 2 E g = .val (.int k) g := fun _ => rfl
  have i1 : mIx (.ref s) (.int 1) h = .val (.int k) h := ix_nat (j := 1) e1 rfl
  have j0 : mIx (.ref s) (.int 0) g = .val (.ref dg) g := ix_nat (j := 0) f1 rfl
  have asg : (mAsg (m2 mAdd (mVar 2) (mC (.int 1))) (mSub1 (mVar 0) (mC (.int 1)))) E h = .nx E g := by
    have ad : (m2 mAdd (mVar 2) (mC (.int 1))) E h = .val (.int ((k : Int) + 1)) h := rfl
    have x1 : ixN 2 1 = some 1 := by decide
    unfold mAsg
    rw [ad, andS_val]
    unfold mSub1
    rw [v0, andS_val, mC_eq, andS_val]
    simp only [e1, List.length_cons, List.length_nil, Nat.zero_add, Nat.reduceAdd, x1]
    rfl
  have len : mLen [.ref dg] g = .val (.int ((ds.map W.int).length)) g := len_lst f2
  have lt : mLt (.int k) (.int ((ds.map W.int).length)) g = .val (.bl (decide ((k : Int) < ((ds.map W.int).length : Nat)))) g := rfl
  have go : ∀ d, (mIf (mT (m2 mLt (mVar 2) (mB mLen (mCons (m2 mIx (mVar 0) (mC (.int 0))) mNil)))) (m2 mMod (mB mInt (mCons (m2 mIx (m2 mIx (mVar 0) (mC (.int 0))) (mVar 2)) mNil)) (mVar 1)) (mC (.int 0))) E g = .val (.int d) g → m__law_draw [.ref s, .int m] h = .val (.int d) g := fun d e => by
    unfold m__law_draw
    rw [mDef_eq, sw, mSeq_eq, mSet_eq, m2_eq, u0, bind_val, mC_eq, bind_val, i1, andS_val, thenS_nx]
    show endS ((mSeq _ _) E h) = _
    rw [mSeq_eq, asg, thenS_nx, mRet_eq, e, andS_val]
    rfl
  have cnd : (mT (m2 mLt (mVar 2) (mB mLen (mCons (m2 mIx (mVar 0) (mC (.int 0))) mNil)))) E g = .val (decide ((k : Int) < ((ds.map W.int).length : Nat))) g := by
    rw [mT_eq, m2_eq, v2, bind_val, mB_eq, mCons_eq, m2_eq, v0, bind_val, mC_eq, bind_val, j0, bind_val, mNil_eq, bind_val, bind_val, len, bind_val, lt, bind_val, asB_bl]
  by_cases c : k < ds.length
  · have ed : (ds.map W.int)[k]? = some (.int ds[k]) := by rw [List.getElem?_map, List.getElem?_eq_getElem c]; rfl
    have i2 : mIx (.ref dg) (.int k) g = .val (.int ds[k]) g := ix_nat f2 ed
    have mi : mInt [.int ds[k]] g = .val (.int ds[k]) g := rfl
    obtain ⟨l1, l2⟩ := fmod_in ds[k] hm
    refine ⟨ds[k].fmod m, go _ ?_, l1, l2⟩
    rw [mIf_eq, cnd, bind_val, if_pos (decide_eq_true (by rw [List.length_map]; omega)), m2_eq, mB_eq, mCons_eq, m2_eq, m2_eq, v0, bind_val, mC_eq, bind_val, j0, bind_val, v2, bind_val, i2, bind_val, mNil_eq, bind_val, bind_val, mi, bind_val, v1, bind_val, mMod_int (by omega)]
  · refine ⟨0, go _ ?_, Int.le_refl _, hm⟩
    rw [mIf_eq, cnd, bind_val, if_neg (by rw [decide_eq_false (by rw [List.length_map]; omega)]; decide), mC_eq]
theorem draw_ok (t : Stt h s) {m : Int} (hm : 0 < m) : ∃ (d : Int) (g : Hv), m__law_draw [.ref s, .int m] h = .val (.int d) g ∧ 0 ≤ d ∧ d < m ∧ Stt g s ∧ Gr s h g := by
  obtain ⟨dg, ds, k, e1, e2, n⟩ := t
  obtain ⟨d, e, d0, d1⟩ := draw_at e1 e2 n hm
  refine ⟨d, _, e, d0, d1, ⟨dg, ds, k + 1, ?_, ?_, n⟩, Kp.set s h _, by simp⟩
  · rw [List.getElem?_set_self (lt_of_get e1)]
    rfl
  · rw [List.getElem?_set_ne (Ne.symm n)]
    exact e2
/-- a draw, called -/
theorem call_draw {r : Ws} {f : Ws → Hv → Res W} (hf : ∀ g, f r g = .val (.ref s) g) (t : Stt h s) {m : Int} (hm : 0 < m) : ∃ (d : Int) (g : Hv), (mCall 2 m__law_draw (mCons f (mCons (mC (.int m)) mNil))) r h = .val (.int d) g ∧ 0 ≤ d ∧ d < m ∧ Stt g s ∧ Gr s h g := by
  obtain ⟨d, g, e, r1⟩ := draw_ok t hm
  refine ⟨d, g, ?_, r1⟩
  rw [mCall_eq, mCons_eq, hf, bind_val, mCons_eq, mC_eq, bind_val, mNil_eq, bind_val, bind_val, bind_val, if_pos (by rfl), e]

end LD
end
section
/-! comprehensions by pure pieces; draws -/
namespace VL
open PySem L2
theorem comp_pure {p i : Nat} {L : List W} {r : Ws} {h : Hv} {f : Ws → Hv → Res W} {F : W → W} (hs : L.length < 100000) (hp : h[p]? = some (.lst L)) (hf : ∀ w ∈ L, ∀ g, Ext h g → f (r.set i (some w)) g = .val (F w) g) :
    ∀ (k j : Nat), j + k = L.length → compM (nxSeq p) i mYes f h.length (k + 1) j r (h ++ [.lst ((L.take j).map F)]) = .val (.ref h.length) (h ++ [.lst (L.map F)])
  | 0, j, hk => by
    have e0 : (h ++ [O.lst ((L.take j).map F)])[p]? = some (.lst L) := get_old hp
    have en : L[j]? = none := List.getElem?_eq_none (by omega)
    have et : L.take j = L := List.take_of_length_le
      (by omega)
    rw [et] at e0 ⊢
    unfold compM
    simp only [nxSeq, e0, en]
  | k + 1, j, hk => by
    have lt : j < L.length := by omega
    have e0 : (h ++ [O.lst ((L.take j).map F)])[p]? = some (.lst L) := get_old hp
    have en : L[j]? = some L[j] := List.getElem?_eq_getElem lt
    have m : L[j] ∈ L := List.getElem_mem lt
    have e1 := hf _ m (h ++ [.lst ((L.take j).map F)]) (Ext.more _ _)
    have la : (h ++ [O.lst ((L.take j).map F)])[h.length]? = some (.lst ((L.take j).map F)) := get_last
    have ln : ((L.take j).map F).length < 100000 := by simp; omega
    have st : (h ++ [O.lst ((L.take j).map F)]).set h.length (.lst ((L.take j).map F ++ [F L[j]])) = h ++ [.lst ((L.take (j + 1)).map F)] := by
      rw [List.take_succ, en, Option.toList_some, List.map_append, List.map_cons, List.map_nil]
      generalize (L.take j).map F = A
      simp
    have ih := comp_pure hs hp hf k (j + 1) (by omega)
    unfold compM
    simp only [nxSeq, e0, en, mYes, noX, bind_val, if_true, e1, la, ln, st]
    exact ih
theorem lc_pure {p i : Nat} {L : List W} {r : Ws} {h h1 : Hv} {src : Ws → Hv → Res Src} {f : Ws → Hv → Res W} {F : W → W} (es : src r h = .val ⟨L.length + 1, nxSeq p⟩ h1) (hs : L.length < 100000) (hp : h1[p]? = some (.lst L)) (hf : ∀ w ∈ L, ∀ g, Ext h1 g → f (r.set i (some w)) g = .val (F w) g) :
    mLc src i mYes f r h = .val (.ref h1.length) (h1 ++ [.lst (L.map F)]) := by
  unfold mLc
  rw [es, bind_val]
  have := comp_pure hs hp hf L.length 0 (by omega)
  simpa using this
theorem comp_if {p i : Nat} {L : List W} {r : Ws} {h : Hv} {t : Ws → Hv → Res Bool} {f : Ws → Hv → Res W} {F : W → W} {B : W → Bool} (hs : L.length < 100000) (hp : h[p]? = some (.lst L)) (ht : ∀ w ∈ L, ∀ g, Ext h g → t (r.set i (some w)) g = .val (B w) g) (hf : ∀ w ∈ L, B w = true → ∀ g, Ext h g → f (r.set i (some w)) g = .val (F w) g) :
    ∀ (k j : Nat), j + k = L.length → compM (nxSeq p) i t f h.length (k + 1) j r (h ++ [.lst (((L.take j).filter B).map F)]) = .val (.ref h.length) (h ++ [.lst ((L.filter B).map F)])
  | 0, j, hk => by
    have e0 : (h ++ [O.lst (((L.take j).filter B).map F)])[p]? = some (.lst L) := get_old hp
    have en : L[j]? = none := List.getElem?_eq_none (by omega)
    have et : L.take j = L := List.take_of_length_le (by omega)
    rw [et] at e0 ⊢
    unfold compM
    simp only [nxSeq, e0, en]
  | k + 1, j, hk => by
    have lt : j < L.length := by omega
    have e0 : (h ++ [O.lst (((L.take j).filter B).map F)])[p]? = some (.lst L) := get_old hp
    have en : L[j]? = some L[j] := List.getElem?_eq_getElem lt
    have m : L[j] ∈ L := List.getElem_mem lt
    have tk : L.take (j + 1) = L.take j ++ [L[j]] := by rw [List.take_succ, en, Option.toList_some]
    have e2 := ht _ m (h ++ [.lst (((L.take j).filter B).map F)]) (Ext.more _ _)
    have ih := comp_if hs hp ht hf k (j + 1) (by omega)
    rw [tk, List.filter_append] at ih
    by_cases c : B L[j] = true
    · have e1 := hf _ m c (h ++ [.lst (((L.take j).filter B).map F)]) (Ext.more _ _)
      have la : (h ++ [O.lst (((L.take j).filter B).map F)])[h.length]? = some (.lst (((L.take j).filter B).map F)) := get_last
      have ln : (((L.take j).filter B).map F).length < 100000 := by
        have := List.length_filter_le B (L.take j)
        simp only [List.length_map, List.length_take] at *
        omega
      have fs : [L[j]].filter B = [L[j]] := by simp [c]
      rw [fs, List.map_append, List.map_cons, List.map_nil] at ih
      rw [c] at e2
      generalize ((L.take j).filter B).map F = A at *
      have st : (h ++ [O.lst A]).set h.length (.lst (A ++ [F L[j]])) = h ++ [.lst (A ++ [F L[j]])] := by simp
      unfold compM
      simp only [nxSeq, e0, en, e2, noX, bind_val, if_true, e1, la, ln, st]
      exact ih
    · have fs : [L[j]].filter B = [] := by simp [c]
      rw [fs, List.append_nil] at ih
      rw [Bool.eq_false_iff.mpr c] at e2
      unfold compM
      simp only [nxSeq, e0, en, e2, noX, bind_val, Bool.false_eq_true, if_false]
      exact ih
theorem lc_if {p i : Nat} {L : List W} {r : Ws} {h h1 : Hv} {src : Ws → Hv → Res Src} {t : Ws → Hv → Res Bool} {f : Ws → Hv → Res W} {F : W → W} {B : W → Bool} (es : src r h = .val ⟨L.length + 1, nxSeq p⟩ h1) (hs : L.length < 100000) (hp : h1[p]? = some (.lst L)) (ht : ∀ w ∈ L, ∀ g, Ext h1 g → t (r.set i (some w)) g = .val (B w) g) (hf : ∀ w ∈ L, B w = true → ∀ g, Ext h1 g → f (r.set i (some w)) g = .val (F w) g) :
    mLc src i t f r h = .val (.ref h1.length) (h1 ++ [.lst ((L.filter B).map F)]) := by
  unfold mLc
  rw [es, bind_val]
  have := comp_if hs hp ht hf L.length 0 (by omega)
  simpa using this
end VL
namespace LD
open PySem L2 VL
variable {h g : Hv} {s : Nat} {r : Ws}
theorem Gr.len {g : Hv} (x : Gr s h g) : h.length ≤ g.length := x.2
theorem Gr.new (h t : Hv) : Gr s h (h ++ t) := Gr.ext (Ext.more _ _)
/-- what a draw leaves: all but s -/
theorem Stt.set {p : Nat} {o u : O} (t : Stt h s) (e : h[p]? = some o) (ho : ∀ xs, o ≠ .lst xs) : Stt (h.set p u) s := by
  obtain ⟨dg, ds, k, e1, e2, n⟩ := t
  have n1 : p ≠ s := fun z => by subst z; rw [e1] at e; exact ho _ (Option.some.inj e).symm
  have n2 : p ≠ dg := fun z => by subst z; rw [e2] at e; exact ho _ (Option.some.inj e).symm
  exact ⟨dg, ds, k, by rw [List.getElem?_set_ne n1]; exact e1, by rw [List.getElem?_set_ne n2]; exact e2, n⟩
theorem Stt.notO {p : Nat} {o : O} (t : Stt h s) (e : h[p]? = some o) (ho : ∀ xs, o ≠ .lst xs) : p ≠ s := by
  obtain ⟨dg, ds, k, e1, e2, n⟩ := t
  exact fun z => by subst z; rw [e1] at e; exact ho _ (Option.some.inj e).symm
/-- one of a list, drawn -/
theorem pick_ok {p m : Nat} {L : List W} {f : Ws → Hv → Res W} {h1 : Hv} (hr : ∀ g, mVar 0 r g = .val (.ref s) g) (ef : f r h = .val (.ref p) h1) (e1 : h1[p]? = some (.lst L)) (hl : L.length = m) (hm : 0 < m) (hp : p ≠ s) (t : Stt h1 s) :
    ∃ w g, (m2 mIx f (mCall 2 m__law_draw (mCons (mVar 0) (mCons (mC (.int m)) mNil)))) r h = .val w g ∧ w ∈ L ∧ Stt g s ∧ Gr s h1 g := by
  obtain ⟨d, g, c, d0, d1, t1, k1⟩ := call_draw hr t (m := m) (by omega)
  obtain ⟨j, rfl⟩ : ∃ j : Nat, d = (j : Int) := ⟨d.toNat, by omega⟩
  have lt : j < L.length := by omega
  refine ⟨L[j], g, ?_, List.getElem_mem lt, t1, k1⟩
  rw [m2_eq, ef, bind_val, c, bind_val, ix_nat (k1.get hp e1) (List.getElem?_eq_getElem lt)]
end LD
end
section
/-! enumerate over a tuple -/
namespace VL
open PySem L2 PySem.Spec PyProof.Rows
section
variable {P : Program} {w : World} {A : Around} {E : Value → Shared → Prop}
/-- enumerate(v), whatever v's iterator is -/
theorem enum_made {v : Value} {o : Obj} {T : Heap → Prop} (B : Begins v o T) : Meets (Builtin.«enumerate.__new__» ⟨[.type "enumerate", v], []⟩) (fun _ R s => T s.heap ∧
    R (.ok (.ret (.ref (s.heap.push o).objs.size))) { s with heap := (s.heap.push o).push { cls := .type "enumerate", data := .fields #[.none, .bool false, .ref s.heap.objs.size, rawInt 0, .none, .none] } }) := by
  refine .of_wp fun prog w A R s ⟨hT, q⟩ => ?_
  cases s with
  | mk hp g d tk os =>
    have sub := sub_enumerate
    have it : ∀ {A' : Around} {E' : Value → Shared → Prop} {Q : Value → Shared → Prop}, Q (.ref hp.objs.size) ⟨hp.push o, g, d, tk, os⟩ → wpAny (model prog w) A' (pyIter v) Q E' ⟨hp, g, d, tk, os⟩ := fun z => B.iter prog w _ _ ⟨hp, g, d, tk, os⟩ _ hT z
    wp_walk using it
    (refine wpAny_stack_any fun st => wpAny_pure ?_)
    split
    · rename_i c _ _ _ _ _
      cases (c == Value.type "enumerate") <;> (wp_walk using it; exact ⟨_, rfl, q⟩)
    · wp_walk using it
      exact ⟨_, rfl, q⟩
theorem enum_call {s : Shared} {v : Value} {o : Obj} {T : Heap → Prop} {Q : Value → Shared → Prop} (B : Begins v o T) (hT : T s.heap)
    (q : ∀ g, IsEnum g (s.heap.objs.size + 1) s.heap.objs.size 0 .none → g.get? s.heap.objs.size = some o → (∀ b u, s.heap.get? b = some u → g.get? b = some u) → Q (.ref (s.heap.objs.size + 1)) { s with heap := g }) :
    wpAny (model P w) A (call (.type "enumerate") [v]) Q E s := by
  have sz : (s.heap.push o).objs.size = s.heap.objs.size + 1 := Heap.size_push ..
  have en := Heap.get?_push_size (s.heap.push o) (o := { cls := .type "enumerate", data := .fields #[.none, .bool false, .ref s.heap.objs.size, rawInt 0, .none, .none] }) rfl
  refine callType_new F.called_enumerate (by decide) (F.typeCall_enumerate_1 _) (F.newCall_enumerate_1 _) (fun ob => F.args_object_init_2 ob _) F.entry_enumerate_new (enum_made B) ⟨hT, ?_⟩
  show _ ∧ _
  rw [sz] at en ⊢
  exact ⟨⟨_, en, rfl⟩, q _ en (Heap.get?_push_of_some _ (Heap.get?_push_size _ B.free)) fun b u z => Heap.get?_push_of_some _ (Heap.get?_push_of_some _ z)⟩
end
/-- the items of the tuple at a, each with its number, in new pairs -/
def ItT (K : PySem.W.Frag) (a : Addr) : It :=
  ⟨fun i H => ∃ (xs : List V) (x : V), SqT K H a xs ∧ xs[i]? = some x, fun i H v H' => ∃ T x, v = .ref T ∧ H T = none ∧ H' = upd H T (.tup [.int (i : Nat), x]) ∧ ∀ xs, SqT K H a xs → xs[i]? = some x, fun i H => ∃ xs : List V, SqT K H a xs ∧ xs.length ≤ i⟩
theorem turnT {P : Program} {w : World} {K : PySem.W.Frag} {elts : List Expr} {kk : Nat} {tpos : Pos} (a e it : Addr) (hai : a ≠ it) (hae : a ≠ e) :
    Turn P w K (.Tuple elts kk tpos) (ItT K a) [e, it] e (fun i h => (∃ old, IsEnum h e it ((i : Nat) : Int) old) ∧ h.IsTupleIter it a i ∧ e ≠ it) where
  mem := List.mem_cons_self
  obj := fun i h ⟨⟨old, he⟩, ⟨o, ho, _, hd⟩, _⟩ b hb => by
    (simp only [List.mem_cons, List.not_mem_nil, or_false] at hb)
    rcases hb with rfl | rfl
    · exact ⟨_, he, fun v z => nomatch z⟩
    · exact ⟨o, ho, fun v z => by rw [hd] at z; cases z⟩
  keep := fun i h h' ⟨⟨old, he⟩, hi, ne⟩ k => ⟨⟨old, k e (by simp) _ he⟩, hi.at fun o z => k it (by simp) o z, ne⟩
  item := by
    intro X eP ew eK calm i pins s σ H E I far ⟨⟨old, he⟩, hi, ne⟩ ⟨xs, x, sq, ex⟩
    subst eP ew eK
    obtain ⟨its, rv, tp, _⟩ := I.tuple sq
    obtain ⟨u, eu, ru⟩ := rv.get ex
    have el : e < s.heap.objs.size := Heap.lt_size he
    have il : it < s.heap.objs.size := hi.elim fun o z => Heap.lt_size z.1
    have dr := Draws.tuple (prog := X.prog) (w := X.w) (A := X.A.in1) (show X.A.in1.handled = none from I.ok.hd calm) it a hai its.toArray
    have li : i < its.toArray.size := by
      have := lt_of_get eu
      simpa using this
    refine wpAny_pyNext_enum_itemC dr he ⟨hi, tp⟩ li ne (by simp [ne, Ne.symm hae]) fun y g tk py out st tup sz kp => ⟨_, rfl, ?_⟩
    have yu : y = u := by
      have e2 : its.toArray[i]? = some u := by simpa using eu
      rw [e2] at py
      exact (Option.some.inj py).symm
    subst yu
    refine wpAny_letOwnedTupleGo_enum (s := { s with heap := g, toks := tk + 1 }) out fun g2 he2 sb => ?_
    have tup2 : g2.get? s.heap.objs.size = some { cls := .type "tuple", data := .seq #[.int i tk, y] } := (sb.2 _ (Nat.ne_of_gt el)).trans tup
    have new : ObjOk X.prog X.w (upd H s.heap.objs.size (.tup [.int (i : Nat), x])) g2 s.heap.objs.size (.tup [.int (i : Nat), x]) :=
      ⟨by show 2 ≤ sizeLine; decide, [.int i tk, y], .cons ⟨_, rfl⟩ (.cons ru .nil), ⟨_, tup2, rfl, _, rfl⟩⟩
    have I1 : Inv X pins σ (upd H s.heap.objs.size (.tup [.int (i : Nat), x])) { s with heap := g2, toks := tk + 1 } :=
      I.turnedNew (ch := [e, it]) (fun b ob hb z => by
        simp only [List.mem_cons, List.not_mem_nil, or_false, not_or] at hb
        exact (sb.2 b hb.1).trans (kp b ob hb.1 hb.2 z)) far (Nat.le_refl _) new
    refine ⟨.ref s.heap.objs.size, _, I1, rfl, ⟨_, x, rfl, I.hok.fresh (Nat.le_refl _), rfl, fun l hl => by rw [I.tuple_inj hl sq]; exact ex⟩, ⟨⟨y, ?_⟩, st.1.at fun o z => (sb.2 it (Ne.symm ne)).trans z, ne⟩, fun b hb => ?_⟩
    · rw [show ((i + 1 : Nat) : Int) = (i : Int) + 1 by omega]
      exact he2
    · have lt : b < s.heap.objs.size := by
        have hb2 := hb
        simp only [List.mem_cons, List.not_mem_nil, or_false] at hb2
        rcases hb2 with rfl | rfl
        · exact el
        · exact il
      rw [upd_ne (Nat.ne_of_lt lt)]
      exact (far b hb).1
  done := by
    intro X eP ew eK calm i pins s σ H E I far ⟨⟨old, he⟩, hi, ne⟩ ⟨xs, sq, lx⟩
    subst eP ew eK
    obtain ⟨its, rv, tp, _⟩ := I.tuple sq
    obtain ⟨f0, f1, f2, f3, f4, f5⟩ := far it (by simp)
    have ll := rv.length
    have dr : Draws X.prog X.w X.A.in1 it [it, a] i (fun j v => False) (fun j h => j = i ∧ h.IsTupleIter it a i ∧ h.IsTuple a its.toArray) :=
      { live := fun _ _ st => let ⟨o, ho, _⟩ := st.2.1; ⟨o, ho⟩
        frame := fun _ _ _ st hk => ⟨st.1, st.2.1.at fun o z => hk it (by simp) o z, st.2.2.at fun o z => hk a (by simp) o z⟩
        item := fun j s2 Q2 E2 lt st _ => absurd st.1 (by omega)
        done := fun s2 Q2 E2 st k => wpAny_nextOf_tuple_end (show X.A.in1.handled = none from I.ok.hd calm) st.2.1 st.2.2 (by simp; omega) k }
    exact wpAny_pyNext_enum_endD dr he ⟨rfl, hi, tp⟩ fun g eb => ⟨rfl, I.turned (t' := s.toks) (fun b o hb z => eb b o hb z) f0 f1 f3 f4 f5⟩
  self := fun A i s Q E ⟨⟨_, he⟩, _⟩ q => wpAny_pyIter_enum he q
def iEnT (K : PySem.W.Frag) (ta : TA) : TI := fun σ H R => ta σ H fun vs H1 => ∃ a xs, vs = [.ref a] ∧ SqT K H1 a xs ∧ R (ItT K a) H1
theorem pi_enT {X : Cx} {e : Expr} {ta : TA} {p pos tpos : Pos} {elts : List Expr} {kk : Nat} (hg : Gl X "enumerate") (hm : X.mg "enumerate" = none) (ha : PA X [e] ta) (hs : starEach [e] X.env = [(false, eval e X.env)] := by rfl) :
    PI X (.Tuple elts kk tpos) (.Call (.Name "enumerate" p) [e] [] pos) (iEnT X.K ta) := ⟨fun pins s σ H R I h => by
  refine Call_ (ld_blt I hg hm boot_enumerate (PyProof.Rows.callWith_type1 (thn (ha.run pos pins s σ H _ I h) fun us s1 ⟨vs, H1, I1, r1, a, xs, ev, sq, q⟩ => ?_) hs rfl))
  subst ev
  obtain ⟨u, eu, ru⟩ := vals1 r1
  subst eu
  cases ru
  obtain ⟨its, rv, tp, _⟩ := I1.tuple sq
  have la : a < s1.heap.objs.size := tp.elim fun o z => Heap.lt_size z.1
  refine enum_call (begins_tuple a its.toArray) tp fun g he hi kp => wpAny_pyIter_enum he ?_
  have I2 : Inv X pins σ H1 { s1 with heap := g } := I1.kept (t' := s1.toks) kp
  refine ⟨s1.heap.objs.size + 1, [s1.heap.objs.size + 1, s1.heap.objs.size], _, _, H1, rfl, I2, turnT a (s1.heap.objs.size + 1) s1.heap.objs.size (Nat.ne_of_lt la) (Nat.ne_of_lt (Nat.lt_succ_of_lt la)), ⟨⟨.none, he⟩, ⟨_, hi, rfl, rfl⟩, Nat.succ_ne_self _⟩, fun b hb => ?_, q⟩
  have lb : s1.heap.objs.size ≤ b := by
    (simp only [List.mem_cons, List.not_mem_nil, or_false] at hb)
    rcases hb with rfl | rfl
    · exact Nat.le_succ _
    · exact Nat.le_refl _
  exact I1.fpOk lb (I1.hok.fresh lb)⟩
/-! ### in the view -/
def nxEnT (xs : List W) : Nat → Hv → Nxt := fun i h => match xs[i]? with
  | some x => .item (.tup [.int (i : Nat), x]) h
  | none => .stop
def srcET (ws : List W) (h : Hv) : Res Src := match ws with
  | [.tup xs] => .val ⟨xs.length + 1, nxEnT xs⟩ h
  | _ => .bad
def mEnT (g : Ws → Hv → Res (List W)) : Ws → Hv → Res Src := fun r h => (g r h).bind srcET
theorem sim_enT {T : Tx} {ps : Pl} {n : Nat} {a : Addr} {xs : List W} {us : List V} (ha : ps.tu a us) (rb : Paired (WV ps) xs us) : SimI T ps ⟨n, nxEnT xs⟩ (ItT T.K a) := by
  intro qs h H i pre vw
  have sb : SqT T.K H a us := (vw.tup a us (pre.2 _ _ ha)).sq
  have rb' := WVs.mono pre rb
  show NxOk T qs H (ItT T.K a) i (nxEnT xs i h)
  unfold nxEnT
  split
  · rename_i x ex
    obtain ⟨v, ev, wv⟩ := paired_get rb' ex
    refine ⟨⟨us, v, sb, ev⟩, fun z H' y => ?_⟩
    obtain ⟨t, x', rfl, ht, rfl, y1⟩ := y
    have z1 := y1 us sb
    rw [ev] at z1
    cases z1
    obtain ⟨v1, s1⟩ := vw.tuple ht [.int (i : Nat), v]
    exact ⟨_, s1, v1, WV.tup_mk (.inr ⟨rfl, rfl⟩) (WVs.mono s1.pre (.cons rfl (.cons wv .nil)))⟩
  · rename_i ex
    exact ⟨us, sb, paired_none rb' ex⟩
theorem si_enT {T : Tx} {X : Cx} {e : Expr} {fa : Ws → Hv → Res (List W)} {p pos tpos : Pos} {elts : List Expr} {kk : Nat} (hg : Gl X "enumerate") (hm : X.mg "enumerate" = none) (ha : SA T X [e] fa) (hK : T.K = X.K := by rfl) (hs : starEach [e] X.env = [(false, eval e X.env)] := by rfl) :
    SI T X (.Tuple elts kk tpos) (.Call (.Name "enumerate" p) [e] [] pos) (mEnT fa) := fun E cn => ⟨fun pins s σ H R I h => (pi_enT hg hm (ha E cn) hs).run pins s σ H R I (by
  obtain ⟨ps, r, hv, es, vw, gd⟩ := h
  refine ⟨ps, r, hv, es, vw, ?_⟩
  cases q : fa r hv with
  | bad => unfold mEnT at gd; rw [q] at gd; exact gd.elim
  | exc c d h1 => unfold mEnT at gd; rw [q] at gd; exact gd
  | val ws h1 =>
    unfold mEnT at gd
    rw [q] at gd
    have g1 : Good T (SimI T) ps H (srcET ws h1) R _ := gd
    intro qs H' vs st vw' wv
    unfold srcET at g1
    split at g1
    · obtain ⟨v, rfl, wt⟩ := one_of wv
      obtain ⟨b, us, rfl, hb, rb⟩ := wt.tup_of
      rw [← hK]
      exact ⟨b, us, rfl, TupAt.sq (vw'.tup b us hb), g1 qs H' _ st vw' (sim_enT hb rb)⟩
    · exact g1.elim)⟩
/-! ### zip of two tuples -/
def nxZipT (xs ys : List W) : Nat → Hv → Nxt := fun i h => zipN xs ys i h
def srcZT (ws : List W) (h : Hv) : Res Src := match ws with
  | [.tup xs, .tup ys] => .val ⟨xs.length + 1, nxZipT xs ys⟩ h
  | _ => .bad
def mZipT (g : Ws → Hv → Res (List W)) : Ws → Hv → Res Src := fun r h => (g r h).bind srcZT
theorem sim_zipT {T : Tx} {K : PySem.W.Frag} (hK : T.K = K) {ps : Pl} {n : Nat} {a b : Addr} {xs ys : List W} {vs us : List V} (ha : ps.tu a vs) (ra : Paired (WV ps) xs vs) (hb : ps.tu b us) (rb : Paired (WV ps) ys us) : SimI T ps ⟨n, nxZipT xs ys⟩ (ItZ true true K a b) := by
  subst hK
  intro qs h H i pre vw
  have sa : SqT T.K H a vs := (vw.tup a vs (pre.2 _ _ ha)).sq
  have sb : SqT T.K H b us := (vw.tup b us (pre.2 _ _ hb)).sq
  have ra' := WVs.mono pre ra
  have rb' := WVs.mono pre rb
  show NxOk T qs H (ItZ true true T.K a b) i (nxZipT xs ys i h)
  unfold nxZipT zipN
  split
  · rename_i x y ex ey
    obtain ⟨v, ev, wv⟩ := paired_get ra' ex
    obtain ⟨u, eu, wu⟩ := paired_get rb' ey
    refine ⟨⟨vs, us, v, u, sa, sb, ev, eu⟩, fun z H' y => ?_⟩
    obtain ⟨t, x', y', rfl, hq, rfl, y1, y2⟩ := y
    have z1 := y1 vs sa
    have z2 := y2 us sb
    rw [ev] at z1
    rw [eu] at z2
    cases z1
    cases z2
    obtain ⟨v1, s1⟩ := vw.tuple hq [v, u]
    exact ⟨_, s1, v1, WV.tup_mk (.inr ⟨rfl, rfl⟩) (WVs.mono s1.pre (.cons wv (.cons wu .nil)))⟩
  · rename_i no
    refine ⟨vs, us, sa, sb, ?_⟩
    cases ex : xs[i]? with
    | none => exact .inl (paired_none ra' ex)
    | some x =>
      cases ey : ys[i]? with
      | none => exact .inr (paired_none rb' ey)
      | some y => exact absurd ey (no x y ex)
theorem si_zipT {T : Tx} {X : Cx} {e e2 : Expr} {p pos : Pos} {fa : Ws → Hv → Res (List W)} {tpos : Pos} {elts : List Expr} {kk : Nat} (hg : Gl X "zip") (hm : X.mg "zip" = none) (ha : SA T X [e, e2] fa) (hK : T.K = X.K := by rfl) (hs : starEach [e, e2] X.env = (false, eval e X.env) :: starEach [e2] X.env := by rfl) (hpl : (backTo pos (starEach [e2] X.env)).any (·.1) = false := by rfl) :
    SI T X (.Tuple elts kk tpos) (.Call (.Name "zip" p) [e, e2] [] pos) (mZipT fa) := fun E cn => ⟨fun pins s σ H R I h => (pi_zK true true hg hm (ha E cn) hs hpl).run pins s σ H R I (by
  obtain ⟨ps, r, hv, es, vw, gd⟩ := h
  refine ⟨ps, r, hv, es, vw, ?_⟩
  cases q : fa r hv with
  | bad => unfold mZipT at gd; rw [q] at gd; exact gd.elim
  | exc c d h1 => unfold mZipT at gd; rw [q] at gd; exact gd
  | val ws h1 =>
    unfold mZipT at gd
    rw [q] at gd
    have g1 : Good T (SimI T) ps H (srcZT ws h1) R _ := gd
    intro qs H' vs st vw' wv
    unfold srcZT at g1
    split at g1
    · obtain ⟨v, u, rfl, wa, wt⟩ := two_args wv
      obtain ⟨a, xs', rfl, ha', ra⟩ := wa.tup_of
      obtain ⟨b, us, rfl, hb, rb⟩ := wt.tup_of
      exact ⟨a, b, xs', us, rfl, hK ▸ TupAt.sq (vw'.tup a xs' ha'), hK ▸ TupAt.sq (vw'.tup b us hb), g1 qs H' _ st vw' (sim_zipT hK ha' ra hb rb)⟩
    · exact g1.elim)⟩
end VL
end
section
/-! dicts of the program's own: get; a statement that runs while a dict is locked -/
namespace VL
open PySem L2 PySem.Spec PyProof.Rows
/-- at a stands the written dict tab, its values tuples of flat values -/
def KTab (K : PySem.W.Frag) (w : World) (a : Addr) (tab : List (Str × List W)) : Prop :=
  (∃ es n, KDict K w a es n) ∧ ∀ z, (tab.lookup z = none → PySem.W.nsIn K a z = some none) ∧ ∀ ws, tab.lookup z = some ws → ∃ t us, PySem.W.nsIn K a z = some (some (.ref t)) ∧ KT K t us ∧ flatsW ws = some us
section
variable {X : Cx} {o e f : Expr} {apos cpos : Pos} {ty tx : TE} {a : Addr} {es : Array DictEntry} {n : Nat}
def tKGet (K : PySem.W.Frag) (a : Addr) (ty : TE) : TE := fun σ H Q => ty σ H fun y H1 => ∃ (z : Str) (r : Option Value) (v : V), y = .str z ∧ PySem.W.nsIn K a z = some r ∧ RelV v (r.getD .none) ∧ Q v H1
theorem pe_kget (D : KDict X.K X.w a es n) (ho : PE X o (tC (.ref a))) (he : PE X e ty) (m : M1 X o "get" apos e cpos) : PE X (.Call (.Attribute o "get" apos) [e] [] cpos) (tKGet X.K a ty) := ⟨fun pins s σ H Q I h => by
  have z0 := ho.run pins s σ H (fun x H1 => x = .ref a ∧ tKGet X.K a ty σ H1 Q) I ⟨rfl, h⟩
  refine wpAny_Call_method m.base m.few m.line PySem.F.plainAttrs_dict PySem.F.slot_dict_get PySem.F.type_dict_get (thn z0 fun u s1 ⟨x, H1, I1, rx, ex, q1⟩ => ?_)
  · subst ex
    have eu : u = Value.ref a := rx
    subst eu
    have hm1 := PySem.W.mapOf_K (prog := X.prog) (w := X.w) I1.kIn D.at_ D.lit
    refine ⟨hm1.typeIs, hm1.noDict, ?_⟩
    rw [m.trees]
    refine Calls.callWith_builtin rfl (Calls.evalArgs_plain (Calls.spliced_cons (thn (he.run pins s1 σ H1 _ I1 q1) fun iv s2 ⟨y, H2, I2, ry, z, r, v, ey, er, rv, q2⟩ => Calls.spliced_nil ?_)))
    subst ey
    obtain ⟨t, rfl⟩ := (show ∃ t, iv = Value.str z t from ry)
    have hm2 := PySem.W.mapOf_K (prog := X.prog) (w := X.w) I2.kIn D.at_ D.lit
    refine call_meetsIn PySem.F.slot_dict_get hm2.typeIs PySem.F.entry_dict_get (PySem.F.args_dict_get_2 _ _) (meets_dict_get (strKind X.prog X.w) a (PySem.strKind_is X.prog X.w z t) D.low) ⟨_, hm2, ?_⟩
    rw [PySem.W.find_K D.at_ er]
    exact ⟨v, H2, I2.tok _, rv, q2⟩⟩
def tKGet2 (K : PySem.W.Frag) (a : Addr) (ty tx : TE) : TE := fun σ H Q => ty σ H fun y H1 => tx σ H1 fun x H2 => ∃ (z : Str) (r : Option Value), y = .str z ∧ PySem.W.nsIn K a z = some r ∧ ((r = none ∧ Q x H2) ∨ ∃ u v, r = some u ∧ RelV v u ∧ Q v H2)
theorem pe_kget2 (D : KDict X.K X.w a es n) (ho : PE X o (tC (.ref a))) (he : PE X e ty) (hf : PE X f tx) (m : M2 X o "get" apos e f cpos) : PE X (.Call (.Attribute o "get" apos) [e, f] [] cpos) (tKGet2 X.K a ty tx) := ⟨fun pins s σ H Q I h => by
  have z0 := ho.run pins s σ H (fun x H1 => x = .ref a ∧ tKGet2 X.K a ty tx σ H1 Q) I ⟨rfl, h⟩
  refine wpAny_Call_method m.base m.few m.line PySem.F.plainAttrs_dict PySem.F.slot_dict_get PySem.F.type_dict_get (thn z0 fun u s1 ⟨x, H1, I1, rx, ex, q1⟩ => ?_)
  · subst ex
    have eu : u = Value.ref a := rx
    subst eu
    have hm1 := PySem.W.mapOf_K (prog := X.prog) (w := X.w) I1.kIn D.at_ D.lit
    refine ⟨hm1.typeIs, hm1.noDict, ?_⟩
    rw [m.trees]
    refine Calls.callWith_builtin rfl (Calls.evalArgs_plain (Calls.spliced_cons (thn (he.run pins s1 σ H1 _ I1 q1) fun iv s2 ⟨y, H2, I2, ry, q2⟩ => Calls.spliced_cons (thn (hf.run pins s2 σ H2 _ I2 q2) fun fv s3 ⟨x, H3, I3, rx, z, r, ey, er, q3⟩ => Calls.spliced_nil ?_))))
    subst ey
    obtain ⟨t, rfl⟩ := (show ∃ t, iv = Value.str z t from ry)
    have hm2 := PySem.W.mapOf_K (prog := X.prog) (w := X.w) I3.kIn D.at_ D.lit
    refine call_meetsIn PySem.F.slot_dict_get hm2.typeIs PySem.F.entry_dict_get (PySem.F.args_dict_get_3 _ _ _) (meets_dict_get_default (strKind X.prog X.w) a (PySem.strKind_is X.prog X.w z t) D.low fv) ⟨_, hm2, ?_⟩
    rw [PySem.W.find_K D.at_ er]
    rcases q3 with ⟨rfl, q3⟩ | ⟨u, v, rfl, rv, q3⟩
    · exact ⟨x, H3, I3.tok _, rx, q3⟩
    · exact ⟨v, H3, I3.tok _, rv, q3⟩⟩
end
/-- TAB.get(e) -/
def kgetO (tab : List (Str × List W)) (x d : W) (h : Hv) : Res W := match x with
  | .str z => (match tab.lookup z with
    | some ws => .val (.tup ws) h
    | none => .val d h)
  | _ => .bad
def mKGet (tab : List (Str × List W)) (f : Ws → Hv → Res W) : Ws → Hv → Res W := fun r h => (f r h).bind fun x h1 => kgetO tab x .non h1
def mKGet2 (tab : List (Str × List W)) (f g : Ws → Hv → Res W) : Ws → Hv → Res W := fun r h => (f r h).bind fun x h1 => (g r h1).bind fun d h2 => kgetO tab x d h2
/-- a tuple of the program's own is known -/
theorem View.kt {T : Tx} {ps : Pl} {h : Hv} {H : Hp} (vw : View T ps h H) {a : Addr} {us : List V} (hk : KT T.K a us) : View T (ps.more a us) h H ∧ Step ps H (ps.more a us) H :=
  ⟨⟨vw.len, vw.nd, fun i b o e1 e2 => (vw.ob i b o e1 e2).mono (Pl.Le.more _ _ _), vw.tab, vw.fact, (fun b vs t => t.elim (vw.tup b vs) fun ⟨e1, e2⟩ => by subst e1 e2; exact .inr hk), vw.hold⟩, ⟨Pl.Le.more _ _ _, fun b o ha hb _ => absurd ha hb, fun _ _ z _ _ => z⟩⟩
section
variable {T : Tx} {X : Cx} {o e e2 : Expr} {f g : Ws → Hv → Res W} {apos cpos : Pos} {a : Addr} {tab : List (Str × List W)}
theorem se_kget (D : KTab X.K X.w a tab) (ho : PE X o (tC (.ref a))) (he : SE T X e f) (hK : T.K = X.K := by rfl) (m : M1 X o "get" apos e cpos := by exact ⟨rfl, rfl, rfl, rfl⟩) : SE T X (.Call (.Attribute o "get" apos) [e] [] cpos) (mKGet tab f) := fun E cn => D.1.elim fun es ⟨n, d⟩ => PEi (pe_kget d ho (he E cn) m) fun s H Q ⟨ps, r, hv, es, vw, gd⟩ => by
  refine ⟨ps, r, hv, es, vw, (Good.bind (R := WV) (S := WV) gd).imp (fun v H1 q => ?_) fun _ _ _ z => z⟩
  obtain ⟨qs, w, h1, st, vw1, wv, g1⟩ := q
  dsimp only at g1
  unfold kgetO at g1
  split at g1
  · rename_i z
    obtain ⟨d1, d2⟩ := D.2 z
    split at g1
    · rename_i ws el
      obtain ⟨t, us, e1, e2, e3⟩ := d2 ws el
      obtain ⟨vw2, st2⟩ := vw1.kt (hK ▸ e2)
      exact ⟨z, some (.ref t), .ref t, wv, e1, rfl, g1 _ _ _ st2 vw2 (WV.tup_mk (.inr ⟨rfl, rfl⟩) (paired_flats e3))⟩
    · rename_i el
      exact ⟨z, none, .non, wv, d1 el, rfl, Good.now g1 vw1 rfl⟩
  · exact g1.elim
theorem se_kget2 (D : KTab X.K X.w a tab) (ho : PE X o (tC (.ref a))) (he : SE T X e f) (hg : SE T X e2 g) (hK : T.K = X.K := by rfl) (m : M2 X o "get" apos e e2 cpos := by exact ⟨rfl, rfl, rfl, rfl⟩) : SE T X (.Call (.Attribute o "get" apos) [e, e2] [] cpos) (mKGet2 tab f g) := fun E cn => D.1.elim fun es ⟨n, d⟩ => PEi (pe_kget2 d ho (he E cn) (hg E cn) m) fun s H Q ⟨ps, r, hv, es, vw, gd⟩ => by
  refine ⟨ps, r, hv, es, vw, (Good.bind (R := WV) (S := WV) gd).imp (fun v H1 q => ?_) fun _ _ _ z => z⟩
  obtain ⟨qs, w, h1, st, vw1, wv, g1⟩ := q
  refine ⟨qs, r, h1, es.mono st.pre, vw1, (Good.bind (R := WV) (S := WV) g1).imp (fun x H2 q2 => ?_) fun _ _ _ z => z⟩
  obtain ⟨rs, wx, h2, st2, vw2, wvx, g2⟩ := q2
  dsimp only at g2
  unfold kgetO at g2
  split at g2
  · rename_i z
    obtain ⟨d1, d2⟩ := D.2 z
    split at g2
    · rename_i ws el
      obtain ⟨t, us, e1, e2, e3⟩ := d2 ws el
      obtain ⟨vw3, st3⟩ := vw2.kt (hK ▸ e2)
      exact ⟨z, some (.ref t), wv, e1, .inr ⟨.ref t, .ref t, rfl, rfl, g2 _ _ _ st3 vw3 (WV.tup_mk (.inr ⟨rfl, rfl⟩) (paired_flats e3))⟩⟩
    · rename_i el
      exact ⟨z, none, wv, d1 el, .inl ⟨rfl, Good.now g2 vw2 wvx⟩⟩
  · exact g2.elim
end
/-! ### a statement that runs while the dict in slot i is locked -/
def unlockS (p : Nat) (kvs : List (Key × W)) : ResS → ResS
  | .nx r h => .nx r (h.set p (.dic kvs))
  | .rt w h => .rt w (h.set p (.dic kvs))
  | .bk r h => .bk r (h.set p (.dic kvs))
  | .ct r h => .ct r (h.set p (.dic kvs))
  | .exc c d r h => .exc c d r (h.set p (.rox kvs))
  | .bad => .bad
def mLockS (i : Nat) (f : MS) : MS := fun r h => match slotP i r with
  | some p => (match h[p]? with
    | some (.dic kvs) => unlockS p kvs (f r (h.set p (.rod kvs)))
    | _ => .bad)
  | none => .bad
theorem ss_lockS {T : Tx} {X : Cx} {st : Stmt} {f : MS} (i : Nat) (h9 : ∀ d : Hd, SS (T.hold d) X st f) : SS T X st (mLockS i f) := fun E cn => by
  have base : PS X st (fun D s H => ∃ d, tS (T.hold d) E f D s H) := ⟨fun pins s σ H D I ⟨d, h⟩ => (h9 d E cn).run pins s σ H D I h⟩
  refine PSi (ps_lock base) fun D s H ⟨ps, r, hv, es, vw, gd⟩ => ?_
  unfold mLockS at gd
  split at gd
  · rename_i p ep
    split at gd
    · rename_i kvs ek
      obtain ⟨a, vs, ea, eH, rr, hno, lk⟩ := vw.lock ek
      refine ⟨a, .dK vs, eH, trivial, fun od => ⟨T.hd.one a od (.dK vs), ps, r, _, es, (lk od).1, ?_⟩⟩
      have st0 := (lk od).2
      have back : ∀ {qs : Pl} {h1 : Hv} {H1 : Hp}, Step ps (upd H a (.frz od (.dK vs))) qs H1 → View (T.hold (T.hd.one a od (.dK vs))) qs h1 H1 → H1 a = some (.frz od (.dK vs)) ∧ View T qs (h1.set p (.dic kvs)) (upd H1 a (.dK vs)) ∧ Step ps H qs (upd H1 a (.dK vs)) ∧ View T qs (h1.set p (.rox kvs)) H1 ∧ Step ps H qs H1 := fun {qs h1 H1} st1 vw1 => by
        obtain ⟨u1, ⟨u2, u3⟩, u4⟩ := vw1.unlock (at_pre st1.pre ea) hno (L2.Paired.mapP rr fun _ _ z => z.mono st1.pre)
        exact ⟨u1, u2, (st0.trans st1).trans u3, u4, st0.trans st1⟩
      cases q : f r (hv.set p (.rod kvs)) with
      | bad => rw [q] at gd; exact gd.elim
      | nx r1 h1 =>
        rw [q] at gd
        intro qs H1 s1 st1 vw1 es1
        obtain ⟨u1, u2, u3, _⟩ := back st1 vw1
        exact ⟨u1, gd qs _ s1 u3 u2 es1⟩
      | rt w h1 =>
        rw [q] at gd
        intro qs H1 v st1 vw1 wv
        obtain ⟨u1, u2, u3, _⟩ := back st1 vw1
        exact ⟨u1, gd qs _ v u3 u2 wv⟩
      | bk r1 h1 =>
        rw [q] at gd
        intro qs H1 s1 st1 vw1 es1
        obtain ⟨u1, u2, u3, _⟩ := back st1 vw1
        exact ⟨u1, gd qs _ s1 u3 u2 es1⟩
      | ct r1 h1 =>
        rw [q] at gd
        intro qs H1 s1 st1 vw1 es1
        obtain ⟨u1, u2, u3, _⟩ := back st1 vw1
        exact ⟨u1, gd qs _ s1 u3 u2 es1⟩
      | exc c d r1 h1 =>
        rw [q] at gd
        intro qs H1 s1 e9 st1 vw1 es1 dv
        obtain ⟨_, _, _, u4, u5⟩ := back st1 vw1
        exact gd qs H1 s1 e9 u5 u4 es1 dv
    · exact gd.elim
  · exact gd.elim
end VL
end
section
/-! what is known of a written dict -/
namespace VL
open PySem L2 PySem.Spec PyProof.Rows
def rowE (w : World) (r : Str × Tok × Addr) : DictEntry := ⟨PyData.keyHash w.params r.1, .str r.1 r.2.1, .ref r.2.2⟩
theorem rows_lit {w : World} : ∀ rows : List (Str × Tok × Addr), PySem.W.KeysLit w.params (rows.map (rowE w))
  | [] => trivial
  | r :: rows => ⟨⟨_, _, rfl, rfl⟩, rows_lit rows⟩
theorem rows_find {w : World} {z : Str} : ∀ {rows : List (Str × Tok × Addr)} {tab : List (Str × List W)} {R : Str × Tok × Addr → Str × List W → Prop}, (∀ r t, R r t → r.1 = t.1) → Paired R rows tab →
    (tab.lookup z = none → (rows.map (rowE w)).find? (·.key.isStr z) = none) ∧ ∀ ws, tab.lookup z = some ws → ∃ r t, R r t ∧ t.2 = ws ∧ (rows.map (rowE w)).find? (·.key.isStr z) = some (rowE w r)
  | [], [], R, _, .nil => ⟨fun _ => rfl, fun ws e => by cases e⟩
  | r :: rows, t :: tab, R, hk, .cons h g => by
    obtain ⟨i1, i2⟩ := rows_find (w := w) (z := z) hk g
    have e := hk r t h
    obtain ⟨tk, tv⟩ := t
    have e : r.1 = tk := e
    subst e
    have ks : (rowE w r).key.isStr z = (r.1 == z) := rfl
    rw [List.map_cons, List.find?_cons, List.lookup_cons]
    by_cases c : z = r.1
    · subst c
      rw [ks]
      simp only [beq_self_eq_true]
      refine ⟨fun y => ?_, fun ws y => ?_⟩
      · cases y
      · cases y
        exact ⟨r, _, h, rfl, rfl⟩
    · have c1 : (z == r.1) = false := beq_eq_false_iff_ne.mpr c
      have c2 : (r.1 == z) = false := beq_eq_false_iff_ne.mpr fun y => c y.symm
      rw [ks, c1, c2]
      exact ⟨i1, i2⟩
theorem ktab_of {K : PySem.W.Frag} {w : World} {a : Addr} {n : Nat} (rows : List (Str × Tok × Addr)) {tab : List (Str × List W)} (hl : K.lookup a = some ⟨.type "dict", none, .dict (rows.map (rowE w)).toArray n, #[]⟩) (low : (a == sysModules) = false)
    (h : Paired (fun (r : Str × Tok × Addr) (t : Str × List W) => r.1 = t.1 ∧ ∃ us, KT K r.2.2 us ∧ flatsW t.2 = some us) rows tab) : KTab K w a tab := by
  refine ⟨⟨_, n, hl, rows_lit rows, low⟩, fun z => ?_⟩
  obtain ⟨f1, f2⟩ := rows_find (w := w) (z := z) (fun r t h => h.1) h
  have na : (rows.map (rowE w)).any (·.refKey) = false := by
    rw [List.any_eq_false]
    intro e he
    obtain ⟨r, _, rfl⟩ := List.mem_map.mp he
    exact fun z => by cases z
  unfold PySem.W.nsIn
  rw [hl]
  dsimp only
  refine ⟨fun e => ?_, fun ws e => ?_⟩
  · rw [f1 e, na]
    rfl
  · obtain ⟨r, t, ⟨_, us, k1, k2⟩, e2, e3⟩ := f2 ws e
    rw [e3]
    exact ⟨r.2.2, us, rfl, k1, by rw [← e2]; exact k2⟩
end VL
end
section
/-! names: small letters -/
namespace VL
open PySem L2
/-- a small letter -/
def lowC (c : Nat) : Bool := decide (97 ≤ c) && decide (c ≤ 122)
/-- text of signs below 128 -/
def Asc (z : Str) : Prop := ∀ c ∈ z.cps.toList, c < 128
def nameB (z : Str) : Bool := decide (1 ≤ z.length) && decide (z.length ≤ 8) && z.cps.toList.all lowC
theorem low_tab : (List.range 128).all (fun c => (Unicode.isAlpha c && Unicode.isLower c && !(Unicode.isUpper c || Unicode.isTitle c)) == lowC c && (Unicode.isAlpha c == (Unicode.isLower c || (Unicode.isUpper c || Unicode.isTitle c)))) = true := by decide +kernel
theorem low_of {c : Nat} (h : c < 128) : (Unicode.isAlpha c && Unicode.isLower c && !(Unicode.isUpper c || Unicode.isTitle c)) = lowC c ∧ Unicode.isAlpha c = (Unicode.isLower c || (Unicode.isUpper c || Unicode.isTitle c)) := by
  have z := List.all_eq_true.mp low_tab c (List.mem_range.mpr h)
  rw [Bool.and_eq_true, beq_iff_eq, beq_iff_eq] at z
  exact z
theorem all_cps (z : Str) (p : Nat → Bool) : z.cps.all p = z.cps.toList.all p := by simp
theorem any_cps (z : Str) (p : Nat → Bool) : z.cps.any p = z.cps.toList.any p := by simp
theorem asc_ascii {z : Str} (h : Asc z) : Txt.isascii z = true := by
  unfold Txt.isascii
  rw [all_cps, List.all_eq_true]
  exact fun c hc => decide_eq_true (h c hc)
/-- isalpha and islower of text below 128 -/
theorem alpha_low {z : Str} (h : Asc z) (h1 : 1 ≤ z.length) : (Txt.isalpha z && Txt.islower z) = z.cps.toList.all lowC := by
  have hl : z.cps.toList.length = z.length := Array.length_toList
  unfold Txt.isalpha Txt.islower
  rw [all_cps, any_cps, any_cps]
  generalize hL : z.cps.toList = L at hl
  have ha : ∀ c ∈ L, c < 128 := by rw [← hL]; exact h
  have e0 : decide (z.length > 0) = true := decide_eq_true h1
  rw [e0, Bool.true_and]
  rw [Bool.eq_iff_iff]
  simp only [Bool.and_eq_true, List.all_eq_true, List.any_eq_true, Bool.not_eq_true', Bool.or_eq_true]
  constructor
  · rintro ⟨a1, ⟨c0, m0, l0⟩, nu⟩ c hc
    have z1 := (low_of (ha c hc)).1
    have z2 := (low_of (ha c hc)).2
    have na : (Unicode.isUpper c || Unicode.isTitle c) = false := by
      rw [List.any_eq_false] at nu
      have := nu c hc
      simpa using this
    have al := a1 c hc
    rw [al, na, Bool.or_false] at z2
    rw [al, ← z2, na] at z1
    exact z1.symm
  · intro a1
    have key : ∀ c ∈ L, Unicode.isAlpha c = true ∧ Unicode.isLower c = true ∧ (Unicode.isUpper c || Unicode.isTitle c) = false := fun c hc => by
      have z1 := (low_of (ha c hc)).1
      rw [a1 c hc] at z1
      simpa [Bool.and_eq_true, and_assoc] using z1
    refine ⟨fun c hc => (key c hc).1, ?_, ?_⟩
    · cases L with
      | nil => simp at hl; omega
      | cons c L => exact ⟨c, List.mem_cons_self, (key c List.mem_cons_self).2.1⟩
    · rw [List.any_eq_false]
      intro c hc
      have := (key c hc).2.2
      simpa using this
end VL
end
section
/-! equal data; texts shown; a law with a tail -/
namespace VL
open PySem L2
mutual
theorem eqv_same : ∀ d : PyData, d.hasDict = false → PyData.eqv d d = true
  | .none, _ => rfl
  | .bool b, _ => by (simp [PyData.eqv])
  | .int i, _ => by (simp [PyData.eqv])
  | .str x, _ => by (simp [PyData.eqv])
  | .list xs, h => by
    simp only [PyData.eqv]
    exact eqvs_same xs (by simpa only [PyData.hasDict] using h)
  | .tuple xs, h => by
    simp only [PyData.eqv]
    exact eqvs_same xs (by simpa only [PyData.hasDict] using h)
  | .dict _, h => by simp [PyData.hasDict] at h
theorem eqvs_same : ∀ xs : List PyData, PyData.hasDictAll xs = false → PyData.eqvAll xs xs = true
  | [], _ => rfl
  | x :: xs, h => by
    simp only [PyData.hasDictAll, Bool.or_eq_false_iff] at h
    simp only [PyData.eqvAll, eqv_same x h.1, eqvs_same xs h.2, Bool.and_self]
end
/-- what is the same as data is equal -/
theorem eq_same {x y : W} {h : Hv} {d : PyData} {neg : Bool} (hx : toD dF h x = some d) (hy : toD dF h y = some d) (hs : SeqAt.shaped d = true) : mEq neg x y h = .val (.bl (!neg)) h := by
  have hd : d.hasDict = false := by
    unfold SeqAt.shaped at hs
    rw [Bool.and_eq_true] at hs
    exact PyData.hasDict_of_canLay d hs.1
  have e := eqv_same d hd
  cases neg <;> simp only [mEq, hx, hy, hs, Bool.and_self, if_true, e, Bool.not_true, Bool.not_false, Bool.false_eq_true, if_false]
/-! ### loops that return -/
theorem law_loop_tail {k : Int} {m : Nat} {N : List Str} {B T : MS} (hN : N.length = m + 3) (turn : ∀ (i : Nat) (c : Int), i ≤ 1000 → ∃ r g, B (none :: some (.int i) :: some (.int c) :: List.replicate m none) [] = .nx r g ∧ r.length = m + 3)
    (tail : ∃ g, T (List.replicate (m + 3) none) [] = .rt (.bl true) g) (ns : List Int) (h1 : ns.length ≤ 63) :
    ∃ h', mDef N (mSeq (mFor (lawSrc k) (mGs 2 (mGcons (mGn 1) (mGcons (mGn 2) mGnil))) (mLocal [1, 2] B)) (mLocal [] T)) [.ref 0] [.rol (ns.map W.int)] = .val (.bl true) h' := by
  obtain ⟨L, P, h, es, eP, hL, hI⟩ := lawSrc_ok (k := k) (List.replicate (m + 2) none) ns h1
  have keep0 : ∀ (ks : List Nat) (j : Nat) (r : Ws), (∀ i, j ≤ i → ks.contains i = false) → keepR ks j r = List.replicate r.length none := fun ks j r hj => by
    induction r generalizing j with
    | nil => rfl
    | cons o r ih =>
      simp only [keepR, hj j (Nat.le_refl _), Bool.false_eq_true, if_false, ih (j + 1) (fun i hi => hj i (by omega)), List.length_cons, List.replicate_succ]
  have step : ∀ (r : Ws) (g : Hv) (i : Nat) (c : Int), i ≤ 1000 → r.length = m + 3 → ∃ r', mLocal [1, 2] B ((r.set 1 (some (.int i))).set 2 (some (.int c))) g = .nx r' g ∧ r'.length = m + 3 := fun r g i c hi hl => by
    obtain ⟨r1, g1, e, l1⟩ := turn i c hi
    refine ⟨offR r1, ?_, by simp [offR, l1]⟩
    have kp : keepR [1, 2] 0 ((r.set 1 (some (.int i))).set 2 (some (.int c))) = none :: some (.int i) :: some (.int c) :: List.replicate m none := by
      match r, hl with
      | a :: b :: d :: r, hl =>
        have l2 : r.length = m := by simpa using hl
        have rest := keep0 [1, 2] 3 r (fun i hi => by simp; omega)
        rw [l2] at rest
        have front : keepR [1, 2] 0 (((a :: b :: d :: r).set 1 (some (.int i))).set 2 (some (.int c))) = none :: some (.int i) :: some (.int c) :: keepR [1, 2] 3 r := by
          cases a <;> rfl
        rw [front, rest]
      | [], hl => simp at hl
      | [a], hl => simp at hl
      | [a, b], hl => simp at hl
    unfold mLocal
    rw [kp, e]
  obtain ⟨r', h', fe, l', _⟩ := for_enumL (P := P) (L := L) (b := mLocal [1, 2] B) (fun r g => r.length = m + 3 ∧ g[P]? = some (.lst L)) (fun r g z => z.2) (fun i w ew r g z => by
    obtain ⟨c, rfl⟩ := hI w (List.mem_of_getElem? ew)
    have hi : i < L.length := (List.getElem?_eq_some_iff.mp ew).1
    obtain ⟨r1, e1, l1⟩ := step r g i c (by omega) z.1
    exact ⟨r1, _, e1, l1, z.2⟩) L.length 0 (some (.ref 0) :: List.replicate (m + 2) none) h (by omega) ⟨by simp, eP⟩
  have st : startW N [.ref 0] = some (.ref 0) :: List.replicate (m + 2) none := by
    unfold startW
    simp [hN]
  obtain ⟨g, te⟩ := tail
  refine ⟨h', ?_⟩
  have tl9 : mLocal [] T r' h' = .rt (.bl true) h' := by
    unfold mLocal
    rw [keep0 [] 0 r' (fun i _ => rfl), l', te]
    rfl
  rw [mDef_eq, st, mSeq_eq]
  unfold mFor
  rw [es, andS_val, fe, thenS_nx, tl9, endS_rt]

/-! ### texts, shown -/
theorem repr_tab : (List.range 128).all (fun c => (Builtin.Str.reprChar 39 c).all (fun d => decide (d < 128)) && decide ((Builtin.Str.reprChar 39 c).length ≤ 4) && ((Builtin.Str.reprChar 34 c).all (fun d => decide (d < 128)) && decide ((Builtin.Str.reprChar 34 c).length ≤ 4))) = true := by decide +kernel
theorem repr_char {q c : Nat} (hq : q = 39 ∨ q = 34) (h : c < 128) : (∀ d ∈ Builtin.Str.reprChar q c, d < 128) ∧ (Builtin.Str.reprChar q c).length ≤ 4 := by
  have z := List.all_eq_true.mp repr_tab c (List.mem_range.mpr h)
  simp only [Bool.and_eq_true, List.all_eq_true, decide_eq_true_eq] at z
  rcases hq with rfl | rfl
  · exact z.1
  · exact z.2
theorem repr_fold {q : Nat} (hq : q = 39 ∨ q = 34) : ∀ (l : List Nat) (acc : Array Nat), (∀ c ∈ l, c < 128) → (∀ c ∈ acc.toList, c < 128) →
    (∀ c ∈ (l.foldl (fun out c => out ++ (Builtin.Str.reprChar q c).toArray) acc).toList, c < 128) ∧ (l.foldl (fun out c => out ++ (Builtin.Str.reprChar q c).toArray) acc).size ≤ acc.size + 4 * l.length
  | [], acc, _, h => ⟨h, by simp⟩
  | c :: l, acc, hl, h => by
    obtain ⟨c1, c2⟩ := repr_char hq (hl c List.mem_cons_self)
    obtain ⟨i1, i2⟩ := repr_fold hq l (acc ++ (Builtin.Str.reprChar q c).toArray) (fun d hd => hl d (List.mem_cons_of_mem _ hd)) (fun d hd => by
      rw [Array.toList_append, List.mem_append] at hd
      rcases hd with hd | hd
      · exact h d hd
      · exact c1 d (by simpa using hd))
    refine ⟨i1, Nat.le_trans i2 ?_⟩
    simp only [Array.size_append, List.size_toArray, List.length_cons]
    omega
theorem asc_repr {z : Str} (h : Asc z) : Asc (reprText z) ∧ (reprText z).length ≤ 4 * z.length + 2 := by
  have hq : reprQuote z = 39 ∨ reprQuote z = 34 := by
    unfold reprQuote
    split
    · exact .inr rfl
    · exact .inl rfl
  have q128 : reprQuote z < 128 := by rcases hq with e | e <;> rw [e] <;> decide
  obtain ⟨f1, f2⟩ := repr_fold hq z.cps.toList #[reprQuote z] h (fun c hc => by
    have : c = reprQuote z := by simpa using hc
    rw [this]
    exact q128)
  have ef : z.cps.foldl (fun out c => out ++ (Builtin.Str.reprChar (reprQuote z) c).toArray) #[reprQuote z] = z.cps.toList.foldl (fun out c => out ++ (Builtin.Str.reprChar (reprQuote z) c).toArray) #[reprQuote z] := by simp
  constructor
  · intro c hc
    unfold reprText at hc
    rw [ef] at hc
    simp only [Array.toList_push, List.mem_append, List.mem_singleton] at hc
    rcases hc with hc | rfl
    · exact f1 c hc
    · exact q128
  · unfold reprText Str.length
    rw [ef]
    simp only [Array.size_push]
    have e1 : (#[reprQuote z] : Array Nat).size = 1 := rfl
    have e2 : z.cps.toList.length = z.cps.size := by simp
    omega
theorem asc_ok {z : Str} (h : Asc z) : PyData.strOk z = true := by
  unfold PyData.strOk
  rw [all_cps, List.all_eq_true]
  exact fun c hc => decide_eq_true (by have := h c hc; omega)
theorem asc_app {a b : Str} (h1 : Asc a) (h2 : Asc b) : Asc (a ++ b) := fun c hc => by
  rw [Str.cps_append, Array.toList_append, List.mem_append] at hc
  rcases hc with hc | hc
  · exact h1 c hc
  · exact h2 c hc
theorem reprF_str {z : Str} {h : Hv} (a : Asc z) (l : z.length ≤ 1000) : mReprF [.str z] h = .val (.str (reprText z)) h := by
  have e : mRepr [.str z] h = .val (.str (reprText z)) h := by
    have t : toD dF h (.str z) = some (.str z) := rfl
    have l2 := (asc_repr a).2
    unfold mRepr
    simp only [t]
    have c : ((PyData.str z).showable && !(PyData.str z).hasDict && decide ((PyData.str z).depth ≤ 60) && decide ((PyData.str z).shown.length ≤ 100000)) = true := by
      have s1 : (PyData.str z).shown = reprText z := by simp only [PyData.shown]
      rw [s1]
      simp only [PyData.showable, PyData.hasDict, PyData.depth, Bool.not_false, Bool.and_self, Bool.true_and, Bool.and_eq_true, decide_eq_true_eq]
      exact ⟨decide_eq_true (Nat.zero_le _), by omega⟩
    rw [if_pos c]
    simp only [PyData.shown]
  exact e
end VL
end
section
/-! programs and settings: the mirrors (errors: a InvalidSetting, b UnknownName, c InvalidProgram; P programs, S settings) -/
namespace PL
open PySem L2 VL LD
def tab_FORMS : List (Str × List W) := [("work", [.str "name", .str "amount"]), ("take", [.str "name"]), ("give", [.str "name"]), ("put", [.str "name", .str "value"]), ("get", [.str "name"]), ("skip", [.str "value", .str "count"]), ("await", [.str "task"])]
def tab_LIMITS : List (Str × List W) := [("amount", [.int 0, .int 1000000000000000000000000000000]), ("value", [.int 0, .int 9]), ("count", [.int 1, .int 20])]
def m_is_name : MFn := mDef ["value"] ((mSeq (mIfS (mOrT (mNotT (mT (mB mIsi (mCons (mVar 0) (mCons (mC (.ty "str")) mNil))))) (mNotT (mT (mChain mLe mLe (mC (.int 1)) (mB mLen (mCons (mVar 0) mNil)) (mC (.int 8)))))) (mRet (mC (.bl false))) mNext)
    (mRet (mAndV (mM0 mAscii (mVar 0)) (mAndV (mM0 mAlpha (mVar 0)) (mM0 mLower (mVar 0)))))))
def m_require_name : MFn := mDef ["value"] ((mIfS (mNotT (mT (mCall 1 m_is_name (mCons (mVar 0) mNil)))) (mRaise "b" "name" (mCons (mVar 0) mNil)) mNext))
def m_form_of : MFn := mDef ["word"] ((mRet (mIf (mT (mB mIsi (mCons (mVar 0) (mCons (mC (.ty "str")) mNil)))) (mKGet tab_FORMS (mVar 0)) (mC .non))))
def m_is_item : MFn := mDef ["item", "kind", "tasks", "low", "high"] ((mSeq (mIfS (mT (m2 (mEq false) (mVar 1) (mC (.str ("name" : Str))))) (mRet (mCall 1 m_is_name (mCons (mVar 0) mNil))) mNext)
    (mSeq (mAsg (mKGet2 tab_LIMITS (mVar 1) (mTup (mCons (mC (.int 0)) (mCons (m2 mSub (mVar 2) (mC (.int 1))) mNil)))) (mGs 2 (mGcons (mGn 3) (mGcons (mGn 4) mGnil))))
    (mRet (mAndV (mCall 1 m_is_whole (mCons (mVar 0) mNil)) (mChain mLe mLe (mVar 3) (mVar 0) (mVar 4)))))))
def m_is_step : MFn := mDef ["value", "tasks", "form", "item", "kind"] ((mSeq (mIfS (mOrT (mNotT (mT (mB mIsi (mCons (mVar 0) (mCons (mC (.ty "tuple")) mNil))))) (mT (m2 (mEq false) (mB mLen (mCons (mVar 0) mNil)) (mC (.int 0))))) (mRet (mC (.bl false))) mNext)
    (mSeq (mSet 2 (mCall 1 m_form_of (mCons (m2 mIx (mVar 0) (mC (.int 0))) mNil)))
    (mSeq (mIfS (mOrT (mT (m2 (mIs false) (mVar 2) (mC .non))) (mT (m2 (mEq true) (mB mLen (mCons (mVar 0) mNil)) (m2 mAdd (mB mLen (mCons (mVar 2) mNil)) (mC (.int 1)))))) (mRet (mC (.bl false))) mNext)
    (mRet (mB mAllL (mCons (mLcT (mZipT (mCons (mSlA (mVar 0) (mPart (some (mC (.int 1)))) (mPart none)) (mCons (mVar 2) mNil))) 3 4 mYes (mCall 3 m_is_item (mCons (mVar 3) (mCons (mVar 4) (mCons (mVar 1) mNil))))) mNil)))))))
def m_require_tasks : MFn := mDef ["tasks", "number", "task", "index", "step"] ((mSeq (mIfS (mOrT (mNotT (mT (mB mIsi (mCons (mVar 0) (mCons (mC (.ty "tuple")) mNil))))) (mNotT (mT (mChain mLe mLe (mC (.int 1)) (mB mLen (mCons (mVar 0) mNil)) (mC (.int 6)))))) (mRaise "c" "place" (mCons (mC .non) mNil)) mNext)
    (mSeq (mFor (mEnT (mCons (mVar 0) mNil)) (mGs 2 (mGcons (mGn 1) (mGcons (mGn 2) mGnil))) (mIfS (mOrT (mNotT (mT (mB mIsi (mCons (mVar 2) (mCons (mC (.ty "tuple")) mNil))))) (mT (m2 mGt (mB mLen (mCons (mVar 2) mNil)) (mC (.int 20))))) (mRaise "c" "place" (mCons (mTup (mCons (mVar 1) (mCons (mC .non) mNil))) mNil)) mNext))
    (mFor (mEnT (mCons (mVar 0) mNil)) (mGs 2 (mGcons (mGn 1) (mGcons (mGn 2) mGnil))) (mFor (mEnT (mCons (mVar 2) mNil)) (mGs 2 (mGcons (mGn 3) (mGcons (mGn 4) mGnil))) (mIfS (mNotT (mT (mCall 2 m_is_step (mCons (mVar 4) (mCons (mB mLen (mCons (mVar 0) mNil)) mNil))))) (mRaise "c" "place" (mCons (mTup (mCons (mVar 1) (mCons (mVar 3) mNil))) mNil)) mNext))))))
def m_is_capacity : MFn := mDef ["value"] ((mRet (mAndV (mCall 1 m_is_whole (mCons (mVar 0) mNil)) (mChain mLe mLe (mC (.int 1)) (mVar 0) (mC (.int 9))))))
def m_require_capacities : MFn := mDef ["capacities", "queue", "capacity"] ((mSeq (mIfS (mNotT (mT (mB mIsi (mCons (mVar 0) (mCons (mC (.ty "dict")) mNil))))) (mRaise "c" "place" (mCons (mC (.str ("capacities" : Str))) mNil)) mNext)
    (mLockS 0 (mFor (mItems (mVar 0)) (mGs 2 (mGcons (mGn 1) (mGcons (mGn 2) mGnil))) (mIfS (mOrT (mNotT (mT (mCall 1 m_is_name (mCons (mVar 1) mNil)))) (mNotT (mT (mCall 1 m_is_capacity (mCons (mVar 2) mNil))))) (mRaise "c" "place" (mCons (mC (.str ("capacities" : Str))) mNil)) mNext)))))
def m_Program_init : MFn := mDef ["self", "tasks", "capacities", "given", "queue"] ((mSeq (mExpr (mCall 1 m_require_tasks (mCons (mVar 1) mNil)))
    (mSeq (mSet 3 (mIf (mT (m2 (mIs false) (mVar 2) (mC .non))) (fun _ h => mNew (.dic []) h) (mVar 2)))
    (mSeq (mExpr (mCall 1 m_require_capacities (mCons (mVar 3) mNil)))
    (mSeq (mPutF "P" "plans" (mVar 0) (mVar 1))
    (mPutF "P" "rooms" (mVar 0) (mLockE 3 (mDc (mKeys (mVar 3)) 4 (mT (m2 (mEq true) (mIxD (mVar 3) (mVar 4)) (mC (.int 1)))) (mVar 4) (mIxD (mVar 3) (mVar 4))))))))))
def m_Program_tasks : MFn := mDef ["self"] ((mRet (mFld "P" "plans" (mVar 0))))
def m_Program_capacity : MFn := mDef ["self", "queue"] ((mSeq (mExpr (mCall 1 m_require_name (mCons (mVar 1) mNil)))
    (mRet (mGetD (mFld "P" "rooms" (mVar 0)) (mVar 1) (mC (.int 1))))))
def m_is_pace : MFn := mDef ["value"] ((mRet (mAndV (mCall 1 m_is_whole (mCons (mVar 0) mNil)) (mChain mLe mLe (mC (.int 0)) (mVar 0) (mC (.int 1000000))))))
def m_are_paces : MFn := mDef ["value", "part", "pace"] ((mSeq (mIfS (mNotT (mT (mB mIsi (mCons (mVar 0) (mCons (mC (.ty "dict")) mNil))))) (mRet (mC (.bl false))) mNext)
    (mRet (mB mAllL (mCons (mLockE 0 (mLcT (mItems (mVar 0)) 1 2 mYes (mAndV (mCall 1 m_is_name (mCons (mVar 1) mNil)) (mCall 1 m_is_pace (mCons (mVar 2) mNil))))) mNil)))))
def m_Setting_init : MFn := mDef ["self", "slownesses", "rule", "given", "part"] ((mSeq (mSet 3 (mIf (mT (m2 (mIs false) (mVar 1) (mC .non))) (fun _ h => mNew (.dic []) h) (mVar 1)))
    (mSeq (mIfS (mNotT (mT (mCall 1 m_are_paces (mCons (mVar 3) mNil)))) (mRaise "a" "value" (mCons (mVar 1) mNil)) mNext)
    (mSeq (mIfS (mOrT (mNotT (mT (mB mIsi (mCons (mVar 2) (mCons (mC (.ty "str")) mNil))))) (mT (m2 (mInA true) (mVar 2) (mC (.tup [.str "turn", .str "number"]))))) (mRaise "a" "value" (mCons (mVar 2) mNil)) mNext)
    (mSeq (mPutF "S" "paces" (mVar 0) (mLockE 3 (mDc (mKeys (mVar 3)) 4 (mT (m2 (mEq true) (mIxD (mVar 3) (mVar 4)) (mC (.int 1)))) (mVar 4) (mIxD (mVar 3) (mVar 4)))))
    (mPutF "S" "order" (mVar 0) (mVar 2)))))))
def m_Setting_slowness : MFn := mDef ["self", "part"] ((mSeq (mExpr (mCall 1 m_require_name (mCons (mVar 1) mNil)))
    (mRet (mGetD (mFld "S" "paces" (mVar 0)) (mVar 1) (mC (.int 1))))))
end PL
end
section
/-! names, numbers, steps -/
namespace PL
open PySem L2 VL LD
variable {h g : Hv} {D : DI} {p q : Nat} {o w : Str} {r : Ws}
theorem isi_str (z : Str) (h : Hv) : mIsi [.str z, .ty "str"] h = .val (.bl true) h := by
  simp [mIsi, tyN, show kitB "str" "str" = some true from by decide +kernel]
theorem isname_eq (a : Asc w) (lw : w.length ≤ 1000) (h : Hv) : m_is_name [.str w] h = .val (.bl (nameB w)) h := by
  have st : startW ["value"] [.str w] = [some (.str w)] := rfl
  have ln : mLen [.str w] h = .val (.int w.length) h := if_pos (by omega)
  have ch : (mChain mLe mLe (mC (.int 1)) (mB mLen (mCons (mVar 0) mNil)) (mC (.int 8))) [some (.str w)] h = .val (.bl (decide (1 ≤ w.length) && decide (w.length ≤ 8))) h := by
    unfold mChain
    rw [mC_eq, bind_val, mB_eq, mCons_eq, mVar0, bind_val, mNil_eq, bind_val, bind_val, ln, bind_val, mLe_int, bind_val]
    by_cases c : (1 : Int) ≤ (w.length : Int)
    · rw [decide_eq_true c, decide_eq_true (show 1 ≤ w.length by omega), Bool.true_and]
      show (mC (.int 8) _ h).bind _ = _
      rw [mC_eq, bind_val, mLe_int]
      by_cases d : w.length ≤ 8
      · rw [decide_eq_true (show (w.length : Int) ≤ 8 by omega), decide_eq_true d]
      · rw [decide_eq_false (show ¬ (w.length : Int) ≤ 8 by omega), decide_eq_false d]
    · rw [decide_eq_false c, decide_eq_false (show ¬ 1 ≤ w.length by omega), Bool.false_and]
  have m0 : ∀ g : Str → W, mM0 g (mVar 0) [some (.str w)] h = .val (g w) h := fun g => rfl
  unfold m_is_name
  rw [mDef_eq, st, mSeq_eq, mIfS_eq, mOrT_eq, mNotT_eq, mT_eq, mB_eq, mCons_eq, mVar0, bind_val, mCons_eq, mC_eq, bind_val, mNil_eq, bind_val, bind_val, bind_val, isi_str, bind_val, asB_bl, bind_val, bind_val, if_neg (by decide), mNotT_eq, mT_eq, ch, bind_val, asB_bl, bind_val, andS_val]
  by_cases c : (decide (1 ≤ w.length) && decide (w.length ≤ 8)) = true
  · rw [c, if_neg (by decide), mNext_eq, thenS_nx, mRet_eq, mAndV_eq, mT_eq, m0, bind_val]
    rw [Bool.and_eq_true, decide_eq_true_eq, decide_eq_true_eq] at c
    have al := alpha_low a c.1
    have nb : nameB w = (Txt.isalpha w && Txt.islower w) := by
      unfold nameB
      rw [decide_eq_true c.1, decide_eq_true c.2, al]
      rfl
    have e1 : mAscii w = .bl true := by unfold mAscii; rw [asc_ascii a]
    rw [e1, asB_bl, bind_val, if_pos rfl, mAndV_eq, mT_eq, m0, bind_val]
    show endS (Res.andS (Res.bind (asB (.bl (Txt.isalpha w)) h) _) _ _) = _
    rw [asB_bl, bind_val, nb]
    cases Txt.isalpha w
    · rfl
    · rw [if_pos rfl, m0]
      rfl
  · have c' : (decide (1 ≤ w.length) && decide (w.length ≤ 8)) = false := by
      cases q : (decide (1 ≤ w.length) && decide (w.length ≤ 8))
      · rfl
      · exact absurd q c
    rw [c', Bool.not_false, if_pos rfl, mRet_eq, mC_eq, andS_val, thenS_rt, endS_rt]
    unfold nameB
    rw [c', Bool.false_and]
theorem reqname_ok (a : Asc w) (lw : w.length ≤ 1000) (n : nameB w = true) (h : Hv) : m_require_name [.str w] h = .val .non h := by
  have st : startW ["value"] [.str w] = [some (.str w)] := rfl
  unfold m_require_name
  rw [mDef_eq, st, mIfS_eq, mNotT_eq, mT_eq, mCall_eq, mCons_eq, mVar0, bind_val, mNil_eq, bind_val, bind_val, if_pos (by rfl), isname_eq a lw, bind_val, asB_bl, bind_val, n, andS_val, if_neg (by decide), mNext_eq, endS_nx]
theorem reqname_no (a : Asc w) (lw : w.length ≤ 1000) (n : nameB w = false) (h : Hv) : m_require_name [.str w] h = .exc "b" (some h.length) (h ++ [.xd [("name", .str w)]]) := by
  have st : startW ["value"] [.str w] = [some (.str w)] := rfl
  unfold m_require_name
  rw [mDef_eq, st, mIfS_eq, mNotT_eq, mT_eq, mCall_eq, mCons_eq, mVar0, bind_val, mNil_eq, bind_val, bind_val, if_pos (by rfl), isname_eq a lw, bind_val, asB_bl, bind_val, n, andS_val, if_pos (by rfl)]
  unfold mRaise
  rw [mCons_eq, mVar0, bind_val, mNil_eq, bind_val, andS_val]
  rfl
/-- a number from lo to hi -/
def wholeB (v : W) (lo hi : Int) : Bool := match v with
  | .int m => decide (lo ≤ m) && decide (m ≤ hi)
  | _ => false
/-- a number, a bool or None -/
inductive Sc : W → Prop where
  | int (m : Int) : Sc (.int m)
  | bl (b : Bool) : Sc (.bl b)
  | non : Sc .non
theorem isi_int {v : W} (s : Sc v) (h : Hv) : ∃ a b, mIsi [v, .ty "int"] h = .val (.bl a) h ∧ mIsi [v, .ty "bool"] h = .val (.bl b) h ∧ (a && !b) = (match v with | .int _ => true | _ => false) := by
  cases s with
  | int m => exact ⟨true, false, isi_int_int, isi_int_bool, rfl⟩
  | bl b => exact ⟨true, true, by simp [mIsi, tyN, show kitB "bool" "int" = some true from by decide +kernel], by simp [mIsi, tyN, show kitB "bool" "bool" = some true from by decide +kernel], rfl⟩
  | non => exact ⟨false, false, by simp [mIsi, tyN, show kitB "NoneType" "int" = some false from by decide +kernel], by simp [mIsi, tyN, show kitB "NoneType" "bool" = some false from by decide +kernel], rfl⟩
theorem iswhole_eq {v : W} (s : Sc v) (h : Hv) : m_is_whole [v] h = .val (.bl (match v with | .int _ => true | _ => false)) h := by
  obtain ⟨a, b, e1, e2, e3⟩ := isi_int s h
  have st : startW ["value"] [v] = [some v] := rfl
  unfold m_is_whole
  rw [mDef_eq, st, mRet_eq, mAndV_eq, mT_eq, mB_eq, mCons_eq, mVar0, bind_val, mCons_eq, mC_eq, bind_val, mNil_eq, bind_val, bind_val, bind_val, e1, bind_val, asB_bl, bind_val, ← e3]
  cases a
  · rw [if_neg (by decide), andS_val, endS_rt]; rfl
  · rw [if_pos rfl, mNotV_eq, mT_eq, mB_eq, mCons_eq, mVar0, bind_val, mCons_eq, mC_eq, bind_val, mNil_eq, bind_val, bind_val, bind_val, e2, bind_val, asB_bl, bind_val, andS_val, endS_rt]; rfl
theorem chain_eq {m lo hi : Int} {fl fm fh : Ws → Hv → Res W} (el : fl r h = .val (.int lo) h) (em : fm r h = .val (.int m) h) (eh : fh r h = .val (.int hi) h) : mChain mLe mLe fl fm fh r h = .val (.bl (decide (lo ≤ m) && decide (m ≤ hi))) h := by
  unfold mChain
  rw [el, bind_val, em, bind_val, mLe_int, bind_val]
  by_cases c : lo ≤ m
  · rw [decide_eq_true c]
    show (fh r h).bind _ = _
    rw [eh, bind_val, mLe_int, Bool.true_and]
  · rw [decide_eq_false c, Bool.false_and]
theorem iscap_eq {v : W} (s : Sc v) (h : Hv) : m_is_capacity [v] h = .val (.bl (wholeB v 1 9)) h := by
  have st : startW ["value"] [v] = [some v] := rfl
  unfold m_is_capacity
  rw [mDef_eq, st, mRet_eq, mAndV_eq, mT_eq, mCall_eq, mCons_eq, mVar0, bind_val, mNil_eq, bind_val, bind_val, if_pos (by rfl), iswhole_eq s, bind_val, asB_bl, bind_val]
  cases s with
  | int m => rw [if_pos rfl, chain_eq (m := m) (lo := 1) (hi := 9) rfl rfl rfl]; rfl
  | bl b => rfl
  | non => rfl
theorem ispace_eq {v : W} (s : Sc v) (h : Hv) : m_is_pace [v] h = .val (.bl (wholeB v 0 1000000)) h := by
  have st : startW ["value"] [v] = [some v] := rfl
  unfold m_is_pace
  rw [mDef_eq, st, mRet_eq, mAndV_eq, mT_eq, mCall_eq, mCons_eq, mVar0, bind_val, mNil_eq, bind_val, bind_val, if_pos (by rfl), iswhole_eq s, bind_val, asB_bl, bind_val]
  cases s with
  | int m => rw [if_pos rfl, chain_eq (m := m) (lo := 0) (hi := 1000000) rfl rfl rfl]; rfl
  | bl b => rfl
  | non => rfl
/-- a dict walked while it is locked: turns that change no heap -/
theorem for_items {D : List (Key × W)} {i j : Nat} {B : MS} (I : Ws → Prop) (step : ∀ (z : Key × W) (r : Ws) (h : Hv), z ∈ D → I r → ∃ r', B ((r.set i (some (kW z.1))).set j (some z.2)) h = .nx r' h ∧ I r') :
    ∀ (n k : Nat) (r : Ws) (h : Hv), k + n = D.length → h[p]? = some (.rod D) → I r → ∃ r', VL.forM (nxItems p) (mGs 2 (mGcons (mGn i) (mGcons (mGn j) mGnil))) B (n + 1) k r h = .nx r' h ∧ I r'
  | 0, k, r, h, e, er, ir => by
    have z : D[k]? = none := List.getElem?_eq_none_iff.mpr (by omega)
    refine ⟨r, ?_, ir⟩
    unfold VL.forM
    simp only [nxItems, er, z]
  | n + 1, k, r, h, e, er, ir => by
    have lt : k < D.length := by omega
    have z : D[k]? = some D[k] := List.getElem?_eq_getElem lt
    obtain ⟨r1, e1, i1⟩ := step D[k] r h (List.getElem_mem lt) ir
    obtain ⟨r2, e2, i2⟩ := for_items I step n (k + 1) r1 h (by omega) er i1
    refine ⟨r2, ?_, i2⟩
    have gt : mGs 2 (mGcons (mGn i) (mGcons (mGn j) mGnil)) (itemW D[k]) r h = .nx ((r.set i (some (kW D[k].1))).set j (some D[k].2)) h := by
      simp [mGs, mGcons, mGnil, itemW]
    unfold VL.forM
    simp only [nxItems, er, z, gt, e1]
    exact e2
end PL
end
section
/-! programs and settings made -/
namespace PL
open PySem L2 VL LD
variable {h g : Hv} {D : DI} {p q : Nat} {o w : Str} {r : Ws}
theorem isd_of {kvs : List (Key × W)} (e : h[p]? = some (.dic kvs)) : mIsi [.ref p, .ty "dict"] h = .val (.bl true) h := by
  have t : tyN h (.ref p) = some "dict" := by simp [tyN, e]
  simp [mIsi, t, show kitB "dict" "dict" = some true from by decide +kernel]
abbrev rcBody : MS := (mIfS (mOrT (mNotT (mT (mCall 1 m_is_name (mCons (mVar 1) mNil)))) (mNotT (mT (mCall 1 m_is_capacity (mCons (mVar 2) mNil))))) (mRaise "c" "place" (mCons (mC (.str ("capacities" : Str))) mNil)) mNext)
abbrev rcE (p : Nat) (a b : Option W) : Ws := [some (.ref p), a, b]
theorem rc_turn {v : W} {a b : Option W} (aw : Asc w) (lw : w.length ≤ 1000) (s : Sc v) (h : Hv) : rcBody (rcE p (some (.str w)) (some v)) h = if (nameB w && wholeB v 1 9) = true then .nx (rcE p (some (.str w)) (some v)) h else .exc "c" (some h.length) (rcE p (some (.str w)) (some v)) (h ++ [.xd [("place", .str "capacities")]]) := by
  let E : Ws := rcE p (some (.str w)) (some v)
  have v1 : mVar 1 E h = .val (.str w) h := rfl
  have v2 : mVar 2 E h = .val v h := rfl
  have rs : (mRaise "c" "place" (mCons (mC (.str ("capacities" : Str))) mNil)) E h = .exc "c" (some h.length) E (h ++ [.xd [("place", .str "capacities")]]) := rfl
  unfold rcBody
  rw [mIfS_eq, mOrT_eq, mNotT_eq, mT_eq, mCall_eq, mCons_eq, v1, bind_val, mNil_eq, bind_val, bind_val, if_pos (by rfl), isname_eq aw lw, bind_val, asB_bl, bind_val, bind_val]
  cases n : nameB w
  · rw [Bool.not_false, if_pos rfl, andS_val, if_pos rfl, Bool.false_and, if_neg (by decide)]
    exact rs
  · rw [Bool.not_true, if_neg (by decide), mNotT_eq, mT_eq, mCall_eq, mCons_eq, v2, bind_val, mNil_eq, bind_val, bind_val, if_pos (by rfl), iscap_eq s, bind_val, asB_bl, bind_val, andS_val, Bool.true_and]
    cases wholeB v 1 9
    · rw [Bool.not_false, if_pos rfl, if_neg (by decide)]
      exact rs
    · rw [Bool.not_true, if_neg (by decide), if_pos rfl]
      rfl
/-- names with numbers from lo to hi -/
structure Okd (lo hi : Int) (D : DI) : Prop where
  nd : Nd D
  nm : ∀ q ∈ D, Asc q.1 ∧ nameB q.1 = true ∧ lo ≤ q.2 ∧ q.2 ≤ hi
  ln : D.length ≤ 1000
theorem nameB_len (n : nameB w = true) : w.length ≤ 8 := by
  unfold nameB at n
  simp only [Bool.and_eq_true, decide_eq_true_eq] at n
  exact n.1.2
theorem Okd.filter {lo hi : Int} (k : Okd lo hi D) (f : Str × Int → Bool) : Okd lo hi (D.filter f) := ⟨nd_filter k.nd f, fun q hq => k.nm q (List.mem_filter.mp hq).1, Nat.le_trans (List.length_filter_le ..) k.ln⟩
/-- capacities as they may be -/
theorem rc_ok (e : h[p]? = some (.dic (dW D))) (k : Okd 1 9 D) : m_require_capacities [.ref p] h = .val .non h := by
  have st : startW ["capacities", "queue", "capacity"] [.ref p] = rcE p none none := rfl
  have lt : p < h.length := lt_of_get e
  have er : (h.set p (.rod (dW D)))[p]? = some (.rod (dW D)) := List.getElem?_set_self lt
  obtain ⟨r', fe, a, b, rfl⟩ := for_items (p := p) (D := dW D) (i := 1) (j := 2) (B := rcBody) (fun r => ∃ a b, r = rcE p a b) (fun z r h hz ⟨a, b, hr⟩ => by
    subst hr
    obtain ⟨u, hu, rfl⟩ := List.mem_map.mp hz
    obtain ⟨a1, a2, a3, a4⟩ := k.nm u hu
    have wb : wholeB (.int u.2) 1 9 = true := by
      unfold wholeB
      simp [a3, a4]
    refine ⟨rcE p (some (.str u.1)) (some (.int u.2)), ?_, some (.str u.1), some (.int u.2), rfl⟩
    have := rc_turn (p := p) (a := none) (b := none) a1 (by have := nameB_len a2; omega) (Sc.int u.2) h
    rw [a2, wb] at this
    exact this) (dW D).length 0 (rcE p none none) (h.set p (.rod (dW D))) (by omega) er ⟨_, _, rfl⟩
  have src : mItems (mVar 0) (rcE p none none) (h.set p (.rod (dW D))) = .val ⟨(dW D).length + 1, nxItems p⟩ (h.set p (.rod (dW D))) := by
    show (Res.val (W.ref p) (h.set p (.rod (dW D)))).bind srcItems = _
    rw [bind_val]
    simp only [srcItems, er]
  have lk : mLockS 0 (mFor (mItems (mVar 0)) (mGs 2 (mGcons (mGn 1) (mGcons (mGn 2) mGnil))) rcBody) (rcE p none none) h = .nx (rcE p a b) h := by
    unfold mLockS
    simp only [slotP_of (i := 0) (r := rcE p none none) (p := p) rfl, e]
    unfold mFor
    rw [src, andS_val, fe]
    show ResS.nx _ ((h.set p _).set p _) = _
    rw [set_set_eq, set_get_eq e]
  unfold m_require_capacities
  rw [mDef_eq, st, mSeq_eq, mIfS_eq, mNotT_eq, mT_eq, mB_eq, mCons_eq, show mVar 0 (rcE p none none) h = .val (.ref p) h from rfl, bind_val, mCons_eq, mC_eq, bind_val, mNil_eq, bind_val, bind_val, bind_val, isd_of e, bind_val, asB_bl, bind_val, andS_val, if_neg (by decide), mNext_eq, thenS_nx, lk, endS_nx]
/-- one queue that has no name, or no such capacity -/
theorem rc_no {v : W} (e : h[p]? = some (.dic [(.inr w, v)])) (aw : Asc w) (lw : w.length ≤ 1000) (s : Sc v) (n : (nameB w && wholeB v 1 9) = false) : m_require_capacities [.ref p] h = .exc "c" (some h.length) (h.set p (.rox [(.inr w, v)]) ++ [.xd [("place", .str "capacities")]]) := by
  have st : startW ["capacities", "queue", "capacity"] [.ref p] = rcE p none none := rfl
  have lt : p < h.length := lt_of_get e
  let h1 := h.set p (.rod [(.inr w, v)])
  have er : h1[p]? = some (.rod [(.inr w, v)]) := List.getElem?_set_self lt
  have l1 : h1.length = h.length := List.length_set ..
  have src : mItems (mVar 0) (rcE p none none) h1 = .val ⟨2, nxItems p⟩ h1 := by
    show (Res.val (W.ref p) h1).bind srcItems = _
    rw [bind_val]
    simp only [srcItems, er]
    rfl
  have tn := rc_turn (p := p) (a := none) (b := none) aw lw s h1
  rw [if_neg (by rw [n]; decide), l1] at tn
  have fe : VL.forM (nxItems p) (mGs 2 (mGcons (mGn 1) (mGcons (mGn 2) mGnil))) rcBody 2 0 (rcE p none none) h1 = .exc "c" (some h.length) (rcE p (some (.str w)) (some v)) (h1 ++ [.xd [("place", .str "capacities")]]) := by
    have gt : mGs 2 (mGcons (mGn 1) (mGcons (mGn 2) mGnil)) (itemW (.inr w, v)) (rcE p none none) h1 = .nx (rcE p (some (.str w)) (some v)) h1 := rfl
    unfold VL.forM
    simp only [nxItems, er, List.getElem?_cons_zero, gt, tn]
  have lk : mLockS 0 (mFor (mItems (mVar 0)) (mGs 2 (mGcons (mGn 1) (mGcons (mGn 2) mGnil))) rcBody) (rcE p none none) h = .exc "c" (some h.length) (rcE p (some (.str w)) (some v)) (h.set p (.rox [(.inr w, v)]) ++ [.xd [("place", .str "capacities")]]) := by
    unfold mLockS
    simp only [slotP_of (i := 0) (r := rcE p none none) (p := p) rfl, e]
    unfold mFor
    rw [src, andS_val, fe]
    show ResS.exc _ _ _ ((h.set p _ ++ _).set p _) = _
    rw [List.set_append_left p _ (by rw [List.length_set]; exact lt), set_set_eq]
  unfold m_require_capacities
  rw [mDef_eq, st, mSeq_eq, mIfS_eq, mNotT_eq, mT_eq, mB_eq, mCons_eq, show mVar 0 (rcE p none none) h = .val (.ref p) h from rfl, bind_val, mCons_eq, mC_eq, bind_val, mNil_eq, bind_val, bind_val, bind_val, isd_of e, bind_val, asB_bl, bind_val, andS_val, if_neg (by decide), mNext_eq, thenS_nx, lk, endS_exc]
/-- what differs from 1 is kept -/
def flt (D : DI) : DI := D.filter fun q => decide (q.2 ≠ 1)
theorem keep_ok {lo hi : Int} {E : Ws} {i j : Nat} (ei : E[i]? = some (some (.ref p))) (hij : i ≠ j) (hj : j < E.length) (e : h[p]? = some (.dic (dW D))) (k : Okd lo hi D) :
    mLockE i (mDc (mKeys (mVar i)) j (mT (m2 (mEq true) (mIxD (mVar i) (mVar j)) (mC (.int 1)))) (mVar j) (mIxD (mVar i) (mVar j))) E h = .val (.ref h.length) (h ++ [.dic (dW (flt D))]) := by
  have lt : p < h.length := lt_of_get e
  have er : (h.set p (.rod (dW D)))[p]? = some (.rod (dW D)) := List.getElem?_set_self lt
  have vi : ∀ (x : W) (h' : Hv), mVar i (E.set j (some x)) h' = .val (.ref p) h' := fun x h' => by
    unfold mVar
    rw [List.getElem?_set_ne (Ne.symm hij), ei]
  have vj : ∀ (x : W) (h' : Hv), mVar j (E.set j (some x)) h' = .val x h' := fun x h' => by
    unfold mVar
    rw [List.getElem?_set_self hj]
  have v0 : ∀ h', mVar i E h' = .val (.ref p) h' := fun h' => by
    unfold mVar
    rw [ei]
  have fe : (dW D).filter (fun z => decide (z.2 ≠ .int 1)) = dW (flt D) := by
    unfold dW flt
    rw [List.filter_map]
    congr 1
    refine List.filter_congr fun x hx => ?_
    simp
  have ixd : ∀ (z : Key × W) (h' : Hv), z ∈ dW D → h'[p]? = some (.rod (dW D)) → mIxD (mVar i) (mVar j) (E.set j (some (kW z.1))) h' = .val z.2 h' := fun z h' hz ez => by
    obtain ⟨u, hu, rfl⟩ := List.mem_map.mp hz
    have dd : dicO h'[p]? = some (dW D) := by rw [ez]; rfl
    have gg := getDO_in dd (gt_of_mem k.nd (s := u.1) (i := u.2) hu)
    unfold mIxD
    rw [vi, bind_val, vj, bind_val]
    exact gg
  have dc := dc_keys (D := dW D) (p := p) (i := j) (t := mT (m2 (mEq true) (mIxD (mVar i) (mVar j)) (mC (.int 1)))) (fo := mVar i) (fk := mVar j) (fv := mIxD (mVar i) (mVar j)) (r := E) (h := h.set p (.rod (dW D))) (fun z => decide (z.2 ≠ .int 1)) (fun z h' hz ez => by
    have := ixd z h' hz ez
    obtain ⟨u, hu, rfl⟩ := List.mem_map.mp hz
    rw [mT_eq, m2_eq, this, bind_val, mC_eq, bind_val, ne_int, bind_val, asB_bl]
    simp) (fun z h' => vj _ h') ixd (v0 _) er (by rw [dW_len]; have := k.ln; omega) (nd_dW k.nd)
  rw [List.length_set, fe] at dc
  exact lockE_of ei e dc
end PL
end
section
/-! steps -/
namespace VL
open PySem L2
theorem compT_zip {xs ys : List W} {q i j : Nat} {f : Ws → Hv → Res W} {r : Ws} (hl : xs.length = ys.length) (g : W → W → W) (hf : ∀ (x y : W) (h : Hv), (x, y) ∈ xs.zip ys → f ((r.set i (some x)).set j (some y)) h = .val (g x y) h) :
    ∀ (n k : Nat) (h : Hv) (acc : List W), k + n = xs.length → h[q]? = some (.lst acc) → acc.length + n < 100000 →
      compT (nxZipT xs ys) i j mYes f q (n + 1) k r h = .val (.ref q) (h.set q (.lst (acc ++ ((xs.zip ys).drop k).map fun z => g z.1 z.2)))
  | 0, k, h, acc, hk, e2, la => by
    have d : (xs.zip ys).drop k = [] := List.drop_eq_nil_of_le (by simp; omega)
    have z : xs[k]? = none := List.getElem?_eq_none_iff.mpr (by omega)
    unfold compT
    simp only [nxZipT, zipN, z, d, List.map_nil, List.append_nil]
    rw [set_get_eq e2]
  | n + 1, k, h, acc, hk, e2, la => by
    have lt : k < xs.length := by omega
    have lt2 : k < ys.length := by omega
    have z : xs[k]? = some xs[k] := List.getElem?_eq_getElem lt
    have z2 : ys[k]? = some ys[k] := List.getElem?_eq_getElem lt2
    have lz : k < (xs.zip ys).length := by simp; omega
    have ez : (xs.zip ys)[k] = (xs[k], ys[k]) := by simp
    have m : (xs[k], ys[k]) ∈ xs.zip ys := by rw [← ez]; exact List.getElem_mem lz
    have ef := hf xs[k] ys[k] h m
    have lq : q < h.length := (List.getElem?_eq_some_iff.mp e2).1
    have ih := compT_zip (q := q) hl g hf n (k + 1) (h.set q (.lst (acc ++ [g xs[k] ys[k]]))) (acc ++ [g xs[k] ys[k]]) (by omega) (List.getElem?_set_self lq) (by simp; omega)
    have dk : (xs.zip ys).drop k = (xs[k], ys[k]) :: (xs.zip ys).drop (k + 1) := by rw [← ez]; exact (List.getElem_cons_drop lz).symm
    unfold compT
    have st : setT i j (.tup [xs[k], ys[k]]) r = some ((r.set i (some xs[k])).set j (some ys[k])) := rfl
    have ye : mYes ((r.set i (some xs[k])).set j (some ys[k])) h = .val true h := rfl
    simp only [nxZipT, zipN, z, z2, st, ye, noX, bind_val, if_true, ef, e2, show acc.length < 100000 by omega]
    rw [ih, set_set_eq, dk, List.map_cons, List.append_assoc]
    rfl
theorem lcT_zip {xs ys : List W} {i j : Nat} {f : Ws → Hv → Res W} {src : Ws → Hv → Res Src} {r : Ws} {h : Hv} (hl : xs.length = ys.length) (g : W → W → W) (hf : ∀ (x y : W) (h : Hv), (x, y) ∈ xs.zip ys → f ((r.set i (some x)).set j (some y)) h = .val (g x y) h) (es : src r h = .val ⟨xs.length + 1, nxZipT xs ys⟩ h) (la : xs.length < 90000) :
    mLcT src i j mYes f r h = .val (.ref h.length) (h ++ [.lst ((xs.zip ys).map fun z => g z.1 z.2)]) := by
  unfold mLcT
  rw [es, bind_val]
  have := compT_zip (q := h.length) hl g hf xs.length 0 (h ++ [.lst []]) [] (by omega) get_last (by simp; omega)
  rw [this]
  simp
end VL
namespace PL
open PySem L2 VL LD
variable {h g : Hv} {D : DI} {p q : Nat} {o w : Str} {r : Ws}
theorem all_bools {bs : List Bool} (e : h[p]? = some (.lst (bs.map W.bl))) : mAllL [.ref p] h = .val (.bl (bs.all id)) h := by
  have z : ∀ bs : List Bool, boolsW (bs.map W.bl) = some bs := fun bs => by
    induction bs with
    | nil => rfl
    | cons b r ih => simp only [List.map_cons, boolsW, ih]; rfl
  unfold mAllL
  simp only [e, z]
theorem eq_str_lit {a b : Str} (ha : PyData.strOk a = true) (hb : PyData.strOk b = true) (neg : Bool) (h : Hv) : mEq neg (.str a) (.str b) h = .val (.bl (if neg then !decide (a = b) else decide (a = b))) h := by
  have t1 : toD dF h (.str a) = some (.str a) := rfl
  have t2 : toD dF h (.str b) = some (.str b) := rfl
  have e : (PyData.str a).eqv (.str b) = decide (a = b) := by
    rw [Bool.eq_iff_iff]
    simp [PyData.eqv]
  simp only [mEq, t1, t2, shaped_str ha, shaped_str hb, Bool.and_self, if_true, e]
/-- what is_item says of an item -/
theorem isitem_name (a : Asc w) (lw : w.length ≤ 1000) (t : Int) (h : Hv) : m_is_item [.str w, .str "name", .int t] h = .val (.bl (nameB w)) h := by
  have st : startW ["item", "kind", "tasks", "low", "high"] [.str w, .str "name", .int t] = [some (.str w), some (.str "name"), some (.int t), none, none] := rfl
  have e : mEq false (.str "name") (.str "name") h = .val (.bl true) h := eq_same_str (strOk_of _)
  unfold m_is_item
  rw [mDef_eq, st, mSeq_eq, mIfS_eq, mT_eq, m2_eq, mVarS, mVar0, bind_val, mC_eq, bind_val, e, bind_val, asB_bl, andS_val, if_pos rfl, mRet_eq, mCall_eq, mCons_eq, mVar0, bind_val, mNil_eq, bind_val, bind_val, if_pos (by rfl), isname_eq a lw, andS_val, thenS_rt, endS_rt]
/-- kinds that are numbers -/
def limits (k : Str) (t : Int) : Int × Int := if k = "amount" then (0, 1000000000000000000000000000000) else if k = "value" then (0, 9) else if k = "count" then (1, 20) else (0, t - 1)
theorem isitem_num {v : W} (s : Sc v) {k : Str} (hk : k = "amount" ∨ k = "value" ∨ k = "count" ∨ k = "task") (t : Int) (h : Hv) : m_is_item [v, .str k, .int t] h = .val (.bl (wholeB v (limits k t).1 (limits k t).2)) h := by
  have st : startW ["item", "kind", "tasks", "low", "high"] [v, .str k, .int t] = [some v, some (.str k), some (.int t), none, none] := rfl
  have e : mEq false (.str k) (.str "name") h = .val (.bl false) h := by
    rcases hk with rfl | rfl | rfl | rfl <;> kernel_rfl
  let E : Ws := [some v, some (.str k), some (.int t), some (.int (limits k t).1), some (.int (limits k t).2)]
  have kg : mKGet2 tab_LIMITS (mVar 1) (mTup (mCons (mC (.int 0)) (mCons (m2 mSub (mVar 2) (mC (.int 1))) mNil))) [some v, some (.str k), some (.int t), none, none] h = .val (.tup [.int (limits k t).1, .int (limits k t).2]) h := by
    rcases hk with rfl | rfl | rfl | rfl <;> kernel_rfl
  have as : mAsg (mKGet2 tab_LIMITS (mVar 1) (mTup (mCons (mC (.int 0)) (mCons (m2 mSub (mVar 2) (mC (.int 1))) mNil)))) (mGs 2 (mGcons (mGn 3) (mGcons (mGn 4) mGnil))) [some v, some (.str k), some (.int t), none, none] h = .nx E h := by
    unfold mAsg
    rw [kg, andS_val]
    rfl
  unfold m_is_item
  rw [mDef_eq, st, mSeq_eq, mIfS_eq, mT_eq, m2_eq, mVarS, mVar0, bind_val, mC_eq, bind_val, e, bind_val, asB_bl, andS_val, if_neg (by decide), mNext_eq, thenS_nx, mSeq_eq, as, thenS_nx, mRet_eq, mAndV_eq, mT_eq, mCall_eq, mCons_eq, show mVar 0 E h = .val v h from rfl, bind_val, mNil_eq, bind_val, bind_val, if_pos (by rfl), iswhole_eq s, bind_val, asB_bl, bind_val]
  cases s with
  | int m => rw [if_pos rfl, chain_eq (m := m) (lo := (limits k t).1) (hi := (limits k t).2) rfl rfl rfl]; rfl
  | bl b => rfl
  | non => rfl
end PL
end
section
/-! is_step, require_tasks -/
namespace PL
open PySem L2 VL LD
variable {h g : Hv} {D : DI} {p q : Nat} {o w : Str} {r : Ws}
/-- an item of the kind that is asked -/
inductive Itm : W → Str → Prop where
  | name {w : Str} (a : Asc w) (l : w.length ≤ 1000) : Itm (.str w) "name"
  | num {v : W} {k : Str} (s : Sc v) (hk : k = "amount" ∨ k = "value" ∨ k = "count" ∨ k = "task") : Itm v k
def itemB (x : W) (k : Str) (t : Int) : Bool := match x with
  | .str w => decide (k = "name") && nameB w
  | v => wholeB v (limits k t).1 (limits k t).2
theorem isitem_eq {x : W} {k : Str} (i : Itm x k) (t : Int) (h : Hv) : m_is_item [x, .str k, .int t] h = .val (.bl (itemB x k t)) h := by
  cases i with
  | name a l =>
    rw [isitem_name a l]
    show _ = Res.val (W.bl (decide (("name" : Str) = "name") && nameB _)) h
    rw [decide_eq_true rfl, Bool.true_and]
  | num s hk =>
    rw [isitem_num s hk]
    cases s <;> rfl
def kindW (k : Str) : W := .str k
theorem formof_eq {k : Str} {ws : List W} (hk : tab_FORMS.lookup k = some ws) (h : Hv) : m_form_of [.str k] h = .val (.tup ws) h := by
  have st : startW ["word"] [.str k] = [some (.str k)] := rfl
  unfold m_form_of
  rw [mDef_eq, st, mRet_eq, mIf_eq, mT_eq, mB_eq, mCons_eq, mVar0, bind_val, mCons_eq, mC_eq, bind_val, mNil_eq, bind_val, bind_val, bind_val, isi_str, bind_val, asB_bl, bind_val, if_pos rfl]
  show endS (Res.andS (kgetO tab_FORMS (.str k) .non h) _ _) = _
  unfold kgetO
  simp only [hk, andS_val, endS_rt]
/-- the bools of a step's items -/
def stepBs (items : List W) (kinds : List Str) (t : Int) : List Bool := (items.zip kinds).map fun z => itemB z.1 z.2 t
theorem isstep_eq {k : Str} {items : List W} {kinds : List Str} (t : Int) (hk : tab_FORMS.lookup k = some (kinds.map kindW)) (hl : items.length = kinds.length) (hi : ∀ z ∈ items.zip kinds, Itm z.1 z.2) (hs : items.length ≤ 10) (h : Hv) :
    m_is_step [.tup (.str k :: items), .int t] h = .val (.bl ((stepBs items kinds t).all id)) (h ++ [.lst ((stepBs items kinds t).map W.bl)]) := by
  let V : W := .tup (.str k :: items)
  have st : startW ["value", "tasks", "form", "item", "kind"] [V, .int t] = [some V, some (.int t), none, none, none] := rfl
  let E : Ws := [some V, some (.int t), some (.tup (kinds.map kindW)), none, none]
  have v0 : ∀ g, mVar 0 E g = .val V g := fun _ => rfl
  have v2 : ∀ g, mVar 2 E g = .val (.tup (kinds.map kindW)) g := fun _ => rfl
  have lv : mLen [V] h = .val (.int ((items.length : Int) + 1)) h := by
    show mLen [.tup (.str k :: items)] h = _
    rw [len_tup, List.length_cons]
    rfl
  have lf : mLen [.tup (kinds.map kindW)] h = .val (.int (items.length : Int)) h := by rw [len_tup, List.length_map, hl]
  have ix : mIx V (.int 0) h = .val (.str k) h := by
    show mIx (.tup (.str k :: items)) (.int 0) h = _
    rw [VL.ix_tup, atI0, ofO_some]
  have it : mIsi [V, .ty "tuple"] h = .val (.bl true) h := isi_tup
  have ne0 : (decide ((items.length : Int) + 1 = 0)) = false := decide_eq_false (by omega)
  have isn : mIs false (.tup (kinds.map kindW)) .non h = .val (.bl false) h := rfl
  have ad : mAdd (.int (items.length : Int)) (.int 1) h = .val (.int ((items.length : Int) + 1)) h := rfl
  have sl : mSlA (mVar 0) (mPart (some (mC (.int 1)))) (mPart none) E h = .val (.tup items) h := by
    have cut : mCutA V (some 1) none h = .val (.tup items) h := by
      show mCutA (.tup (.str k :: items)) (some 1) none h = _
      unfold mCutA
      have c : ¬ (HT.sIx (W.str k :: items).length 0 (some 1) = 0 ∧ HT.sIx (W.str k :: items).length (W.str k :: items).length none = (W.str k :: items).length) := fun z => by
        have z1 := z.1
        simp [HT.sIx] at z1
      show (if _ then Res.bad else _) = _
      rw [if_neg c]
      have cd := cut_drop (W.str k :: items) 1 (by simp)
      have cd : cutW (W.str k :: items) (some 1) none = items := cd
      rw [cd]
    exact cut
  have src : mZipT (mCons (mSlA (mVar 0) (mPart (some (mC (.int 1)))) (mPart none)) (mCons (mVar 2) mNil)) E h = .val ⟨items.length + 1, nxZipT items (kinds.map kindW)⟩ h := by
    unfold mZipT
    rw [mCons_eq, sl, bind_val, mCons_eq, v2, bind_val, mNil_eq, bind_val, bind_val, bind_val]
    rfl
  have lc := lcT_zip (i := 3) (j := 4) (f := mCall 3 m_is_item (mCons (mVar 3) (mCons (mVar 4) (mCons (mVar 1) mNil)))) (by rw [List.length_map]; exact hl) (fun x y => match y with | .str kd => .bl (itemB x kd t) | _ => .non) (fun x y g hm => by
    rw [show kinds.map kindW = kinds.map fun k => kindW k from rfl, List.zip_map_right] at hm
    obtain ⟨z, hz, ez⟩ := List.mem_map.mp hm
    obtain ⟨ex, ey⟩ := Prod.mk.inj ez
    have ex : z.1 = x := ex
    have ey : kindW z.2 = y := ey
    subst ex ey
    have im := hi z hz
    show (mCall 3 m_is_item _) _ g = _
    rw [mCall_eq, mCons_eq, show mVar 3 ((E.set 3 (some z.1)).set 4 (some (kindW z.2))) g = .val z.1 g from rfl, bind_val, mCons_eq, show mVar 4 ((E.set 3 (some z.1)).set 4 (some (kindW z.2))) g = .val (.str z.2) g from rfl, bind_val, mCons_eq, show mVar 1 ((E.set 3 (some z.1)).set 4 (some (kindW z.2))) g = .val (.int t) g from rfl, bind_val, mNil_eq, bind_val, bind_val, bind_val, bind_val, if_pos (by rfl), isitem_eq im]
    rfl) src (by omega)
  have bs : (items.zip (kinds.map kindW)).map (fun z => (match z.2 with | .str kd => W.bl (itemB z.1 kd t) | _ => .non)) = (stepBs items kinds t).map W.bl := by
    unfold stepBs
    rw [show kinds.map kindW = kinds.map fun k => kindW k from rfl, List.zip_map_right, List.map_map, List.map_map]
    rfl
  rw [bs] at lc
  unfold m_is_step
  rw [mDef_eq, st, mSeq_eq, mIfS_eq, mOrT_eq, mNotT_eq, mT_eq, mB_eq, mCons_eq, mVar0, bind_val, mCons_eq, mC_eq, bind_val, mNil_eq, bind_val, bind_val, bind_val, it, bind_val, asB_bl, bind_val, bind_val, if_neg (by decide), mT_eq, m2_eq, mB_eq, mCons_eq, mVar0, bind_val, mNil_eq, bind_val, bind_val, lv, bind_val, mC_eq, bind_val, eq_int, bind_val, asB_bl, andS_val, ne0, if_neg (by decide), mNext_eq, thenS_nx,
    mSeq_eq, mSet_eq, mCall_eq, mCons_eq, m2_eq, mVar0, bind_val, mC_eq, bind_val, ix, bind_val, mNil_eq, bind_val, bind_val, if_pos (by rfl), formof_eq hk, andS_val, thenS_nx]
  show endS ((mSeq _ _) E h) = _
  rw [mSeq_eq, mIfS_eq, mOrT_eq, mT_eq, m2_eq, v2, bind_val, mC_eq, bind_val, isn, bind_val, asB_bl, bind_val, if_neg (by decide), mT_eq, m2_eq, mB_eq, mCons_eq, v0, bind_val, mNil_eq, bind_val, bind_val, lv, bind_val, m2_eq, mB_eq, mCons_eq, v2, bind_val, mNil_eq, bind_val, bind_val, lf, bind_val, mC_eq, bind_val, ad, bind_val, ne_int, decide_eq_true rfl, bind_val, asB_bl, andS_val, Bool.not_true, if_neg (by decide), mNext_eq, thenS_nx,
    mRet_eq, mB_eq, mCons_eq]
  show endS (Res.andS (Res.bind (Res.bind (mLcT _ _ _ _ _ E h) _) _) _ _) = _
  rw [lc, bind_val, mNil_eq, bind_val, bind_val, all_bools (bs := stepBs items kinds t) get_last, andS_val, endS_rt]
end PL
end
section
namespace VL
open PySem L2
theorem for_enT {xs : List W} {i j : Nat} {B : MS} (I : Ws → Hv → Prop) (step : ∀ (k : Nat) (x : W), xs[k]? = some x → ∀ r h, I r h → ∃ r' h', B ((r.set i (some (.int (k : Nat)))).set j (some x)) h = .nx r' h' ∧ I r' h') :
    ∀ (n k : Nat) (r : Ws) (h : Hv), k + n = xs.length → I r h → ∃ r' h', VL.forM (nxEnT xs) (mGs 2 (mGcons (mGn i) (mGcons (mGn j) mGnil))) B (n + 1) k r h = .nx r' h' ∧ I r' h'
  | 0, k, r, h, e, ir => by
    have z : xs[k]? = none := List.getElem?_eq_none_iff.mpr (by omega)
    refine ⟨r, h, ?_, ir⟩
    unfold VL.forM
    simp only [nxEnT, z]
  | n + 1, k, r, h, e, ir => by
    have lt : k < xs.length := by omega
    have z : xs[k]? = some xs[k] := List.getElem?_eq_getElem lt
    obtain ⟨r1, h1, e1, i1⟩ := step k xs[k] z r h ir
    obtain ⟨r2, h2, e2, i2⟩ := for_enT I step n (k + 1) r1 h1 (by omega) i1
    refine ⟨r2, h2, ?_, i2⟩
    have gt : mGs 2 (mGcons (mGn i) (mGcons (mGn j) mGnil)) (.tup [.int (k : Nat), xs[k]]) r h = .nx ((r.set i (some (.int (k : Nat)))).set j (some xs[k])) h := by
      simp [mGs, mGcons, mGnil]
    unfold VL.forM
    simp only [nxEnT, z, gt, e1]
    exact e2
end VL
namespace PL
open PySem L2 VL LD
variable {h g : Hv} {D : DI} {p q : Nat} {o w : Str} {r : Ws}
/-- a step of a program of t tasks -/
def StOk (t : Int) (x : W) : Prop := ∃ k items kinds, x = .tup (.str k :: items) ∧ tab_FORMS.lookup k = some (kinds.map kindW) ∧ items.length = kinds.length ∧ (∀ z ∈ items.zip kinds, Itm z.1 z.2) ∧ items.length ≤ 10 ∧ (stepBs items kinds t).all id = true
theorem StOk.is {t : Int} {x : W} (s : StOk t x) (h : Hv) : ∃ L, m_is_step [x, .int t] h = .val (.bl true) (h ++ [.lst L]) := by
  obtain ⟨k, items, kinds, rfl, a, b, c, d, e⟩ := s
  have z := isstep_eq t a b c d h
  rw [e] at z
  exact ⟨_, z⟩
def tskW (T : List (List W)) : W := .tup (T.map W.tup)
structure TsOk (T : List (List W)) : Prop where
  n1 : 1 ≤ T.length
  n6 : T.length ≤ 6
  l : ∀ s ∈ T, s.length ≤ 20
  ok : ∀ s ∈ T, ∀ x ∈ s, StOk (T.length : Int) x
abbrev rtE (T : List (List W)) (a b c d : Option W) : Ws := [some (tskW T), a, b, c, d]
abbrev rtB1 : MS := (mIfS (mOrT (mNotT (mT (mB mIsi (mCons (mVar 2) (mCons (mC (.ty "tuple")) mNil))))) (mT (m2 mGt (mB mLen (mCons (mVar 2) mNil)) (mC (.int 20))))) (mRaise "c" "place" (mCons (mTup (mCons (mVar 1) (mCons (mC .non) mNil))) mNil)) mNext)
abbrev rtB2 : MS := (mIfS (mNotT (mT (mCall 2 m_is_step (mCons (mVar 4) (mCons (mB mLen (mCons (mVar 0) mNil)) mNil))))) (mRaise "c" "place" (mCons (mTup (mCons (mVar 1) (mCons (mVar 3) mNil))) mNil)) mNext)
theorem rt_head {T : List (List W)} (n1 : 1 ≤ T.length) (n6 : T.length ≤ 6) (l : ∀ s ∈ T, s.length ≤ 20) (h : Hv) : ∃ a b, m_require_tasks [tskW T] h = endS ((mFor (mEnT (mCons (mVar 0) mNil)) (mGs 2 (mGcons (mGn 1) (mGcons (mGn 2) mGnil))) (mFor (mEnT (mCons (mVar 2) mNil)) (mGs 2 (mGcons (mGn 3) (mGcons (mGn 4) mGnil))) rtB2)) (rtE T a b none none) h) := by
  have st : startW ["tasks", "number", "task", "index", "step"] [tskW T] = rtE T none none none none := rfl
  let E0 : Ws := rtE T none none none none
  have it : mIsi [tskW T, .ty "tuple"] h = .val (.bl true) h := isi_tup
  have lt : (mB mLen (mCons (mVar 0) mNil)) E0 h = .val (.int (T.length : Int)) h := by
    rw [mB_eq, mCons_eq, show mVar 0 E0 h = .val (tskW T) h from rfl, bind_val, mNil_eq, bind_val, bind_val]
    show mLen [.tup (T.map W.tup)] h = _
    rw [len_tup, List.length_map]
  have ch := chain_eq (r := E0) (h := h) (m := (T.length : Int)) (lo := 1) (hi := 6) (fl := mC (.int 1)) (fm := mB mLen (mCons (mVar 0) mNil)) (fh := mC (.int 6)) rfl lt rfl
  rw [decide_eq_true (show (1 : Int) ≤ (T.length : Int) by omega), decide_eq_true (show (T.length : Int) ≤ 6 by omega)] at ch
  obtain ⟨r1, h1, e1, a, b, er, eh⟩ := for_enT (xs := T.map W.tup) (i := 1) (j := 2) (B := rtB1) (fun r g => ∃ a b, r = rtE T a b none none ∧ g = h) (fun k x ex r g ⟨a, b, hr, hg⟩ => by
    subst hr hg
    obtain ⟨s, hs, rfl⟩ := List.mem_map.mp (List.mem_of_getElem? ex)
    have ls := l s hs
    let E : Ws := rtE T (some (.int (k : Nat))) (some (.tup s)) none none
    have gt : mGt (.int (s.length : Int)) (.int 20) g = .val (.bl (decide ((20 : Int) < s.length))) g := rfl
    refine ⟨E, g, ?_, _, _, rfl, rfl⟩
    show rtB1 E g = _
    unfold rtB1
    rw [mIfS_eq, mOrT_eq, mNotT_eq, mT_eq, mB_eq, mCons_eq, show mVar 2 E g = .val (.tup s) g from rfl, bind_val, mCons_eq, mC_eq, bind_val, mNil_eq, bind_val, bind_val, bind_val, isi_tup, bind_val, asB_bl, bind_val, bind_val, if_neg (by decide), mT_eq, m2_eq, mB_eq, mCons_eq, show mVar 2 E g = .val (.tup s) g from rfl, bind_val, mNil_eq, bind_val, bind_val, len_tup, bind_val, mC_eq, bind_val, gt, bind_val, asB_bl, andS_val, if_neg (by rw [decide_eq_false (by omega)]; decide), mNext_eq]) (T.map W.tup).length 0 E0 h (by omega) ⟨_, _, rfl, rfl⟩
  rw [er, eh] at e1
  have src : (mEnT (mCons (mVar 0) mNil)) E0 h = .val ⟨(T.map W.tup).length + 1, nxEnT (T.map W.tup)⟩ h := rfl
  have f1 : (mFor (mEnT (mCons (mVar 0) mNil)) (mGs 2 (mGcons (mGn 1) (mGcons (mGn 2) mGnil))) rtB1) E0 h = .nx (rtE T a b none none) h := by
    unfold mFor
    rw [src, andS_val, e1]
  refine ⟨a, b, ?_⟩
  unfold m_require_tasks
  rw [mDef_eq, st, mSeq_eq, mIfS_eq, mOrT_eq, mNotT_eq, mT_eq, mB_eq, mCons_eq, show mVar 0 E0 h = .val (tskW T) h from rfl, bind_val, mCons_eq, mC_eq, bind_val, mNil_eq, bind_val, bind_val, bind_val, it, bind_val, asB_bl, bind_val, bind_val, if_neg (by decide), mNotT_eq, mT_eq, ch, bind_val, asB_bl, bind_val, andS_val, if_neg (by decide), mNext_eq, thenS_nx, mSeq_eq, f1, thenS_nx]
theorem rt_ok {T : List (List W)} (k : TsOk T) (h : Hv) : ∃ g, m_require_tasks [tskW T] h = .val .non g ∧ Ext h g := by
  have body : ∀ a b, ∃ r' g, (mFor (mEnT (mCons (mVar 0) mNil)) (mGs 2 (mGcons (mGn 1) (mGcons (mGn 2) mGnil))) (mFor (mEnT (mCons (mVar 2) mNil)) (mGs 2 (mGcons (mGn 3) (mGcons (mGn 4) mGnil))) rtB2)) (rtE T a b none none) h = .nx r' g ∧ Ext h g := fun a b => by
    obtain ⟨r1, h1, e1, x1⟩ := for_enT (xs := T.map W.tup) (i := 1) (j := 2) (B := (mFor (mEnT (mCons (mVar 2) mNil)) (mGs 2 (mGcons (mGn 3) (mGcons (mGn 4) mGnil))) rtB2)) (fun r g => (∃ a b c d, r = rtE T a b c d) ∧ Ext h g) (fun k' x ex r g ⟨⟨a, b, c, d, hr⟩, x0⟩ => by
      subst hr
      obtain ⟨s, hs, rfl⟩ := List.mem_map.mp (List.mem_of_getElem? ex)
      obtain ⟨r2, h2, e2, x2⟩ := for_enT (xs := s) (i := 3) (j := 4) (B := rtB2) (fun r g' => (∃ c d, r = rtE T (some (.int (k' : Nat))) (some (.tup s)) c d) ∧ Ext h g') (fun k2 y ey r g' ⟨⟨c, d, hr⟩, x0⟩ => by
        subst hr
        obtain ⟨L, ei⟩ := (k.ok s hs y (List.mem_of_getElem? ey)).is g'
        let E : Ws := rtE T (some (.int (k' : Nat))) (some (.tup s)) (some (.int (k2 : Nat))) (some y)
        have lt : (mB mLen (mCons (mVar 0) mNil)) E g' = .val (.int (T.length : Int)) g' := by
          rw [mB_eq, mCons_eq, show mVar 0 E g' = .val (tskW T) g' from rfl, bind_val, mNil_eq, bind_val, bind_val]
          show mLen [.tup (T.map W.tup)] g' = _
          rw [len_tup, List.length_map]
        refine ⟨E, g' ++ [.lst L], ?_, ⟨_, _, rfl⟩, x0.trans (Ext.more _ _)⟩
        show rtB2 E g' = _
        unfold rtB2
        rw [mIfS_eq, mNotT_eq, mT_eq, mCall_eq, mCons_eq, show mVar 4 E g' = .val y g' from rfl, bind_val, mCons_eq, lt, bind_val, mNil_eq, bind_val, bind_val, bind_val, if_pos (by rfl), ei, bind_val, asB_bl, bind_val, andS_val, if_neg (by decide), mNext_eq]) s.length 0 (rtE T (some (.int (k' : Nat))) (some (.tup s)) c d) g (by omega) ⟨⟨_, _, rfl⟩, x0⟩
      have src : (mEnT (mCons (mVar 2) mNil)) (rtE T (some (.int (k' : Nat))) (some (.tup s)) c d) g = .val ⟨s.length + 1, nxEnT s⟩ g := rfl
      refine ⟨r2, h2, ?_, (by obtain ⟨⟨c, d, e⟩, _⟩ := x2; exact ⟨_, _, c, d, e⟩), x2.2⟩
      show (mFor _ _ _) (rtE T (some (.int (k' : Nat))) (some (.tup s)) c d) g = _
      unfold mFor
      rw [src, andS_val, e2]) (T.map W.tup).length 0 (rtE T a b none none) h (by omega) ⟨⟨_, _, _, _, rfl⟩, Ext.refl _⟩
    refine ⟨r1, h1, ?_, x1.2⟩
    have src : (mEnT (mCons (mVar 0) mNil)) (rtE T a b none none) h = .val ⟨(T.map W.tup).length + 1, nxEnT (T.map W.tup)⟩ h := rfl
    unfold mFor at e1 ⊢
    rw [src, andS_val, e1]
  obtain ⟨a, b, e⟩ := rt_head k.n1 k.n6 k.l h
  obtain ⟨r', g, e2, x⟩ := body a b
  rw [e2, endS_nx] at e
  exact ⟨g, e, x⟩
end PL
end
section
/-! programs and settings, made -/
namespace PL
open PySem L2 VL LD
variable {h g : Hv} {D : DI} {p q n m : Nat} {o w : Str} {r : Ws} {T : List (List W)}
/-- a program at q -/
def PrAt (h : Hv) (q : Nat) (T : List (List W)) (D : DI) : Prop := ∃ d, h[q]? = some (.ins "P" [("plans", tskW T), ("rooms", .ref d)]) ∧ h[d]? = some (.dic (dW D))
theorem PrAt.ext (a : PrAt h q T D) (x : Ext h g) : PrAt g q T D := by
  obtain ⟨d, e1, e2⟩ := a
  exact ⟨d, x _ _ e1, x _ _ e2⟩
/-- capacities as they are handed in -/
def Caps (h : Hv) (c : W) (D : DI) : Prop := (c = .non ∧ D = []) ∨ ∃ p, c = .ref p ∧ h[p]? = some (.dic (dW D))
theorem okd_nil {lo hi : Int} : Okd lo hi [] := ⟨List.nodup_nil, fun q h => absurd h List.not_mem_nil, Nat.zero_le _⟩
theorem putF_ok {c : String} {f : Str} {fo fe : Ws → Hv → Res W} {v : W} {fs : List (Str × W)} (ee : fe r h = .val v g) (eo : fo r g = .val (.ref q) g) (e : g[q]? = some (.ins c fs)) (l : fs.length < 1000) : mPutF c f fo fe r h = .nx r (g.set q (.ins c (putW f v fs))) := by
  unfold mPutF
  rw [ee, andS_val, eo, andS_val]
  simp only [e]
  rw [if_pos ⟨trivial, l⟩]
/-- Program.__init__ behind the look at the tasks -/
theorem initP_caps {c : W} (k : TsOk T) (kc : Caps h c D) (kd : Okd 1 9 D) (eq : h[q]? = some (.ins "P" [])) : ∃ g d, m_Program_init [.ref q, tskW T, c] h = .val .non g ∧ g[q]? = some (.ins "P" [("plans", tskW T), ("rooms", .ref d)]) ∧ g[d]? = some (.dic (dW (flt D))) ∧ (∀ i u, i ≠ q → h[i]? = some u → g[i]? = some u) := by
  have st : startW ["self", "tasks", "capacities", "given", "queue"] [.ref q, tskW T, c] = [some (.ref q), some (tskW T), some c, none, none] := rfl
  let E0 : Ws := [some (.ref q), some (tskW T), some c, none, none]
  obtain ⟨g1, e1, x1⟩ := rt_ok k h
  -- the capacities that are meant
  have gv : ∃ p g2, (mIf (mT (m2 (mIs false) (mVar 2) (mC .non))) (fun _ h => mNew (.dic []) h) (mVar 2)) E0 g1 = .val (.ref p) g2 ∧ g2[p]? = some (.dic (dW D)) ∧ Ext g1 g2 := by
    rcases kc with ⟨rfl, rfl⟩ | ⟨p, rfl, e⟩
    · exact ⟨g1.length, g1 ++ [.dic []], rfl, get_last, Ext.more _ _⟩
    · exact ⟨p, g1, rfl, x1 _ _ e, Ext.refl _⟩
  obtain ⟨p, g2, e2, d2, x2⟩ := gv
  let E : Ws := [some (.ref q), some (tskW T), some c, some (.ref p), none]
  have x12 := x1.trans x2
  have q2 := x12 _ _ eq
  let g3 := g2.set q (.ins "P" [("plans", tskW T)])
  have lq : q < g2.length := lt_of_get q2
  have np : p ≠ q := fun z => by subst z; rw [q2] at d2; cases d2
  have d3 : g3[p]? = some (.dic (dW D)) := by
    show (g2.set _ _)[p]? = _
    rw [List.getElem?_set_ne (Ne.symm np)]
    exact d2
  have kp := keep_ok (E := E) (i := 3) (j := 4) (p := p) (h := g3) rfl (by decide) (by show (4 : Nat) < 5; decide) d3 kd
  have q3 : (g3 ++ [O.dic (dW (flt D))])[q]? = some (.ins "P" [("plans", tskW T)]) := get_old (List.getElem?_set_self lq)
  have pf1 : mPutF "P" "plans" (mVar 0) (mVar 1) E g2 = .nx E g3 := putF_ok (r := E) (fo := mVar 0) (fe := mVar 1) (v := tskW T) (g := g2) (q := q) rfl rfl q2 (by show (0 : Nat) < 1000; decide)
  have pf2 : mPutF "P" "rooms" (mVar 0) (mLockE 3 (mDc (mKeys (mVar 3)) 4 (mT (m2 (mEq true) (mIxD (mVar 3) (mVar 4)) (mC (.int 1)))) (mVar 4) (mIxD (mVar 3) (mVar 4)))) E g3 = .nx E ((g3 ++ [O.dic (dW (flt D))]).set q (.ins "P" [("plans", tskW T), ("rooms", .ref g3.length)])) := putF_ok (r := E) kp (show mVar 0 E _ = .val (.ref q) _ from rfl) q3 (by show (1 : Nat) < 1000; decide)
  have l3 : g3.length = g2.length := List.length_set ..
  refine ⟨(g3 ++ [O.dic (dW (flt D))]).set q (.ins "P" [("plans", tskW T), ("rooms", .ref g3.length)]), g3.length, ?_, List.getElem?_set_self (by simp [l3]; omega), ?_, fun i u ne ei => ?_⟩
  · unfold m_Program_init
    rw [mDef_eq, st, mSeq_eq, mExpr_eq, mCall_eq, mCons_eq, show mVar 1 E0 h = .val (tskW T) h from rfl, bind_val, mNil_eq, bind_val, bind_val, if_pos (by rfl), e1, andS_val, thenS_nx, mSeq_eq, mSet_eq, e2, andS_val, thenS_nx]
    show endS ((mSeq _ _) E g2) = _
    rw [mSeq_eq, mExpr_eq, mCall_eq, mCons_eq, show mVar 3 E g2 = .val (.ref p) g2 from rfl, bind_val, mNil_eq, bind_val, bind_val, if_pos (by rfl), rc_ok d2 kd, andS_val, thenS_nx, mSeq_eq, pf1, thenS_nx, pf2, endS_nx]
  · rw [List.getElem?_set_ne (by omega)]
    exact get_last
  · rw [List.getElem?_set_ne (Ne.symm ne)]
    refine get_old ?_
    show (g2.set _ _)[i]? = _
    rw [List.getElem?_set_ne (Ne.symm ne)]
    exact x12 _ _ ei
/-- Program(..) -/
theorem mkP_ok {c : W} {G : List W → List W → List W} {ga gk : Ws → Hv → Res (List W)} {ws zs : List W} {h0 : Hv} (ea : ga r h = .val ws h0) (ek : gk r h0 = .val zs g) (hn : ws.length = n ∧ zs.length = m) (eG : G ws zs = [tskW T, c]) (k : TsOk T) (kc : Caps g c D) (kd : Okd 1 9 D) :
    ∃ g', mMakeF "P" n m m_Program_init G ga gk r h = .val (.ref g.length) g' ∧ PrAt g' g.length T (flt D) ∧ Ext g g' := by
  have kc' : Caps (g ++ [O.ins "P" []]) c D := kc.imp id fun ⟨p, e1, e2⟩ => ⟨p, e1, get_old e2⟩
  obtain ⟨g', d, e1, e2, e3, e4⟩ := initP_caps (h := g ++ [O.ins "P" []]) (q := g.length) k kc' kd get_last
  refine ⟨g', ?_, ⟨d, e2, e3⟩, fun i u ei => e4 i u (by have := lt_of_get ei; omega) (get_old ei)⟩
  unfold mMakeF
  rw [ea, bind_val, ek, bind_val, if_pos hn, eG, e1, bind_val]
/-- an error from __init__ -/
theorem mkF_exc {cl : String} {mf : MFn} {G : List W → List W → List W} {ga gk : Ws → Hv → Res (List W)} {ws zs : List W} {h0 g' : Hv} {x : String} {j : Option Nat} (ea : ga r h = .val ws h0) (ek : gk r h0 = .val zs g) (hn : ws.length = n ∧ zs.length = m) (e : mf (.ref g.length :: G ws zs) (g ++ [.ins cl []]) = .exc x j g') : mMakeF cl n m mf G ga gk r h = .exc x j g' := by
  unfold mMakeF
  rw [ea, bind_val, ek, bind_val, if_pos hn, e, bind_exc]
/-- one queue that has no name or no such capacity -/
theorem initP_no {v : W} (k : TsOk T) (e : h[p]? = some (.dic [(.inr w, v)])) (aw : Asc w) (lw : w.length ≤ 1000) (s : Sc v) (nb : (nameB w && wholeB v 1 9) = false) : ∃ j g, m_Program_init [.ref q, tskW T, .ref p] h = .exc "c" (some j) g ∧ g[j]? = some (.xd [("place", .str "capacities")]) ∧ ∀ i u, i ≠ p → h[i]? = some u → g[i]? = some u := by
  have st : startW ["self", "tasks", "capacities", "given", "queue"] [.ref q, tskW T, .ref p] = [some (.ref q), some (tskW T), some (.ref p), none, none] := rfl
  let E0 : Ws := [some (.ref q), some (tskW T), some (.ref p), none, none]
  let E : Ws := [some (.ref q), some (tskW T), some (.ref p), some (.ref p), none]
  obtain ⟨g1, e1, x1⟩ := rt_ok k h
  have e2 : (mIf (mT (m2 (mIs false) (mVar 2) (mC .non))) (fun _ h => mNew (.dic []) h) (mVar 2)) E0 g1 = .val (.ref p) g1 := rfl
  have rn := rc_no (x1 _ _ e) aw lw s nb
  refine ⟨g1.length, g1.set p (.rox [(.inr w, v)]) ++ [.xd [("place", .str "capacities")]], ?_, ?_, fun i u ne ei => ?_⟩
  · unfold m_Program_init
    rw [mDef_eq, st, mSeq_eq, mExpr_eq, mCall_eq, mCons_eq, show mVar 1 E0 h = .val (tskW T) h from rfl, bind_val, mNil_eq, bind_val, bind_val, if_pos (by rfl), e1, andS_val, thenS_nx, mSeq_eq, mSet_eq, e2, andS_val, thenS_nx]
    show endS ((mSeq _ _) E g1) = _
    rw [mSeq_eq, mExpr_eq, mCall_eq, mCons_eq, show mVar 3 E g1 = .val (.ref p) g1 from rfl, bind_val, mNil_eq, bind_val, bind_val, if_pos (by rfl), rn, andS_exc, thenS_exc, endS_exc]
  · have l : (g1.set p (.rox [(.inr w, v)])).length = g1.length := List.length_set ..
    rw [← l]
    exact get_last
  · refine get_old ?_
    rw [List.getElem?_set_ne (Ne.symm ne)]
    exact x1 _ _ ei
theorem fldR {f : Ws → Hv → Res W} {a b : W} (ef : f r h = .val (.ref q) g) (e : g[q]? = some (.ins "P" [("plans", a), ("rooms", b)])) : mFld "P" "rooms" f r h = .val b g := by
  unfold mFld
  rw [ef, bind_val]
  simp only [mFldO, e]
  rfl
theorem fldP {f : Ws → Hv → Res W} {a b : W} (ef : f r h = .val (.ref q) g) (e : g[q]? = some (.ins "P" [("plans", a), ("rooms", b)])) : mFld "P" "plans" f r h = .val a g := by
  unfold mFld
  rw [ef, bind_val]
  simp only [mFldO, e]
  rfl
/-- capacity(queue) -/
theorem cap_ok (a : PrAt h q T D) (aw : Asc w) (lw : w.length ≤ 1000) (nb : nameB w = true) : m_Program_capacity [.ref q, .str w] h = .val ((gt D w).elim (.int 1) W.int) h := by
  obtain ⟨d, e1, e2⟩ := a
  have st : startW ["self", "queue"] [.ref q, .str w] = [some (.ref q), some (.str w)] := rfl
  let E0 : Ws := [some (.ref q), some (.str w)]
  have f : mFld "P" "rooms" (mVar 0) E0 h = .val (.ref d) h := fldR rfl e1
  have dd : dicO h[d]? = some (dW D) := by rw [e2]; rfl
  have isd : isDic (.ref d) h = true := by simp [isDic, dd]
  have gg : mGetD (mFld "P" "rooms" (mVar 0)) (mVar 1) (mC (.int 1)) E0 h = .val ((gt D w).elim (.int 1) W.int) h := by
    unfold mGetD
    rw [f, bind_val, if_pos isd]
    exact getDO_dW dd
  unfold m_Program_capacity
  rw [mDef_eq, st]
  show endS ((mSeq _ _) E0 h) = _
  rw [mSeq_eq, mExpr_eq, mCall_eq, mCons_eq, show mVar 1 E0 h = .val (.str w) h from rfl, bind_val, mNil_eq, bind_val, bind_val, if_pos (by rfl), reqname_ok aw lw nb, andS_val, thenS_nx, mRet_eq, gg, andS_val, endS_rt]
theorem cap_no (aw : Asc w) (lw : w.length ≤ 1000) (nb : nameB w = false) : m_Program_capacity [.ref q, .str w] h = .exc "b" (some h.length) (h ++ [.xd [("name", .str w)]]) := by
  have st : startW ["self", "queue"] [.ref q, .str w] = [some (.ref q), some (.str w)] := rfl
  let E0 : Ws := [some (.ref q), some (.str w)]
  unfold m_Program_capacity
  rw [mDef_eq, st]
  show endS ((mSeq _ _) E0 h) = _
  rw [mSeq_eq, mExpr_eq, mCall_eq, mCons_eq, show mVar 1 E0 h = .val (.str w) h from rfl, bind_val, mNil_eq, bind_val, bind_val, if_pos (by rfl), reqname_no aw lw nb, andS_exc, thenS_exc, endS_exc]
end PL
end
section
/-! settings made; a program of one step -/
namespace PL
open PySem L2 VL LD
variable {h g : Hv} {D : DI} {p q n m : Nat} {o w : Str} {r : Ws} {T : List (List W)}
def paceB (z : Key × W) : Bool := match z.1 with
  | .inr w => nameB w && wholeB z.2 0 1000000
  | _ => false
def Flat1 (z : Key × W) : Prop := ∃ (w : Str) (v : W), z = (.inr w, v) ∧ Asc w ∧ w.length ≤ 1000 ∧ Sc v
theorem paces_eq {kvs : List (Key × W)} (e : h[p]? = some (.dic kvs)) (hk : ∀ z ∈ kvs, Flat1 z) (hl : kvs.length ≤ 1000) : m_are_paces [.ref p] h = .val (.bl ((kvs.map paceB).all id)) (h ++ [.lst ((kvs.map paceB).map W.bl)]) := by
  have st : startW ["value", "part", "pace"] [.ref p] = [some (.ref p), none, none] := rfl
  let E0 : Ws := [some (.ref p), none, none]
  have lc : mLcT (mItems (mVar 0)) 1 2 mYes (mAndV (mCall 1 m_is_name (mCons (mVar 1) mNil)) (mCall 1 m_is_pace (mCons (mVar 2) mNil))) E0 (h.set p (.rod kvs)) = .val (.ref (h.set p (.rod kvs)).length) (h.set p (.rod kvs) ++ [.lst (kvs.map fun z => W.bl (paceB z))]) :=
    lcT_items (p := p) (fun z => .bl (paceB z)) (fun z h' hz e1 => by
      obtain ⟨w, v, rfl, a, l, s⟩ := hk z hz
      let E : Ws := [some (.ref p), some (.str w), some v]
      show (mAndV _ _) E h' = _
      rw [mAndV_eq, mT_eq, mCall_eq, mCons_eq, show mVar 1 E h' = .val (.str w) h' from rfl, bind_val, mNil_eq, bind_val, bind_val, if_pos (by rfl), isname_eq a l, bind_val, asB_bl, bind_val]
      show _ = Res.val (W.bl (nameB w && wholeB v 0 1000000)) h'
      cases nameB w
      · rw [if_neg (by decide), Bool.false_and]
      · rw [if_pos rfl, mCall_eq, mCons_eq, show mVar 2 E h' = .val v h' from rfl, bind_val, mNil_eq, bind_val, bind_val, if_pos (by rfl), ispace_eq s, Bool.true_and]) rfl (List.getElem?_set_self (lt_of_get e)) (by omega)
  rw [List.length_set] at lc
  have lk := lockE_of (i := 0) (r := E0) rfl e lc
  have dm : (kvs.map fun z => W.bl (paceB z)) = (kvs.map paceB).map W.bl := by rw [List.map_map]; rfl
  rw [dm] at lk
  unfold m_are_paces
  rw [mDef_eq, st, mSeq_eq, mIfS_eq, mNotT_eq, mT_eq, mB_eq, mCons_eq, mVar0, bind_val, mCons_eq, mC_eq, bind_val, mNil_eq, bind_val, bind_val, bind_val, isd_of e, bind_val, asB_bl, bind_val, andS_val, if_neg (by decide), mNext_eq, thenS_nx, mRet_eq, mB_eq, mCons_eq, lk, bind_val, mNil_eq, bind_val, bind_val, all_bools get_last, andS_val]
  rfl
theorem paces_ok (e : h[p]? = some (.dic (dW D))) (k : Okd 0 1000000 D) : m_are_paces [.ref p] h = .val (.bl true) (h ++ [.lst (((dW D).map paceB).map W.bl)]) := by
  have z := paces_eq e (fun z hz => by
    obtain ⟨u, hu, rfl⟩ := List.mem_map.mp hz
    obtain ⟨a, b, _, _⟩ := k.nm u hu
    exact ⟨u.1, .int u.2, rfl, a, by have := nameB_len b; omega, .int _⟩) (by rw [dW_len]; exact k.ln)
  have t : ((dW D).map paceB).all id = true := by
    rw [List.all_eq_true]
    intro b hb
    obtain ⟨z, hz, rfl⟩ := List.mem_map.mp hb
    obtain ⟨u, hu, rfl⟩ := List.mem_map.mp hz
    obtain ⟨_, b, c, d⟩ := k.nm u hu
    show (nameB u.1 && wholeB (.int u.2) 0 1000000) = true
    unfold wholeB
    simp [b, c, d]
  rw [t] at z
  exact z
def RL : List Str := ["turn", "number"]
/-- a setting at q -/
def SetAt (h : Hv) (q : Nat) (D : DI) (o : Str) : Prop := ∃ d, h[q]? = some (.ins "S" [("paces", .ref d), ("order", .str o)]) ∧ h[d]? = some (.dic (dW D))
theorem SetAt.ext (a : SetAt h q D o) (x : Ext h g) : SetAt g q D o := by
  obtain ⟨d, e1, e2⟩ := a
  exact ⟨d, x _ _ e1, x _ _ e2⟩
theorem initS_ok {c : W} (kc : Caps h c D) (kd : Okd 0 1000000 D) (ho : o ∈ RL) (eq : h[q]? = some (.ins "S" [])) : ∃ g d, m_Setting_init [.ref q, c, .str o] h = .val .non g ∧ g[q]? = some (.ins "S" [("paces", .ref d), ("order", .str o)]) ∧ g[d]? = some (.dic (dW (flt D))) ∧ (∀ i u, i ≠ q → h[i]? = some u → g[i]? = some u) := by
  have st : startW ["self", "slownesses", "rule", "given", "part"] [.ref q, c, .str o] = [some (.ref q), some c, some (.str o), none, none] := rfl
  let E0 : Ws := [some (.ref q), some c, some (.str o), none, none]
  have gv : ∃ p g2, (mIf (mT (m2 (mIs false) (mVar 1) (mC .non))) (fun _ h => mNew (.dic []) h) (mVar 1)) E0 h = .val (.ref p) g2 ∧ g2[p]? = some (.dic (dW D)) ∧ Ext h g2 := by
    rcases kc with ⟨rfl, rfl⟩ | ⟨p, rfl, e⟩
    · exact ⟨h.length, h ++ [.dic []], rfl, get_last, Ext.more _ _⟩
    · exact ⟨p, h, rfl, e, Ext.refl _⟩
  obtain ⟨p, g2, e2, d2, x2⟩ := gv
  let E : Ws := [some (.ref q), some c, some (.str o), some (.ref p), none]
  let L : O := .lst (((dW D).map paceB).map W.bl)
  let g3 := g2 ++ [L]
  have pp := paces_ok d2 kd
  have d3 : g3[p]? = some (.dic (dW D)) := get_old d2
  have q3 : g3[q]? = some (.ins "S" []) := get_old (x2 _ _ eq)
  have lq : q < g3.length := lt_of_get q3
  have kp := keep_ok (E := E) (i := 3) (j := 4) (p := p) (h := g3) rfl (by decide) (by show (4 : Nat) < 5; decide) d3 kd
  let g4 := g3 ++ [O.dic (dW (flt D))]
  have q4 : g4[q]? = some (.ins "S" []) := get_old q3
  have lq4 : q < g4.length := lt_of_get q4
  let g5 := g4.set q (.ins "S" [("paces", .ref g3.length)])
  have q5 : g5[q]? = some (.ins "S" [("paces", .ref g3.length)]) := List.getElem?_set_self lq4
  have pf1 : mPutF "S" "paces" (mVar 0) (mLockE 3 (mDc (mKeys (mVar 3)) 4 (mT (m2 (mEq true) (mIxD (mVar 3) (mVar 4)) (mC (.int 1)))) (mVar 4) (mIxD (mVar 3) (mVar 4)))) E g3 = .nx E g5 := putF_ok (r := E) kp (show mVar 0 E _ = .val (.ref q) _ from rfl) q4 (by show (0 : Nat) < 1000; decide)
  have pf2 : mPutF "S" "order" (mVar 0) (mVar 2) E g5 = .nx E (g5.set q (.ins "S" [("paces", .ref g3.length), ("order", .str o)])) := putF_ok (r := E) (fo := mVar 0) (fe := mVar 2) (v := .str o) (g := g5) (q := q) rfl rfl q5 (by show (1 : Nat) < 1000; decide)
  have l5 : g5.length = g4.length := List.length_set ..
  have l4 : g4.length = g3.length + 1 := by simp [g4]
  have inn : mInA true (.str o) (.tup [.str "turn", .str "number"]) g3 = .val (.bl false) g3 := by
    simp only [RL, List.mem_cons, List.not_mem_nil, or_false] at ho
    rcases ho with rfl | rfl <;> kernel_rfl
  refine ⟨g5.set q (.ins "S" [("paces", .ref g3.length), ("order", .str o)]), g3.length, ?_, List.getElem?_set_self (by omega), ?_, fun i u ne ei => ?_⟩
  · unfold m_Setting_init
    rw [mDef_eq, st, mSeq_eq, mSet_eq, e2, andS_val, thenS_nx]
    show endS ((mSeq _ _) E g2) = _
    rw [mSeq_eq, mIfS_eq, mNotT_eq, mT_eq, mCall_eq, mCons_eq, show mVar 3 E g2 = .val (.ref p) g2 from rfl, bind_val, mNil_eq, bind_val, bind_val, if_pos (by rfl), pp, bind_val, asB_bl, bind_val, andS_val, if_neg (by decide), mNext_eq, thenS_nx]
    show endS ((mSeq _ _) E g3) = _
    rw [mSeq_eq, mIfS_eq, mOrT_eq, mNotT_eq, mT_eq, mB_eq, mCons_eq, show mVar 2 E g3 = .val (.str o) g3 from rfl, bind_val, mCons_eq, mC_eq, bind_val, mNil_eq, bind_val, bind_val, bind_val, isi_str, bind_val, asB_bl, bind_val, bind_val, if_neg (by decide), mT_eq, m2_eq, show mVar 2 E g3 = .val (.str o) g3 from rfl, bind_val, mC_eq, bind_val, inn, bind_val, asB_bl, andS_val, if_neg (by decide), mNext_eq, thenS_nx,
      mSeq_eq, pf1, thenS_nx, pf2, endS_nx]
  · rw [List.getElem?_set_ne (by omega)]
    show (g4.set q _)[_]? = _
    rw [List.getElem?_set_ne (by omega)]
    exact get_last
  · rw [List.getElem?_set_ne (Ne.symm ne)]
    show (g4.set q _)[_]? = _
    rw [List.getElem?_set_ne (Ne.symm ne)]
    exact get_old (get_old (x2 _ _ ei))
theorem mkS_ok {c : W} {G : List W → List W → List W} {ga gk : Ws → Hv → Res (List W)} {ws zs : List W} {h0 : Hv} (ea : ga r h = .val ws h0) (ek : gk r h0 = .val zs g) (hn : ws.length = n ∧ zs.length = m) (eG : G ws zs = [c, .str o]) (kc : Caps g c D) (kd : Okd 0 1000000 D) (ho : o ∈ RL) :
    ∃ g', mMakeF "S" n m m_Setting_init G ga gk r h = .val (.ref g.length) g' ∧ SetAt g' g.length (flt D) o ∧ Ext g g' := by
  have kc' : Caps (g ++ [O.ins "S" []]) c D := kc.imp id fun ⟨p, e1, e2⟩ => ⟨p, e1, get_old e2⟩
  obtain ⟨g', d, e1, e2, e3, e4⟩ := initS_ok (h := g ++ [O.ins "S" []]) (q := g.length) kc' kd ho get_last
  refine ⟨g', ?_, ⟨d, e2, e3⟩, fun i u ei => e4 i u (by have := lt_of_get ei; omega) (get_old ei)⟩
  unfold mMakeF
  rw [ea, bind_val, ek, bind_val, if_pos hn, eG, e1, bind_val]
theorem initS_no {v : W} (e : h[p]? = some (.dic [(.inr w, v)])) (aw : Asc w) (lw : w.length ≤ 1000) (s : Sc v) (nb : (nameB w && wholeB v 0 1000000) = false) : m_Setting_init [.ref q, .ref p, .str o] h = .exc "a" (some (h.length + 1)) (h ++ [.lst [.bl false], .xd [("value", .ref p)]]) := by
  have st : startW ["self", "slownesses", "rule", "given", "part"] [.ref q, .ref p, .str o] = [some (.ref q), some (.ref p), some (.str o), none, none] := rfl
  let E0 : Ws := [some (.ref q), some (.ref p), some (.str o), none, none]
  let E : Ws := [some (.ref q), some (.ref p), some (.str o), some (.ref p), none]
  have e2 : (mIf (mT (m2 (mIs false) (mVar 1) (mC .non))) (fun _ h => mNew (.dic []) h) (mVar 1)) E0 h = .val (.ref p) h := rfl
  have pp := paces_eq e (fun z hz => by
    rw [List.mem_singleton] at hz
    subst hz
    exact ⟨w, v, rfl, aw, lw, s⟩) (by show (1 : Nat) ≤ 1000; decide)
  have t1 : ([((.inr w, v) : Key × W)].map paceB) = [false] := by
    show [nameB w && wholeB v 0 1000000] = _
    rw [nb]
  rw [t1] at pp
  have pp : m_are_paces [.ref p] h = .val (.bl false) (h ++ [.lst [.bl false]]) := pp
  have ra : (mRaise "a" "value" (mCons (mVar 1) mNil)) E (h ++ [.lst [.bl false]]) = .exc "a" (some (h.length + 1)) E (h ++ [.lst [.bl false], .xd [("value", .ref p)]]) := by
    unfold mRaise
    rw [mCons_eq, show mVar 1 E (h ++ [O.lst [.bl false]]) = .val (.ref p) (h ++ [O.lst [.bl false]]) from rfl, bind_val, mNil_eq, bind_val, andS_val]
    simp
  unfold m_Setting_init
  rw [mDef_eq, st, mSeq_eq, mSet_eq, e2, andS_val, thenS_nx]
  show endS ((mSeq _ _) E h) = _
  rw [mSeq_eq, mIfS_eq, mNotT_eq, mT_eq, mCall_eq, mCons_eq, show mVar 3 E h = .val (.ref p) h from rfl, bind_val, mNil_eq, bind_val, bind_val, if_pos (by rfl), pp, bind_val, asB_bl, bind_val, andS_val, if_pos (by decide), ra, thenS_exc, endS_exc]
theorem fldS {f : Ws → Hv → Res W} {a b : W} (ef : f r h = .val (.ref q) g) (e : g[q]? = some (.ins "S" [("paces", a), ("order", b)])) : mFld "S" "paces" f r h = .val a g := by
  unfold mFld
  rw [ef, bind_val]
  simp only [mFldO, e]
  rfl
theorem slow_ok (a : SetAt h q D o) (aw : Asc w) (lw : w.length ≤ 1000) (nb : nameB w = true) : m_Setting_slowness [.ref q, .str w] h = .val ((gt D w).elim (.int 1) W.int) h := by
  obtain ⟨d, e1, e2⟩ := a
  have st : startW ["self", "part"] [.ref q, .str w] = [some (.ref q), some (.str w)] := rfl
  let E0 : Ws := [some (.ref q), some (.str w)]
  have f : mFld "S" "paces" (mVar 0) E0 h = .val (.ref d) h := fldS rfl e1
  have dd : dicO h[d]? = some (dW D) := by rw [e2]; rfl
  have isd : isDic (.ref d) h = true := by simp [isDic, dd]
  have gg : mGetD (mFld "S" "paces" (mVar 0)) (mVar 1) (mC (.int 1)) E0 h = .val ((gt D w).elim (.int 1) W.int) h := by
    unfold mGetD
    rw [f, bind_val, if_pos isd]
    exact getDO_dW dd
  unfold m_Setting_slowness
  rw [mDef_eq, st]
  show endS ((mSeq _ _) E0 h) = _
  rw [mSeq_eq, mExpr_eq, mCall_eq, mCons_eq, show mVar 1 E0 h = .val (.str w) h from rfl, bind_val, mNil_eq, bind_val, bind_val, if_pos (by rfl), reqname_ok aw lw nb, andS_val, thenS_nx, mRet_eq, gg, andS_val, endS_rt]
theorem slow_no (aw : Asc w) (lw : w.length ≤ 1000) (nb : nameB w = false) : m_Setting_slowness [.ref q, .str w] h = .exc "b" (some h.length) (h ++ [.xd [("name", .str w)]]) := by
  have st : startW ["self", "part"] [.ref q, .str w] = [some (.ref q), some (.str w)] := rfl
  let E0 : Ws := [some (.ref q), some (.str w)]
  unfold m_Setting_slowness
  rw [mDef_eq, st]
  show endS ((mSeq _ _) E0 h) = _
  rw [mSeq_eq, mExpr_eq, mCall_eq, mCons_eq, show mVar 1 E0 h = .val (.str w) h from rfl, bind_val, mNil_eq, bind_val, bind_val, if_pos (by rfl), reqname_no aw lw nb, andS_exc, thenS_exc, endS_exc]
/-! ### one task of one step -/
theorem ts_none : TsOk [[]] := ⟨by decide, by decide, fun s hs => by rw [List.mem_singleton] at hs; subst hs; decide, fun s hs x hx => by rw [List.mem_singleton] at hs; subst hs; exact absurd hx List.not_mem_nil⟩
theorem ts_get (aw : Asc w) (lw : w.length ≤ 1000) (nb : nameB w = true) : TsOk [[.tup [.str "get", .str w]]] := ⟨by show (1 : Nat) ≤ 1; decide, by show (1 : Nat) ≤ 6; decide, fun s hs => by rw [List.mem_singleton] at hs; subst hs; show (1 : Nat) ≤ 20; decide, fun s hs x hx => by
  rw [List.mem_singleton] at hs
  subst hs
  rw [List.mem_singleton] at hx
  subst hx
  refine ⟨"get", [.str w], ["name"], rfl, by kernel_rfl, rfl, fun z hz => ?_, by show (1 : Nat) ≤ 10; decide, ?_⟩
  · rw [show ([W.str w].zip [("name" : Str)]) = [((W.str w, "name") : W × Str)] from rfl, List.mem_singleton] at hz
    subst hz
    exact .name aw lw
  · show ((decide (("name" : Str) = "name") && nameB w) && true) = true
    rw [nb, decide_eq_true rfl]
    rfl⟩
theorem rt_get_no (aw : Asc w) (lw : w.length ≤ 1000) (nb : nameB w = false) (h : Hv) : ∃ j g, m_require_tasks [tskW [[.tup [.str "get", .str w]]]] h = .exc "c" (some j) g ∧ g[j]? = some (.xd [("place", .tup [.int 0, .int 0])]) ∧ Ext h g := by
  let x : W := .tup [.str "get", .str w]
  let T : List (List W) := [[x]]
  obtain ⟨a, b, e⟩ := rt_head (T := T) (by show (1 : Nat) ≤ 1; decide) (by show (1 : Nat) ≤ 6; decide) (fun s hs => by rw [List.mem_singleton] at hs; subst hs; show (1 : Nat) ≤ 20; decide) h
  have ei := isstep_eq (k := "get") (items := [.str w]) (kinds := ["name"]) 1 (by kernel_rfl) rfl (fun z hz => by
    rw [show ([W.str w].zip [("name" : Str)]) = [((W.str w, "name") : W × Str)] from rfl, List.mem_singleton] at hz
    subst hz
    exact .name aw lw) (by show (1 : Nat) ≤ 10; decide) h
  have sb : stepBs [.str w] ["name"] 1 = [false] := by
    show [decide (("name" : Str) = "name") && nameB w] = _
    rw [nb, Bool.and_false]
  rw [sb] at ei
  have ei : m_is_step [x, .int 1] h = .val (.bl false) (h ++ [.lst [.bl false]]) := ei
  let g := h ++ [O.lst [.bl false]]
  let g' := g ++ [O.xd [("place", .tup [.int 0, .int 0])]]
  let E : Ws := rtE T (some (.int 0)) (some (.tup [x])) (some (.int 0)) (some x)
  have lt : (mB mLen (mCons (mVar 0) mNil)) E h = .val (.int 1) h := rfl
  have ra : (mRaise "c" "place" (mCons (mTup (mCons (mVar 1) (mCons (mVar 3) mNil))) mNil)) E g = .exc "c" (some g.length) E g' := rfl
  have b2 : rtB2 E h = .exc "c" (some g.length) E g' := by
    unfold rtB2
    rw [mIfS_eq, mNotT_eq, mT_eq, mCall_eq, mCons_eq, show mVar 4 E h = .val x h from rfl, bind_val, mCons_eq, lt, bind_val, mNil_eq, bind_val, bind_val, bind_val, if_pos (by rfl), ei, bind_val, asB_bl, bind_val, andS_val, if_pos (by decide)]
    exact ra
  have f2 : (mFor (mEnT (mCons (mVar 2) mNil)) (mGs 2 (mGcons (mGn 3) (mGcons (mGn 4) mGnil))) rtB2) (rtE T (some (.int 0)) (some (.tup [x])) none none) h = .exc "c" (some g.length) E g' := by
    have src : (mEnT (mCons (mVar 2) mNil)) (rtE T (some (.int 0)) (some (.tup [x])) none none) h = .val ⟨2, nxEnT [x]⟩ h := rfl
    have gt : mGs 2 (mGcons (mGn 3) (mGcons (mGn 4) mGnil)) (.tup [.int ((0 : Nat) : Int), x]) (rtE T (some (.int 0)) (some (.tup [x])) none none) h = .nx E h := rfl
    unfold mFor
    rw [src, andS_val]
    unfold VL.forM
    simp only [nxEnT, List.getElem?_cons_zero, gt, b2]
  have f1 : (mFor (mEnT (mCons (mVar 0) mNil)) (mGs 2 (mGcons (mGn 1) (mGcons (mGn 2) mGnil))) (mFor (mEnT (mCons (mVar 2) mNil)) (mGs 2 (mGcons (mGn 3) (mGcons (mGn 4) mGnil))) rtB2)) (rtE T a b none none) h = .exc "c" (some g.length) E g' := by
    have src : (mEnT (mCons (mVar 0) mNil)) (rtE T a b none none) h = .val ⟨2, nxEnT [.tup [x]]⟩ h := rfl
    have gt : mGs 2 (mGcons (mGn 1) (mGcons (mGn 2) mGnil)) (.tup [.int ((0 : Nat) : Int), .tup [x]]) (rtE T a b none none) h = .nx (rtE T (some (.int 0)) (some (.tup [x])) none none) h := rfl
    show (Res.andS ((mEnT (mCons (mVar 0) mNil)) (rtE T a b none none) h) _ _) = _
    rw [src, andS_val]
    unfold VL.forM
    simp only [nxEnT, List.getElem?_cons_zero, gt, f2]
  rw [f1, endS_exc] at e
  exact ⟨_, _, e, get_last, (Ext.more _ _).trans (Ext.more _ _)⟩
theorem initP_get {c : W} (aw : Asc w) (lw : w.length ≤ 1000) (nb : nameB w = false) : ∃ j g, m_Program_init [.ref q, tskW [[.tup [.str "get", .str w]]], c] h = .exc "c" (some j) g ∧ g[j]? = some (.xd [("place", .tup [.int 0, .int 0])]) ∧ Ext h g := by
  obtain ⟨j, g, e, e1, x⟩ := rt_get_no aw lw nb h
  let T : List (List W) := [[.tup [.str "get", .str w]]]
  have st : startW ["self", "tasks", "capacities", "given", "queue"] [.ref q, tskW T, c] = [some (.ref q), some (tskW T), some c, none, none] := rfl
  let E0 : Ws := [some (.ref q), some (tskW T), some c, none, none]
  refine ⟨j, g, ?_, e1, x⟩
  unfold m_Program_init
  rw [mDef_eq, st, mSeq_eq, mExpr_eq, mCall_eq, mCons_eq, show mVar 1 E0 h = .val (tskW T) h from rfl, bind_val, mNil_eq, bind_val, bind_val, if_pos (by rfl), e, andS_exc, thenS_exc, endS_exc]
end PL
end
section
namespace K08
open PySem L2 VL LD PL
def top (i : Nat) : Stmt := PySem.Challenge.pw_whatiftimes_k08_names_and_capacities.main.body.getD i (.Pass ⟨0, 0, 0, 0⟩)
structure Cs where
  InvalidSetting : Addr
  UnknownName : Addr
  InvalidProgram : Addr
  Program : Addr
  Setting : Addr

def gm_Program_1 : List W → List W → List W := fun ws zs => ws ++ (([.non] : List W).drop 0 ++ (([] : List W) ++ zs))
def gm_Program_2 : List W → List W → List W := fun ws zs => ws ++ (([.non] : List W).drop 1 ++ (([] : List W) ++ zs))
def gm_Setting_0 : List W → List W → List W := fun ws zs => ws ++ (([.non] : List W).drop 0 ++ (([.str "turn"] : List W) ++ zs))
def gm_Setting_1 : List W → List W → List W := fun ws zs => ws ++ (([.non] : List W).drop 1 ++ (([.str "turn"] : List W) ++ zs))
abbrev s_is_whole : Stmt := top 9
theorem sc_is_whole : FnScope ["value"] ["value"] (defScope s_is_whole) := ⟨rfl, rfl, rfl, by decide +kernel, rfl, by decide +kernel, by decide +kernel⟩
abbrev s_is_name : Stmt := top 11
theorem sc_is_name : FnScope ["value"] ["value"] (defScope s_is_name) := ⟨rfl, rfl, rfl, by decide +kernel, rfl, by decide +kernel, by decide +kernel⟩
abbrev s_require_name : Stmt := top 12
theorem sc_require_name : FnScope ["value"] ["value"] (defScope s_require_name) := ⟨rfl, rfl, rfl, by decide +kernel, rfl, by decide +kernel, by decide +kernel⟩
abbrev s_form_of : Stmt := top 21
theorem sc_form_of : FnScope ["word"] ["word"] (defScope s_form_of) := ⟨rfl, rfl, rfl, by decide +kernel, rfl, by decide +kernel, by decide +kernel⟩
abbrev s_is_item : Stmt := top 22
theorem sc_is_item : FnScope ["item", "kind", "tasks", "low", "high"] ["item", "kind", "tasks"] (defScope s_is_item) := ⟨rfl, rfl, rfl, by decide +kernel, rfl, by decide +kernel, by decide +kernel⟩
abbrev s_is_step : Stmt := top 20
theorem sc_is_step : FnScope ["value", "tasks", "form", "item", "kind"] ["value", "tasks"] (defScope s_is_step) := ⟨rfl, rfl, rfl, by decide +kernel, rfl, by decide +kernel, by decide +kernel⟩
abbrev s_require_tasks : Stmt := top 33
theorem sc_require_tasks : FnScope ["tasks", "number", "task", "index", "step"] ["tasks"] (defScope s_require_tasks) := ⟨rfl, rfl, rfl, by decide +kernel, rfl, by decide +kernel, by decide +kernel⟩
abbrev s_is_capacity : Stmt := top 34
theorem sc_is_capacity : FnScope ["value"] ["value"] (defScope s_is_capacity) := ⟨rfl, rfl, rfl, by decide +kernel, rfl, by decide +kernel, by decide +kernel⟩
abbrev s_require_capacities : Stmt := top 35
theorem sc_require_capacities : FnScope ["capacities", "queue", "capacity"] ["capacities"] (defScope s_require_capacities) := ⟨rfl, rfl, rfl, by decide +kernel, rfl, by decide +kernel, by decide +kernel⟩
abbrev s_Program_init : Stmt := inClass (top 37) 0
theorem sc_Program_init : FnScope ["self", "tasks", "capacities", "given", "queue"] ["self", "tasks", "capacities"] (defScope s_Program_init) := ⟨rfl, rfl, rfl, by decide +kernel, rfl, by decide +kernel, by decide +kernel⟩
abbrev s_Program_tasks : Stmt := inClass (top 37) 2
theorem sc_Program_tasks : FnScope ["self"] ["self"] (defScope s_Program_tasks) := ⟨rfl, rfl, rfl, by decide +kernel, rfl, by decide +kernel, by decide +kernel⟩
abbrev s_Program_capacity : Stmt := inClass (top 37) 6
theorem sc_Program_capacity : FnScope ["self", "queue"] ["self", "queue"] (defScope s_Program_capacity) := ⟨rfl, rfl, rfl, by decide +kernel, rfl, by decide +kernel, by decide +kernel⟩
abbrev s_is_pace : Stmt := top 41
theorem sc_is_pace : FnScope ["value"] ["value"] (defScope s_is_pace) := ⟨rfl, rfl, rfl, by decide +kernel, rfl, by decide +kernel, by decide +kernel⟩
abbrev s_are_paces : Stmt := top 42
theorem sc_are_paces : FnScope ["value", "part", "pace"] ["value"] (defScope s_are_paces) := ⟨rfl, rfl, rfl, by decide +kernel, rfl, by decide +kernel, by decide +kernel⟩
abbrev s_Setting_init : Stmt := inClass (top 43) 0
theorem sc_Setting_init : FnScope ["self", "slownesses", "rule", "given", "part"] ["self", "slownesses", "rule"] (defScope s_Setting_init) := ⟨rfl, rfl, rfl, by decide +kernel, rfl, by decide +kernel, by decide +kernel⟩
abbrev s_Setting_slowness : Stmt := inClass (top 43) 3
theorem sc_Setting_slowness : FnScope ["self", "part"] ["self", "part"] (defScope s_Setting_slowness) := ⟨rfl, rfl, rfl, by decide +kernel, rfl, by decide +kernel, by decide +kernel⟩
abbrev s__law_numbers : Stmt := top 45
theorem sc__law_numbers : FnScope ["_law_cell", "_law_salt", "_law_sizes", "_law_whole", "_law_left", "_law_result", "_law_k", "_law_one"] ["_law_cell", "_law_salt", "_law_sizes"] (defScope s__law_numbers) := ⟨rfl, rfl, rfl, by decide +kernel, rfl, by decide +kernel, by decide +kernel⟩
abbrev s__law_draw : Stmt := top 46
theorem sc__law_draw : FnScope ["_law_state", "_law_many", "_law_at"] ["_law_state", "_law_many"] (defScope s__law_draw) := ⟨rfl, rfl, rfl, by decide +kernel, rfl, by decide +kernel, by decide +kernel⟩
abbrev s__law_is_name : Stmt := top 47
theorem sc__law_is_name : FnScope ["_law_value", "_law_sign"] ["_law_value"] (defScope s__law_is_name) := ⟨rfl, rfl, rfl, by decide +kernel, rfl, by decide +kernel, by decide +kernel⟩
def m__law_is_name : MFn := mDef ["_law_value", "_law_sign"] ((mSeq (mIfS (mOrT (mNotT (mT (mB mIsi (mCons (mVar 0) (mCons (mC (.ty "str")) mNil))))) (mNotT (mT (mChain mLe mLe (mC (.int 1)) (mB mLen (mCons (mVar 0) mNil)) (mC (.int 8)))))) (mRet (mC (.bl false))) mNext)
    (mRet (m2 (mEq false) (mLc (mSrcS (mVar 0)) 1 (mT (m2 (mInSg true) (mVar 1) (mC (.str ("abcdefghijklmnopqrstuvwxyz" : Str))))) (mVar 1)) (mLst mNil)))))
abbrev s__law_is_whole : Stmt := top 48
theorem sc__law_is_whole : FnScope ["_law_value", "_law_least", "_law_most"] ["_law_value", "_law_least", "_law_most"] (defScope s__law_is_whole) := ⟨rfl, rfl, rfl, by decide +kernel, rfl, by decide +kernel, by decide +kernel⟩
def m__law_is_whole : MFn := mDef ["_law_value", "_law_least", "_law_most"] ((mRet (mAndV (mB mIsi (mCons (mVar 0) (mCons (mC (.ty "int")) mNil))) (mAndV (mNotV (mB mIsi (mCons (mVar 0) (mCons (mC (.ty "bool")) mNil)))) (mChain mLe mLe (mVar 1) (mVar 0) (mVar 2))))))
abbrev s__law_word : Stmt := top 50
theorem sc__law_word : FnScope ["_law_state", "_law_signs", "_law_word_here", "_law_turn", "_law_odd", "_law_at"] ["_law_state"] (defScope s__law_word) := ⟨rfl, rfl, rfl, by decide +kernel, rfl, by decide +kernel, by decide +kernel⟩
def m__law_word : MFn := mDef ["_law_state", "_law_signs", "_law_word_here", "_law_turn", "_law_odd", "_law_at"] ((mSeq (mSet 1 (mC (.str ("abcdefghijklmnopqrstuvwxyz" : Str))))
    (mSeq (mSet 2 (mM1 mJn (mC (.str ("" : Str))) (mLc (mRng (mCons (m2 mAdd (mC (.int 1)) (mCall 2 m__law_draw (mCons (mVar 0) (mCons (mC (.int 8)) mNil)))) mNil)) 3 mYes (m2 mIx (mVar 1) (mCall 2 m__law_draw (mCons (mVar 0) (mCons (mC (.int 26)) mNil)))))))
    (mSeq (mSet 4 (m2 mIx (mLst (mCons (mC (.str ("A" : Str))) (mCons (mC (.str ("1" : Str))) (mCons (mC (.str (" " : Str))) (mCons (mC (.str ("_" : Str))) (mCons (mC (.str ("9" : Str))) (mCons (mC (.str ("\n" : Str))) (mCons (mC (.str ("abcdefgh" : Str))) (mCons (mC (.str ("" : Str))) mNil))))))))) (mCall 2 m__law_draw (mCons (mVar 0) (mCons (mC (.int 8)) mNil)))))
    (mSeq (mSet 5 (mCall 2 m__law_draw (mCons (mVar 0) (mCons (m2 mAdd (mB mLen (mCons (mVar 2) mNil)) (mC (.int 1))) mNil))))
    (mRet (m2 mIx (mLst (mCons (mVar 2) (mCons (mVar 2) (mCons (m2 mAdd (m2 mAdd (mSlS (mVar 2) (mPart none) (mPart (some (mVar 5)))) (mVar 4)) (mSlS (mVar 2) (mPart (some (mVar 5))) (mPart none))) (mCons (mVar 4) mNil))))) (mCall 2 m__law_draw (mCons (mVar 0) (mCons (mC (.int 4)) mNil))))))))))
abbrev s__law_heard : Stmt := top 51
def suA_heard0 (ad : Addr) (j : Nat) : Ws → Hv → Res W := (mLst (mCons (mC (.str ("unknown" : Str))) (mCons (mB mReprF (mCons (mXfA 1 ad j "name") mNil)) (mCons (mAndV (mIsxA 1 ad j true) (mNotV (mIsxA 1 ad j false))) mNil))))
def su0_heard0 (j : Nat) : Ws → Hv → Res W := (mLst (mCons (mC (.str ("unknown" : Str))) (mCons (mB mReprF (mCons (mXf j "name") mNil)) (mCons (mAndV (mIsx j true) (mNotV (mIsx j false))) mNil))))
def su_heard0 (j : Nat) : MS := mRet (su0_heard0 j)
def cl_heard0 (c : Cs) : Cl := ⟨.ref c.UnknownName, fun v => v = .ref c.UnknownName, fun ad j => mRet (suA_heard0 ad j)⟩
def suA_heard1 (ad : Addr) (j : Nat) : Ws → Hv → Res W := (mLst (mCons (mC (.str ("program" : Str))) (mCons (mB mReprF (mCons (mXfA 1 ad j "place") mNil)) mNil)))
def su0_heard1 (j : Nat) : Ws → Hv → Res W := (mLst (mCons (mC (.str ("program" : Str))) (mCons (mB mReprF (mCons (mXf j "place") mNil)) mNil)))
def su_heard1 (j : Nat) : MS := mRet (su0_heard1 j)
def cl_heard1 (c : Cs) : Cl := ⟨.ref c.InvalidProgram, fun v => v = .ref c.InvalidProgram, fun ad j => mRet (suA_heard1 ad j)⟩
def suA_heard2 (ad : Addr) (j : Nat) : Ws → Hv → Res W := (mLst (mCons (mC (.str ("setting" : Str))) (mCons (mB mReprF (mCons (mXfA 1 ad j "value") mNil)) mNil)))
def su0_heard2 (j : Nat) : Ws → Hv → Res W := (mLst (mCons (mC (.str ("setting" : Str))) (mCons (mB mReprF (mCons (mXf j "value") mNil)) mNil)))
def su_heard2 (j : Nat) : MS := mRet (su0_heard2 j)
def cl_heard2 (c : Cs) : Cl := ⟨.ref c.InvalidSetting, fun v => v = .ref c.InvalidSetting, fun ad j => mRet (suA_heard2 ad j)⟩
theorem sc__law_heard : FnScope ["_law_call", "e"] ["_law_call"] (defScope s__law_heard) := ⟨rfl, rfl, rfl, by decide +kernel, rfl, by decide +kernel, by decide +kernel⟩
def sel_heard : String → Option (Nat → MS) := fun c => if c = "b" then some su_heard0 else if c = "c" then some su_heard1 else if c = "a" then some su_heard2 else none
abbrev s__law_word_right : Stmt := top 52
theorem sc__law_word_right : FnScope ["_law_word_here", "_law_many", "_law_good", "_law_empty", "_law_due", "_law_told", "_law_made", "_law_room", "_law_slow", "_law_fits"] ["_law_word_here", "_law_many"] (defScope s__law_word_right) := ⟨rfl, rfl, rfl, by decide +kernel, rfl, by decide +kernel, by decide +kernel⟩
def m__law_word_right : MFn := mDef ["_law_word_here", "_law_many", "_law_good", "_law_empty", "_law_due", "_law_told", "_law_made", "_law_room", "_law_slow", "_law_fits"] ((mSeq (mAsg (mTup (mCons (mCall 1 m__law_is_name (mCons (mVar 0) mNil)) (mCons (mMakeF "P" 1 ([] : List Str).length m_Program_init gm_Program_1 (mCons (mTup (mCons (mTup mNil) mNil)) mNil) mNil) mNil))) (mGs 2 (mGcons (mGn 2) (mGcons (mGn 3) mGnil))))
    (mSeq (mSet 4 (mLst (mCons (mC (.str ("unknown" : Str))) (mCons (mB mReprF (mCons (mVar 0) mNil)) (mCons (mC (.bl true)) mNil)))))
    (mSeq (mSet 5 (mLst (mCons (mHeardM sel_heard (mMeth "P" "capacity" 1 m_Program_capacity (mVar 3) (mCons (mVar 0) mNil))) mNil)))
    (mSeq (mExpr (mApp (mVar 5) (mHeardM sel_heard (mMeth "S" "slowness" 1 m_Setting_slowness (mMakeF "S" 0 ([] : List Str).length m_Setting_init gm_Setting_0 mNil mNil) (mCons (mVar 0) mNil)))))
    (mSeq (mIfS (mT (m2 (mEq true) (mVar 5) (mIf (mT (mVar 2)) (mLst (mCons (mC (.int 1)) (mCons (mC (.int 1)) mNil))) (mLst (mCons (mVar 4) (mCons (mVar 4) mNil)))))) (mRet (mC (.bl false))) mNext)
    (mSeq (mSet 6 (mHeardM sel_heard (mProp "P" m_Program_tasks (mMakeF "P" 1 ([] : List Str).length m_Program_init gm_Program_1 (mCons (mTup (mCons (mTup (mCons (mTup (mCons (mC (.str ("get" : Str))) (mCons (mVar 0) mNil))) mNil)) mNil)) mNil) mNil))))
    (mSeq (mIfS (mT (m2 (mEq true) (mVar 6) (mIf (mT (mVar 2)) (mTup (mCons (mTup (mCons (mTup (mCons (mC (.str ("get" : Str))) (mCons (mVar 0) mNil))) mNil)) mNil)) (mLst (mCons (mC (.str ("program" : Str))) (mCons (mC (.str ("(0, 0)" : Str))) mNil)))))) (mRet (mC (.bl false))) mNext)
    (mSeq (mAsg (mTup (mCons (mDisp [((mVar 0), (mVar 1))]) (mCons (mDisp [((mVar 0), (mVar 1))]) mNil))) (mGs 2 (mGcons (mGn 7) (mGcons (mGn 8) mGnil))))
    (mSeq (mSet 9 (mAndV (mVar 2) (mCall 3 m__law_is_whole (mCons (mVar 1) (mCons (mC (.int 1)) (mCons (mC (.int 9)) mNil))))))
    (mSeq (mIfS (mT (m2 (mEq true) (mHeardM sel_heard (mMeth "P" "capacity" 1 m_Program_capacity (mMakeF "P" 2 ([] : List Str).length m_Program_init gm_Program_2 (mCons (mTup (mCons (mTup mNil) mNil)) (mCons (mVar 7) mNil)) mNil) (mCons (mVar 0) mNil))) (mIf (mT (mVar 9)) (mVar 1) (mLst (mCons (mC (.str ("program" : Str))) (mCons (mC (.str ("'capacities'" : Str))) mNil)))))) (mRet (mC (.bl false))) mNext)
    (mSeq (mSet 9 (mAndV (mVar 2) (mCall 3 m__law_is_whole (mCons (mVar 1) (mCons (mC (.int 0)) (mCons (m2 mPow (mC (.int 10)) (mC (.int 6))) mNil))))))
    (mRet (m2 (mEq false) (mHeardM sel_heard (mMeth "S" "slowness" 1 m_Setting_slowness (mMakeF "S" 1 ([] : List Str).length m_Setting_init gm_Setting_1 (mCons (mVar 8) mNil) mNil) (mCons (mVar 0) mNil))) (mIf (mT (mVar 9)) (mVar 1) (mLst (mCons (mC (.str ("setting" : Str))) (mCons (mB mReprF (mCons (mVar 8) mNil)) mNil))))))))))))))))))
abbrev s_law : Stmt := top 53
theorem sc_law : FnScope ["_law_script", "_law_k", "_law_cell", "_law_state", "_law_turn", "_law_many", "_law_odd"] ["_law_script"] (defScope s_law) := ⟨rfl, rfl, rfl, by decide +kernel, rfl, by decide +kernel, by decide +kernel⟩
def lBody : MS := (mSeq (mSet 3 (mLst (mCons (mCall 3 m__law_numbers (mCons (mVar 2) (mCons (m2 mAdd (mC (.int 800)) (mVar 1)) (mCons (m2 mMul (mLst (mCons (mC (.int 420)) mNil)) (mC (.int 200))) mNil)))) (mCons (mC (.int 0)) mNil))))
    (mFor (mRng (mCons (mC (.int 8)) mNil)) (mGn 4) (mSeq (mSet 5 (m2 mIx (mLst (mCons (mC (.int 0)) (mCons (mC (.int 1)) (mCons (mC (.int 9)) (mCons (mC (.int 10)) (mCons (mCall 2 m__law_draw (mCons (mVar 3) (mCons (mC (.int 12)) mNil))) (mCons (m1 mNeg (mC (.int 1))) (mCons (m2 mPow (mC (.int 10)) (mC (.int 6))) (mCons (m2 mAdd (m2 mPow (mC (.int 10)) (mC (.int 6))) (mC (.int 1))) (mCons (mC (.bl true)) (mCons (mC .non) mNil))))))))))) (mCall 2 m__law_draw (mCons (mVar 3) (mCons (mC (.int 10)) mNil)))))
    (mIfS (mNotT (mT (mCall 2 m__law_word_right (mCons (mCall 1 m__law_word (mCons (mVar 3) mNil)) (mCons (mVar 5) mNil))))) (mRet (mC (.bl false))) mNext))))
def lTail : MS := (mSeq (mFor (mSrc (mLst (mCons (mC .non) (mCons (mC (.int 5)) (mCons (mC (.bl true)) (mCons (mTup (mCons (mC (.str ("p" : Str))) mNil)) (mCons (mLst (mCons (mC (.str ("p" : Str))) mNil)) (mCons (fun _ h => mNew (.dic []) h) mNil)))))))) (mGn 6) (mSeq (mIfS (mT (m2 (mEq true) (mHeardM sel_heard (mMeth "P" "capacity" 1 m_Program_capacity (mMakeF "P" 1 ([] : List Str).length m_Program_init gm_Program_1 (mCons (mTup (mCons (mTup mNil) mNil)) mNil) mNil) (mCons (mVar 6) mNil))) (mLst (mCons (mC (.str ("unknown" : Str))) (mCons (mB mReprF (mCons (mVar 6) mNil)) (mCons (mC (.bl true)) mNil)))))) (mRet (mC (.bl false))) mNext)
    (mIfS (mT (m2 (mEq true) (mHeardM sel_heard (mMeth "S" "slowness" 1 m_Setting_slowness (mMakeF "S" 0 ([] : List Str).length m_Setting_init gm_Setting_0 mNil mNil) (mCons (mVar 6) mNil))) (mLst (mCons (mC (.str ("unknown" : Str))) (mCons (mB mReprF (mCons (mVar 6) mNil)) (mCons (mC (.bl true)) mNil)))))) (mRet (mC (.bl false))) mNext)))
    (mRet (mC (.bl true))))
def m_law : MFn := mDef ["_law_script", "_law_k", "_law_cell", "_law_state", "_law_turn", "_law_many", "_law_odd"] ((mSeq (mFor (mEnum (mCons (m2 mAdd (mSl (mVar 0) (mPart none) (mPart (some (mC (.int 5))))) (m2 mMul (mLst (mCons (mC (.int 7)) mNil)) (mB mInt (mCons (m2 (mEq false) (mVar 0) (mLst mNil)) mNil)))) mNil)) (mGs 2 (mGcons (mGn 1) (mGcons (mGn 2) mGnil))) (mLocal [1, 2] lBody))
    (mLocal [] lTail)))
structure Gx (P : Program) (w : World) (K : PySem.W.Frag) (mg : Str → Option Value) (base : Heap) where
  c : Cs
  f_is_whole : Addr
  d_is_whole : FuncData
  F_is_whole : Fun K "is_whole" "is_whole" s_is_whole f_is_whole d_is_whole
  g_is_whole : mg "is_whole" = some (.ref f_is_whole)
  n_is_whole : Binds K d_is_whole ["value"] []
  k_is_whole : PySem.W.keepIn K (.ref f_is_whole) = true
  f_is_name : Addr
  d_is_name : FuncData
  F_is_name : Fun K "is_name" "is_name" s_is_name f_is_name d_is_name
  g_is_name : mg "is_name" = some (.ref f_is_name)
  n_is_name : Binds K d_is_name ["value"] []
  k_is_name : PySem.W.keepIn K (.ref f_is_name) = true
  f_require_name : Addr
  d_require_name : FuncData
  F_require_name : Fun K "require_name" "require_name" s_require_name f_require_name d_require_name
  g_require_name : mg "require_name" = some (.ref f_require_name)
  n_require_name : Binds K d_require_name ["value"] []
  k_require_name : PySem.W.keepIn K (.ref f_require_name) = true
  f_form_of : Addr
  d_form_of : FuncData
  F_form_of : Fun K "form_of" "form_of" s_form_of f_form_of d_form_of
  g_form_of : mg "form_of" = some (.ref f_form_of)
  n_form_of : Binds K d_form_of ["word"] []
  k_form_of : PySem.W.keepIn K (.ref f_form_of) = true
  f_is_item : Addr
  d_is_item : FuncData
  F_is_item : Fun K "is_item" "is_item" s_is_item f_is_item d_is_item
  g_is_item : mg "is_item" = some (.ref f_is_item)
  n_is_item : Binds K d_is_item ["item", "kind", "tasks"] []
  k_is_item : PySem.W.keepIn K (.ref f_is_item) = true
  f_is_step : Addr
  d_is_step : FuncData
  F_is_step : Fun K "is_step" "is_step" s_is_step f_is_step d_is_step
  g_is_step : mg "is_step" = some (.ref f_is_step)
  n_is_step : Binds K d_is_step ["value", "tasks"] []
  k_is_step : PySem.W.keepIn K (.ref f_is_step) = true
  f_require_tasks : Addr
  d_require_tasks : FuncData
  F_require_tasks : Fun K "require_tasks" "require_tasks" s_require_tasks f_require_tasks d_require_tasks
  g_require_tasks : mg "require_tasks" = some (.ref f_require_tasks)
  n_require_tasks : Binds K d_require_tasks ["tasks"] []
  k_require_tasks : PySem.W.keepIn K (.ref f_require_tasks) = true
  f_is_capacity : Addr
  d_is_capacity : FuncData
  F_is_capacity : Fun K "is_capacity" "is_capacity" s_is_capacity f_is_capacity d_is_capacity
  g_is_capacity : mg "is_capacity" = some (.ref f_is_capacity)
  n_is_capacity : Binds K d_is_capacity ["value"] []
  k_is_capacity : PySem.W.keepIn K (.ref f_is_capacity) = true
  f_require_capacities : Addr
  d_require_capacities : FuncData
  F_require_capacities : Fun K "require_capacities" "require_capacities" s_require_capacities f_require_capacities d_require_capacities
  g_require_capacities : mg "require_capacities" = some (.ref f_require_capacities)
  n_require_capacities : Binds K d_require_capacities ["capacities"] []
  k_require_capacities : PySem.W.keepIn K (.ref f_require_capacities) = true
  f_Program_init : Addr
  d_Program_init : FuncData
  F_Program_init : FunD K "__init__" "Program.__init__" (defArgs s_Program_init) (defBody s_Program_init) (defScope s_Program_init) [.non] [] f_Program_init d_Program_init
  kb_Program_1 : KbF K d_Program_init ["self", "tasks", "capacities"] 1 [] 2 gm_Program_1
  kb_Program_2 : KbF K d_Program_init ["self", "tasks", "capacities"] 2 [] 2 gm_Program_2
  k_Program_init : PySem.W.keepIn K (.ref f_Program_init) = true
  f_Program_tasks : Addr
  d_Program_tasks : FuncData
  F_Program_tasks : Fun K "tasks" "Program.tasks" s_Program_tasks f_Program_tasks d_Program_tasks
  n_Program_tasks : Binds K d_Program_tasks ["self"] []
  k_Program_tasks : PySem.W.keepIn K (.ref f_Program_tasks) = true
  f_Program_capacity : Addr
  d_Program_capacity : FuncData
  F_Program_capacity : Fun K "capacity" "Program.capacity" s_Program_capacity f_Program_capacity d_Program_capacity
  n_Program_capacity : Binds K d_Program_capacity ["self", "queue"] []
  k_Program_capacity : PySem.W.keepIn K (.ref f_Program_capacity) = true
  f_is_pace : Addr
  d_is_pace : FuncData
  F_is_pace : Fun K "is_pace" "is_pace" s_is_pace f_is_pace d_is_pace
  g_is_pace : mg "is_pace" = some (.ref f_is_pace)
  n_is_pace : Binds K d_is_pace ["value"] []
  k_is_pace : PySem.W.keepIn K (.ref f_is_pace) = true
  f_are_paces : Addr
  d_are_paces : FuncData
  F_are_paces : Fun K "are_paces" "are_paces" s_are_paces f_are_paces d_are_paces
  g_are_paces : mg "are_paces" = some (.ref f_are_paces)
  n_are_paces : Binds K d_are_paces ["value"] []
  k_are_paces : PySem.W.keepIn K (.ref f_are_paces) = true
  f_Setting_init : Addr
  d_Setting_init : FuncData
  F_Setting_init : FunD K "__init__" "Setting.__init__" (defArgs s_Setting_init) (defBody s_Setting_init) (defScope s_Setting_init) [.non] [("rule", .str "turn")] f_Setting_init d_Setting_init
  kb_Setting_0 : KbF K d_Setting_init ["self", "slownesses", "rule"] 0 [] 2 gm_Setting_0
  kb_Setting_1 : KbF K d_Setting_init ["self", "slownesses", "rule"] 1 [] 2 gm_Setting_1
  k_Setting_init : PySem.W.keepIn K (.ref f_Setting_init) = true
  f_Setting_slowness : Addr
  d_Setting_slowness : FuncData
  F_Setting_slowness : Fun K "slowness" "Setting.slowness" s_Setting_slowness f_Setting_slowness d_Setting_slowness
  n_Setting_slowness : Binds K d_Setting_slowness ["self", "part"] []
  k_Setting_slowness : PySem.W.keepIn K (.ref f_Setting_slowness) = true
  f__law_numbers : Addr
  d__law_numbers : FuncData
  F__law_numbers : Fun K "_law_numbers" "_law_numbers" s__law_numbers f__law_numbers d__law_numbers
  g__law_numbers : mg "_law_numbers" = some (.ref f__law_numbers)
  n__law_numbers : Binds K d__law_numbers ["_law_cell", "_law_salt", "_law_sizes"] []
  k__law_numbers : PySem.W.keepIn K (.ref f__law_numbers) = true
  f__law_draw : Addr
  d__law_draw : FuncData
  F__law_draw : Fun K "_law_draw" "_law_draw" s__law_draw f__law_draw d__law_draw
  g__law_draw : mg "_law_draw" = some (.ref f__law_draw)
  n__law_draw : Binds K d__law_draw ["_law_state", "_law_many"] []
  k__law_draw : PySem.W.keepIn K (.ref f__law_draw) = true
  f__law_is_name : Addr
  d__law_is_name : FuncData
  F__law_is_name : Fun K "_law_is_name" "_law_is_name" s__law_is_name f__law_is_name d__law_is_name
  g__law_is_name : mg "_law_is_name" = some (.ref f__law_is_name)
  n__law_is_name : Binds K d__law_is_name ["_law_value"] []
  k__law_is_name : PySem.W.keepIn K (.ref f__law_is_name) = true
  f__law_is_whole : Addr
  d__law_is_whole : FuncData
  F__law_is_whole : Fun K "_law_is_whole" "_law_is_whole" s__law_is_whole f__law_is_whole d__law_is_whole
  g__law_is_whole : mg "_law_is_whole" = some (.ref f__law_is_whole)
  n__law_is_whole : Binds K d__law_is_whole ["_law_value", "_law_least", "_law_most"] []
  k__law_is_whole : PySem.W.keepIn K (.ref f__law_is_whole) = true
  f__law_word : Addr
  d__law_word : FuncData
  F__law_word : Fun K "_law_word" "_law_word" s__law_word f__law_word d__law_word
  g__law_word : mg "_law_word" = some (.ref f__law_word)
  n__law_word : Binds K d__law_word ["_law_state"] []
  k__law_word : PySem.W.keepIn K (.ref f__law_word) = true
  f__law_heard : Addr
  d__law_heard : FuncData
  F__law_heard : Fun K "_law_heard" "_law_heard" s__law_heard f__law_heard d__law_heard
  g__law_heard : mg "_law_heard" = some (.ref f__law_heard)
  n__law_heard : Binds K d__law_heard ["_law_call"] []
  k__law_heard : PySem.W.keepIn K (.ref f__law_heard) = true
  f__law_word_right : Addr
  d__law_word_right : FuncData
  F__law_word_right : Fun K "_law_word_right" "_law_word_right" s__law_word_right f__law_word_right d__law_word_right
  g__law_word_right : mg "_law_word_right" = some (.ref f__law_word_right)
  n__law_word_right : Binds K d__law_word_right ["_law_word_here", "_law_many"] []
  k__law_word_right : PySem.W.keepIn K (.ref f__law_word_right) = true
  f_law : Addr
  d_law : FuncData
  F_law : Fun K "law" "law" s_law f_law d_law
  g_law : mg "law" = some (.ref f_law)
  n_law : Binds K d_law ["_law_script"] []
  k_law : PySem.W.keepIn K (.ref f_law) = true
  b_KeyError : mg "KeyError" = none
  b_all : mg "all" = none
  b_bool : mg "bool" = none
  b_dict : mg "dict" = none
  b_enumerate : mg "enumerate" = none
  b_int : mg "int" = none
  b_isinstance : mg "isinstance" = none
  b_len : mg "len" = none
  b_max : mg "max" = none
  b_range : mg "range" = none
  b_repr : mg "repr" = none
  b_str : mg "str" = none
  b_tuple : mg "tuple" = none
  b_zip : mg "zip" = none
  za_RULES : Addr
  zm_RULES : mg "RULES" = some (.ref za_RULES)
  zk_RULES : KT K za_RULES [.str "turn", .str "number"]
  za_FORMS : Addr
  zm_FORMS : mg "FORMS" = some (.ref za_FORMS)
  kd_FORMS : KTab K w za_FORMS tab_FORMS
  za_LIMITS : Addr
  zm_LIMITS : mg "LIMITS" = some (.ref za_LIMITS)
  kd_LIMITS : KTab K w za_LIMITS tab_LIMITS
  zt_MOST_SLOWNESS : Tok
  zm_MOST_SLOWNESS : mg "MOST_SLOWNESS" = some (.int 1000000 zt_MOST_SLOWNESS)
  zt_MOST_TASKS : Tok
  zm_MOST_TASKS : mg "MOST_TASKS" = some (.int 6 zt_MOST_TASKS)
  zt_MOST_STEPS : Tok
  zm_MOST_STEPS : mg "MOST_STEPS" = some (.int 20 zt_MOST_STEPS)
  e_InvalidSetting : ErrH P w K mg base "InvalidSetting" "value" c.InvalidSetting
  xf_InvalidSetting : XfC K c.InvalidSetting
  no_InvalidSetting : PySem.W.findIn K (.ref c.InvalidSetting) "value" = some none
  xc_InvalidSetting : ExcC K c.InvalidSetting
  te_InvalidSetting : PySem.W.exmOne K (.ref c.InvalidSetting) (.ref c.InvalidSetting) = some true
  e_UnknownName : ErrH P w K mg base "UnknownName" "name" c.UnknownName
  xf_UnknownName : XfC K c.UnknownName
  no_UnknownName : PySem.W.findIn K (.ref c.UnknownName) "name" = some none
  xc_UnknownName : ExcC K c.UnknownName
  te_UnknownName : PySem.W.exmOne K (.ref c.UnknownName) (.ref c.UnknownName) = some true
  e_InvalidProgram : ErrH P w K mg base "InvalidProgram" "place" c.InvalidProgram
  xf_InvalidProgram : XfC K c.InvalidProgram
  no_InvalidProgram : PySem.W.findIn K (.ref c.InvalidProgram) "place" = some none
  xc_InvalidProgram : ExcC K c.InvalidProgram
  te_InvalidProgram : PySem.W.exmOne K (.ref c.InvalidProgram) (.ref c.InvalidProgram) = some true
  tn_InvalidProgram_UnknownName : PySem.W.exmOne K (.ref c.InvalidProgram) (.ref c.UnknownName) = some false
  tn_InvalidSetting_InvalidProgram : PySem.W.exmOne K (.ref c.InvalidSetting) (.ref c.InvalidProgram) = some false
  tn_InvalidSetting_UnknownName : PySem.W.exmOne K (.ref c.InvalidSetting) (.ref c.UnknownName) = some false
  mg_Program : mg "Program" = some (.ref c.Program)
  cls_Program : Cls K c.Program
  ic_Program : InsC K c.Program
  mkc_Program : Mk K c.Program f_Program_init
  kit_Program : PySem.W.kitOne K (.ref c.Program) (.ref c.Program) = some true
  kt_Program : ∀ t ∈ tyNs, PySem.W.kitOne K (.type t) (.ref c.Program) = some false
  nf_Program : ∀ t ∈ tyNs, PySem.W.notFirst K c.Program (.type t) = true
  nfs_Program : PySem.W.notFirst K c.Program (.ref c.Program) = true
  na_Program_plans : NoAttr K c.Program "plans"
  na_Program_rooms : NoAttr K c.Program "rooms"
  me_Program_capacity : Meth K c.Program "capacity" f_Program_capacity
  pa_Program_tasks : Addr
  pr_Program_tasks : PropOf K c.Program "tasks" pa_Program_tasks f_Program_tasks
  mg_Setting : mg "Setting" = some (.ref c.Setting)
  cls_Setting : Cls K c.Setting
  ic_Setting : InsC K c.Setting
  mkc_Setting : Mk K c.Setting f_Setting_init
  kit_Setting : PySem.W.kitOne K (.ref c.Setting) (.ref c.Setting) = some true
  kt_Setting : ∀ t ∈ tyNs, PySem.W.kitOne K (.type t) (.ref c.Setting) = some false
  nf_Setting : ∀ t ∈ tyNs, PySem.W.notFirst K c.Setting (.type t) = true
  nfs_Setting : PySem.W.notFirst K c.Setting (.ref c.Setting) = true
  na_Setting_paces : NoAttr K c.Setting "paces"
  na_Setting_order : NoAttr K c.Setting "order"
  me_Setting_slowness : Meth K c.Setting "slowness" f_Setting_slowness
  kTimesError : Addr
  m_TimesError : mg "TimesError" = some (.ref kTimesError)
  ki_UnknownName_KeyError : PySem.W.kitOne K (.ref c.UnknownName) (.type "KeyError") = some true
  ki_UnknownName_TimesError : PySem.W.kitOne K (.ref c.UnknownName) (.ref kTimesError) = some false
  cO_law_word_right : Addr
  pO_law_word_right : Addr
  FC_law_word_right : FunC K "_law_word_right" "_law_word_right" s__law_word_right f__law_word_right d__law_word_right (.ref cO_law_word_right)
  TB_law_word_right : LamX.TabB base mg cO_law_word_right pO_law_word_right
  cOlaw : Addr
  pOlaw : Addr
  FClaw : FunC K "law" "law" s_law f_law d_law (.ref cOlaw)
  TBlaw : LamX.TabB base mg cOlaw pOlaw
  ne_law_word_rightlaw : pO_law_word_right ≠ pOlaw
def lamq_law_word_right : Str := (PyProof.Rows.envOfC "_law_word_right" (defScope s__law_word_right) 0 0 .none).qual ++ "<lambda>"
def lamqlaw : Str := (PyProof.Rows.envOfC "law" (defScope s_law) 0 0 .none).qual ++ "<lambda>"
section
variable {P : Program} {w : World} {K : PySem.W.Frag}
  {mg : Str → Option Value} {base : Heap}
def cvOf (c : Cs) : String → Value := fun n => if n = "a" then .ref c.InvalidSetting else if n = "b" then .ref c.UnknownName else if n = "c" then .ref c.InvalidProgram else if n = "P" then .ref c.Program else if n = "S" then .ref c.Setting else .none
abbrev Gx.T (G : Gx P w K mg base) : Tx := Tx.plain K [(G.pO_law_word_right, lamq_law_word_right), (G.pOlaw, lamqlaw)] (cvOf G.c)

theorem Gx.v_InvalidSetting (G : Gx P w K mg base) : G.T.cv "a" = .ref G.c.InvalidSetting := by simp [Tx.plain, cvOf]
theorem Gx.v_UnknownName (G : Gx P w K mg base) : G.T.cv "b" = .ref G.c.UnknownName := by simp [Tx.plain, cvOf]
theorem Gx.v_InvalidProgram (G : Gx P w K mg base) : G.T.cv "c" = .ref G.c.InvalidProgram := by simp [Tx.plain, cvOf]
theorem Gx.v_Program (G : Gx P w K mg base) : G.T.cv "P" = .ref G.c.Program := by simp [Tx.plain, cvOf]
theorem Gx.hcs_Program (G : Gx P w K mg base) (e : String) (h : (["P"] : List String).contains e = true) : ∃ D, G.T.cv e = .ref D ∧ InsC K D ∧ PySem.W.notFirst K G.c.Program (.ref D) = true := by
  have h2 : e = "P" := by simpa using h
  subst h2
  exact ⟨_, G.v_Program, G.ic_Program, G.nfs_Program⟩
theorem Gx.iso_Program (G : Gx P w K mg base) (d : String) (b : Bool) (h : ([("P", true)] : List (String × Bool)).lookup d = some b) : ∃ D, G.T.cv d = .ref D ∧ InsC K D ∧ PySem.W.kitOne K (.ref D) (.ref G.c.Program) = some b := by
  rw [List.lookup_cons] at h
  cases q : d == "P" with
  | true =>
    rw [q] at h
    cases h
    rw [beq_iff_eq.mp q]
    exact ⟨_, G.v_Program, G.ic_Program, G.kit_Program⟩
  | false => rw [q] at h; cases h
theorem Gx.v_Setting (G : Gx P w K mg base) : G.T.cv "S" = .ref G.c.Setting := by simp [Tx.plain, cvOf]
theorem Gx.hcs_Setting (G : Gx P w K mg base) (e : String) (h : (["S"] : List String).contains e = true) : ∃ D, G.T.cv e = .ref D ∧ InsC K D ∧ PySem.W.notFirst K G.c.Setting (.ref D) = true := by
  have h2 : e = "S" := by simpa using h
  subst h2
  exact ⟨_, G.v_Setting, G.ic_Setting, G.nfs_Setting⟩
theorem Gx.iso_Setting (G : Gx P w K mg base) (d : String) (b : Bool) (h : ([("S", true)] : List (String × Bool)).lookup d = some b) : ∃ D, G.T.cv d = .ref D ∧ InsC K D ∧ PySem.W.kitOne K (.ref D) (.ref G.c.Setting) = some b := by
  rw [List.lookup_cons] at h
  cases q : d == "S" with
  | true =>
    rw [q] at h
    cases h
    rw [beq_iff_eq.mp q]
    exact ⟨_, G.v_Setting, G.ic_Setting, G.kit_Setting⟩
  | false => rw [q] at h; cases h
theorem ok_is_whole (G : Gx P w K mg base) : FnOk P w K mg base (L2.CX P w) 2 G.f_is_whole G.d_is_whole ["value"] (spV G.T 1 m_is_whole) := fn_def G.F_is_whole sc_is_whole (fun d9 cdv A outer s H E hr => by
  have hu := hr.units
  have S := sc_is_whole
  exact (sss_one (ss_ret (se_and (se_b call_isi rc_isi rfl G.b_isinstance (by decide +kernel) (sa_cons (se_var 0) (sa_cons (se_ty rfl G.b_int (by decide +kernel)) sa_nil))) (se_one (se_not (se_b call_isi rc_isi rfl G.b_isinstance (by decide +kernel) (sa_cons (se_var 0) (sa_cons (se_ty rfl G.b_bool (by decide +kernel)) sa_nil)))))))))
theorem ok_is_name (G : Gx P w K mg base) : FnOk P w K mg base (L2.CX P w) 2 G.f_is_name G.d_is_name ["value"] (spV G.T 1 m_is_name) := fn_def G.F_is_name sc_is_name (fun d9 cdv A outer s H E hr => by
  have hu := hr.units
  have S := sc_is_name
  exact (sss_cons (ss_if (st_w (sw_or (st_not (st_val (se_b call_isi rc_isi rfl G.b_isinstance (by decide +kernel) (sa_cons (se_var 0) (sa_cons (se_ty rfl G.b_str (by decide +kernel)) sa_nil))))) (sw_or1 (st_not (st_chain op_le op_le ro_le ro_le se_int (se_b call_len rc_len rfl G.b_len PySem.boot_len (sa_cons (se_var 0) sa_nil)) se_int))))) (sss_one (ss_ret se_bl)) sss_nil)
    (sss_one (ss_ret (se_and (se_ascii (se_var 0)) (se_and (se_alpha (se_var 0)) (se_one (se_lower (se_var 0)))))))))
theorem ok_require_name (G : Gx P w K mg base) : FnOk P w K mg base (L2.CX P w) 3 G.f_require_name G.d_require_name ["value"] (spV G.T 1 m_require_name) := fn_def G.F_require_name sc_require_name (fun d9 cdv A outer s H E hr => by
  have hu := hr.units
  have S := sc_require_name
  exact (sss_one (ss_if (st_not (st_val (se_call (can_ok (ok_is_name G) (hr.mono (by decide)) G.n_is_name) rfl G.g_is_name G.k_is_name (sa_cons (se_var 0) sa_nil)))) (sss_one (ss_raiseH G.e_UnknownName G.v_UnknownName (hr.mono (by decide)) rfl (sa_cons (se_var 0) sa_nil))) sss_nil)))
theorem ok_form_of (G : Gx P w K mg base) : FnOk P w K mg base (L2.CX P w) 2 G.f_form_of G.d_form_of ["word"] (spV G.T 1 m_form_of) := fn_def G.F_form_of sc_form_of (fun d9 cdv A outer s H E hr => by
  have hu := hr.units
  have S := sc_form_of
  exact (sss_one (ss_ret (se_if (st_val (se_b call_isi rc_isi rfl G.b_isinstance (by decide +kernel) (sa_cons (se_var 0) (sa_cons (se_ty rfl G.b_str (by decide +kernel)) sa_nil)))) (se_kget G.kd_FORMS (pe_glob (v := .ref G.za_FORMS) rfl G.zm_FORMS rfl) (se_var 0)) se_non))))
theorem ok_is_item (G : Gx P w K mg base) : FnOk P w K mg base (L2.CX P w) 3 G.f_is_item G.d_is_item ["item", "kind", "tasks"] (spV G.T 3 m_is_item) := fn_def G.F_is_item sc_is_item (fun d9 cdv A outer s H E hr => by
  have hu := hr.units
  have S := sc_is_item
  exact (sss_cons (ss_if (st_cmp (op_eqD hu) ro_eq (se_var 1) se_str (nomark _)) (sss_one (ss_ret (se_call (can_ok (ok_is_name G) (hr.mono (by decide)) G.n_is_name) rfl G.g_is_name G.k_is_name (sa_cons (se_var 0) sa_nil)))) sss_nil)
    (sss_cons (ss_asg (se_kget2 G.kd_LIMITS (pe_glob (v := .ref G.za_LIMITS) rfl G.zm_LIMITS rfl) (se_var 1) (se_tup (sa_cons se_int (sa_cons (se_op op_sub ro_sub (se_var 2) se_int) sa_nil)))) (sg_seq (sgs_cons (sg_name 3 S.nd) (sgs_cons (sg_name 4 S.nd) sgs_nil))))
    (sss_one (ss_ret (se_and (se_call (can_ok (ok_is_whole G) (hr.mono (by decide)) G.n_is_whole) rfl G.g_is_whole G.k_is_whole (sa_cons (se_var 0) sa_nil)) (se_one (se_chain op_le op_le ro_le ro_le (se_var 3) (se_var 0) (se_var 4)))))))))
theorem ok_is_step (G : Gx P w K mg base) : FnOk P w K mg base (L2.CX P w) 4 G.f_is_step G.d_is_step ["value", "tasks"] (spV G.T 2 m_is_step) := fn_def G.F_is_step sc_is_step (fun d9 cdv A outer s H E hr => by
  have hu := hr.units
  have S := sc_is_step
  exact (sss_cons (ss_if (st_w (sw_or (st_not (st_val (se_b call_isi rc_isi rfl G.b_isinstance (by decide +kernel) (sa_cons (se_var 0) (sa_cons (se_ty rfl G.b_tuple (by decide +kernel)) sa_nil))))) (sw_or1 (st_cmp (op_eqD hu) ro_eq (se_b call_len rc_len rfl G.b_len PySem.boot_len (sa_cons (se_var 0) sa_nil)) se_int (nomark _))))) (sss_one (ss_ret se_bl)) sss_nil)
    (sss_cons (ss_set 2 S.nd (se_call (can_ok (ok_form_of G) (hr.mono (by decide)) G.n_form_of) rfl G.g_form_of G.k_form_of (sa_cons (se_ix (se_var 0) se_int) sa_nil)))
    (sss_cons (ss_if (st_w (sw_or (st_cmp op_isA ro_is (se_var 2) se_non (nomark _)) (sw_or1 (st_cmp (op_neD hu) ro_ne (se_b call_len rc_len rfl G.b_len PySem.boot_len (sa_cons (se_var 0) sa_nil)) (se_op op_addA ro_add (se_b call_len rc_len rfl G.b_len PySem.boot_len (sa_cons (se_var 2) sa_nil)) se_int) (nomark _))))) (sss_one (ss_ret se_bl)) sss_nil)
    (sss_one (ss_ret (se_b (cr_all rfl) rc_all rfl G.b_all (by decide +kernel) (sa_cons (se_lcT 3 4 S.nd (si_zipT rfl G.b_zip (sa_cons (se_sliceA (se_var 0) (so_some se_int) so_none) (sa_cons (se_var 2) sa_nil))) (blkOk_by (own := [("item", 3), ("kind", 4)]) (N := ["value", "tasks", "form", "item", "kind"]) (sc := defScope s_is_step) (by decide +kernel)) (fun _ _ _ _ _ => pg_tup rfl (pgs_cons (pg_name (i := 3) S.nd rfl (Or.inl rfl)) (pgs_cons (pg_name (i := 4) S.nd rfl (Or.inl rfl)) pgs_nil))) (fun _ _ _ _ _ => (se_call (can_ok (ok_is_item G) (hr.mono (by decide)) G.n_is_item) rfl G.g_is_item G.k_is_item (sa_cons (se_var 3) (sa_cons (se_var 4) (sa_cons (se_var 1) sa_nil)))))) sa_nil))))))))
theorem ok_require_tasks (G : Gx P w K mg base) : FnOk P w K mg base (L2.CX P w) 5 G.f_require_tasks G.d_require_tasks ["tasks"] (spV G.T 1 m_require_tasks) := fn_def G.F_require_tasks sc_require_tasks (fun d9 cdv A outer s H E hr => by
  have hu := hr.units
  have S := sc_require_tasks
  exact (sss_cons (ss_if (st_w (sw_or (st_not (st_val (se_b call_isi rc_isi rfl G.b_isinstance (by decide +kernel) (sa_cons (se_var 0) (sa_cons (se_ty rfl G.b_tuple (by decide +kernel)) sa_nil))))) (sw_or1 (st_not (st_chain op_le op_le ro_le ro_le se_int (se_b call_len rc_len rfl G.b_len PySem.boot_len (sa_cons (se_var 0) sa_nil)) (se_conI rfl G.zm_MOST_TASKS)))))) (sss_one (ss_raiseH G.e_InvalidProgram G.v_InvalidProgram (hr.mono (by decide)) rfl (sa_cons se_non sa_nil))) sss_nil)
    (sss_cons (ss_for (si_enT rfl G.b_enumerate (sa_cons (se_var 0) sa_nil)) (sg_seq (sgs_cons (sg_name 1 S.nd) (sgs_cons (sg_name 2 S.nd) sgs_nil))) (sss_one (ss_if (st_w (sw_or (st_not (st_val (se_b call_isi rc_isi rfl G.b_isinstance (by decide +kernel) (sa_cons (se_var 2) (sa_cons (se_ty rfl G.b_tuple (by decide +kernel)) sa_nil))))) (sw_or1 (st_cmp op_gt ro_gt (se_b call_len rc_len rfl G.b_len PySem.boot_len (sa_cons (se_var 2) sa_nil)) (se_conI rfl G.zm_MOST_STEPS) (nomark _))))) (sss_one (ss_raiseH G.e_InvalidProgram G.v_InvalidProgram (hr.mono (by decide)) rfl (sa_cons (se_tup (sa_cons (se_var 1) (sa_cons se_non sa_nil))) sa_nil))) sss_nil)))
    (sss_one (ss_for (si_enT rfl G.b_enumerate (sa_cons (se_var 0) sa_nil)) (sg_seq (sgs_cons (sg_name 1 S.nd) (sgs_cons (sg_name 2 S.nd) sgs_nil))) (sss_one (ss_for (si_enT rfl G.b_enumerate (sa_cons (se_var 2) sa_nil)) (sg_seq (sgs_cons (sg_name 3 S.nd) (sgs_cons (sg_name 4 S.nd) sgs_nil))) (sss_one (ss_if (st_not (st_val (se_call (can_ok (ok_is_step G) (hr.mono (by decide)) G.n_is_step) rfl G.g_is_step G.k_is_step (sa_cons (se_var 4) (sa_cons (se_b call_len rc_len rfl G.b_len PySem.boot_len (sa_cons (se_var 0) sa_nil)) sa_nil))))) (sss_one (ss_raiseH G.e_InvalidProgram G.v_InvalidProgram (hr.mono (by decide)) rfl (sa_cons (se_tup (sa_cons (se_var 1) (sa_cons (se_var 3) sa_nil))) sa_nil))) sss_nil)))))))))
theorem ok_is_capacity (G : Gx P w K mg base) : FnOk P w K mg base (L2.CX P w) 3 G.f_is_capacity G.d_is_capacity ["value"] (spV G.T 1 m_is_capacity) := fn_def G.F_is_capacity sc_is_capacity (fun d9 cdv A outer s H E hr => by
  have hu := hr.units
  have S := sc_is_capacity
  exact (sss_one (ss_ret (se_and (se_call (can_ok (ok_is_whole G) (hr.mono (by decide)) G.n_is_whole) rfl G.g_is_whole G.k_is_whole (sa_cons (se_var 0) sa_nil)) (se_one (se_chain op_le op_le ro_le ro_le se_int (se_var 0) se_int))))))
theorem ok_require_capacities (G : Gx P w K mg base) : FnOk P w K mg base (L2.CX P w) 4 G.f_require_capacities G.d_require_capacities ["capacities"] (spV G.T 1 m_require_capacities) := fn_def G.F_require_capacities sc_require_capacities (fun d9 cdv A outer s H E hr => by
  have hu := hr.units
  have S := sc_require_capacities
  exact (sss_cons (ss_if (st_not (st_val (se_b call_isi rc_isi rfl G.b_isinstance (by decide +kernel) (sa_cons (se_var 0) (sa_cons (se_ty rfl G.b_dict (by decide +kernel)) sa_nil))))) (sss_one (ss_raiseH G.e_InvalidProgram G.v_InvalidProgram (hr.mono (by decide)) rfl (sa_cons se_str sa_nil))) sss_nil)
    (sss_one (ss_lockS 0 (fun d9 => (ss_for (si_items (se_var 0)) (sg_seq (sgs_cons (sg_name 1 S.nd) (sgs_cons (sg_name 2 S.nd) sgs_nil))) (sss_one (ss_if (st_w (sw_or (st_not (st_val (se_call (can_ok (ok_is_name G) (hr.mono (by decide)) G.n_is_name) rfl G.g_is_name G.k_is_name (sa_cons (se_var 1) sa_nil)))) (sw_or1 (st_not (st_val (se_call (can_ok (ok_is_capacity G) (hr.mono (by decide)) G.n_is_capacity) rfl G.g_is_capacity G.k_is_capacity (sa_cons (se_var 2) sa_nil))))))) (sss_one (ss_raiseH G.e_InvalidProgram G.v_InvalidProgram (hr.mono (by decide)) rfl (sa_cons se_str sa_nil))) sss_nil))))))))
theorem ok_Program_init (G : Gx P w K mg base) : FnOk P w K mg base (L2.CX P w) 7 G.f_Program_init G.d_Program_init ["self", "tasks", "capacities"] (spV G.T 3 m_Program_init) := fn_defD G.F_Program_init sc_Program_init (fun d9 cdv A outer s H E hr => by
  have hu := hr.units
  have S := sc_Program_init
  exact (sss_cons (ss_expr (se_call (can_ok (ok_require_tasks G) (hr.mono (by decide)) G.n_require_tasks) rfl G.g_require_tasks G.k_require_tasks (sa_cons (se_var 1) sa_nil)))
    (sss_cons (ss_set 3 S.nd (se_if (st_cmp op_isA ro_is (se_var 2) se_non (nomark _)) se_dict0 (se_var 2)))
    (sss_cons (ss_expr (se_call (can_ok (ok_require_capacities G) (hr.mono (by decide)) G.n_require_capacities) rfl G.g_require_capacities G.k_require_capacities (sa_cons (se_var 3) sa_nil)))
    (sss_cons (ss_putF G.v_Program G.cls_Program G.na_Program_plans (se_var 0) (se_var 1))
    (sss_one (ss_putF G.v_Program G.cls_Program G.na_Program_rooms (se_var 0) (se_lockE 3 (fun d9 => (se_dcIf 4 S.nd (si_keys (se_var 3)) (blkOk_by (own := [("queue", 4)]) (N := ["self", "tasks", "capacities", "given", "queue"]) (sc := defScope s_Program_init) (by decide +kernel)) (fun _ _ _ _ _ => pg_name (i := 4) S.nd rfl (Or.inl rfl)) (fun _ _ _ _ _ => (st_cmp (op_neD hu) ro_ne (se_ixD (hu1 hu) (se_var 3) (se_var 4)) se_int (nomark _))) (fun _ _ _ _ _ => (se_var 4)) (fun _ _ _ _ _ => (se_ixD (hu1 hu) (se_var 3) (se_var 4)))))))))))))
theorem Gx.mk_Program_1 (G : Gx P w K mg base) : MkF G.T P w K mg base 7 "Program" "P" G.c.Program 1 [] 2 m_Program_init gm_Program_1 := .of G.v_Program G.mg_Program G.mkc_Program (ok_Program_init G) G.kb_Program_1
theorem Gx.mk_Program_2 (G : Gx P w K mg base) : MkF G.T P w K mg base 7 "Program" "P" G.c.Program 2 [] 2 m_Program_init gm_Program_2 := .of G.v_Program G.mg_Program G.mkc_Program (ok_Program_init G) G.kb_Program_2
theorem ok_Program_tasks (G : Gx P w K mg base) : FnOk P w K mg base (L2.CX P w) 3 G.f_Program_tasks G.d_Program_tasks ["self"] (spV G.T 1 m_Program_tasks) := fn_def G.F_Program_tasks sc_Program_tasks (fun d9 cdv A outer s H E hr => by
  have hu := hr.units
  have S := sc_Program_tasks
  exact (sss_one (ss_ret (se_fld G.v_Program G.cls_Program G.na_Program_plans (se_var 0)))))
theorem ok_Program_capacity (G : Gx P w K mg base) : FnOk P w K mg base (L2.CX P w) 4 G.f_Program_capacity G.d_Program_capacity ["self", "queue"] (spV G.T 2 m_Program_capacity) := fn_def G.F_Program_capacity sc_Program_capacity (fun d9 cdv A outer s H E hr => by
  have hu := hr.units
  have S := sc_Program_capacity
  exact (sss_cons (ss_expr (se_call (can_ok (ok_require_name G) (hr.mono (by decide)) G.n_require_name) rfl G.g_require_name G.k_require_name (sa_cons (se_var 1) sa_nil)))
    (sss_one (ss_ret (se_getD (hu1 hu) (se_fld G.v_Program G.cls_Program G.na_Program_rooms (se_var 0)) (se_var 1) se_int)))))
theorem ok_is_pace (G : Gx P w K mg base) : FnOk P w K mg base (L2.CX P w) 3 G.f_is_pace G.d_is_pace ["value"] (spV G.T 1 m_is_pace) := fn_def G.F_is_pace sc_is_pace (fun d9 cdv A outer s H E hr => by
  have hu := hr.units
  have S := sc_is_pace
  exact (sss_one (ss_ret (se_and (se_call (can_ok (ok_is_whole G) (hr.mono (by decide)) G.n_is_whole) rfl G.g_is_whole G.k_is_whole (sa_cons (se_var 0) sa_nil)) (se_one (se_chain op_le op_le ro_le ro_le se_int (se_var 0) (se_conI rfl G.zm_MOST_SLOWNESS)))))))
theorem ok_are_paces (G : Gx P w K mg base) : FnOk P w K mg base (L2.CX P w) 4 G.f_are_paces G.d_are_paces ["value"] (spV G.T 1 m_are_paces) := fn_def G.F_are_paces sc_are_paces (fun d9 cdv A outer s H E hr => by
  have hu := hr.units
  have S := sc_are_paces
  exact (sss_cons (ss_if (st_not (st_val (se_b call_isi rc_isi rfl G.b_isinstance (by decide +kernel) (sa_cons (se_var 0) (sa_cons (se_ty rfl G.b_dict (by decide +kernel)) sa_nil))))) (sss_one (ss_ret se_bl)) sss_nil)
    (sss_one (ss_ret (se_b (cr_all rfl) rc_all rfl G.b_all (by decide +kernel) (sa_cons (se_lockE 0 (fun d9 => (se_lcT 1 2 S.nd (si_items (se_var 0)) (blkOk_by (own := [("part", 1), ("pace", 2)]) (N := ["value", "part", "pace"]) (sc := defScope s_are_paces) (by decide +kernel)) (fun _ _ _ _ _ => pg_tup rfl (pgs_cons (pg_name (i := 1) S.nd rfl (Or.inl rfl)) (pgs_cons (pg_name (i := 2) S.nd rfl (Or.inl rfl)) pgs_nil))) (fun _ _ _ _ _ => (se_and (se_call (can_ok (ok_is_name G) (hr.mono (by decide)) G.n_is_name) rfl G.g_is_name G.k_is_name (sa_cons (se_var 1) sa_nil)) (se_one (se_call (can_ok (ok_is_pace G) (hr.mono (by decide)) G.n_is_pace) rfl G.g_is_pace G.k_is_pace (sa_cons (se_var 2) sa_nil)))))))) sa_nil))))))
theorem ok_Setting_init (G : Gx P w K mg base) : FnOk P w K mg base (L2.CX P w) 6 G.f_Setting_init G.d_Setting_init ["self", "slownesses", "rule"] (spV G.T 3 m_Setting_init) := fn_defD G.F_Setting_init sc_Setting_init (fun d9 cdv A outer s H E hr => by
  have hu := hr.units
  have S := sc_Setting_init
  exact (sss_cons (ss_set 3 S.nd (se_if (st_cmp op_isA ro_is (se_var 1) se_non (nomark _)) se_dict0 (se_var 1)))
    (sss_cons (ss_if (st_not (st_val (se_call (can_ok (ok_are_paces G) (hr.mono (by decide)) G.n_are_paces) rfl G.g_are_paces G.k_are_paces (sa_cons (se_var 3) sa_nil)))) (sss_one (ss_raiseH G.e_InvalidSetting G.v_InvalidSetting (hr.mono (by decide)) rfl (sa_cons (se_var 1) sa_nil))) sss_nil)
    (sss_cons (ss_if (st_w (sw_or (st_not (st_val (se_b call_isi rc_isi rfl G.b_isinstance (by decide +kernel) (sa_cons (se_var 2) (sa_cons (se_ty rfl G.b_str (by decide +kernel)) sa_nil))))) (sw_or1 (st_cmp op_notIn_seq (ro_inA true) (se_var 2) (se_conT (pe_glob (v := .ref G.za_RULES) rfl G.zm_RULES rfl) G.zk_RULES) (by rfl))))) (sss_one (ss_raiseH G.e_InvalidSetting G.v_InvalidSetting (hr.mono (by decide)) rfl (sa_cons (se_var 2) sa_nil))) sss_nil)
    (sss_cons (ss_putF G.v_Setting G.cls_Setting G.na_Setting_paces (se_var 0) (se_lockE 3 (fun d9 => (se_dcIf 4 S.nd (si_keys (se_var 3)) (blkOk_by (own := [("part", 4)]) (N := ["self", "slownesses", "rule", "given", "part"]) (sc := defScope s_Setting_init) (by decide +kernel)) (fun _ _ _ _ _ => pg_name (i := 4) S.nd rfl (Or.inl rfl)) (fun _ _ _ _ _ => (st_cmp (op_neD hu) ro_ne (se_ixD (hu1 hu) (se_var 3) (se_var 4)) se_int (nomark _))) (fun _ _ _ _ _ => (se_var 4)) (fun _ _ _ _ _ => (se_ixD (hu1 hu) (se_var 3) (se_var 4)))))))
    (sss_one (ss_putF G.v_Setting G.cls_Setting G.na_Setting_order (se_var 0) (se_var 2))))))))
theorem Gx.mk_Setting_0 (G : Gx P w K mg base) : MkF G.T P w K mg base 6 "Setting" "S" G.c.Setting 0 [] 2 m_Setting_init gm_Setting_0 := .of G.v_Setting G.mg_Setting G.mkc_Setting (ok_Setting_init G) G.kb_Setting_0
theorem Gx.mk_Setting_1 (G : Gx P w K mg base) : MkF G.T P w K mg base 6 "Setting" "S" G.c.Setting 1 [] 2 m_Setting_init gm_Setting_1 := .of G.v_Setting G.mg_Setting G.mkc_Setting (ok_Setting_init G) G.kb_Setting_1
theorem ok_Setting_slowness (G : Gx P w K mg base) : FnOk P w K mg base (L2.CX P w) 4 G.f_Setting_slowness G.d_Setting_slowness ["self", "part"] (spV G.T 2 m_Setting_slowness) := fn_def G.F_Setting_slowness sc_Setting_slowness (fun d9 cdv A outer s H E hr => by
  have hu := hr.units
  have S := sc_Setting_slowness
  exact (sss_cons (ss_expr (se_call (can_ok (ok_require_name G) (hr.mono (by decide)) G.n_require_name) rfl G.g_require_name G.k_require_name (sa_cons (se_var 1) sa_nil)))
    (sss_one (ss_ret (se_getD (hu1 hu) (se_fld G.v_Setting G.cls_Setting G.na_Setting_paces (se_var 0)) (se_var 1) se_int)))))
theorem ok__law_numbers (G : Gx P w K mg base) : FnOk P w K mg base (L2.CX P w) 2 G.f__law_numbers G.d__law_numbers ["_law_cell", "_law_salt", "_law_sizes"] (spV G.T 3 m__law_numbers) := fn_def G.F__law_numbers sc__law_numbers (fun d9 cdv A outer s H E hr => by
  have hu := hr.units
  have S := sc__law_numbers
  exact (sss_cons (ss_set 3 S.nd (se_b (call_max2 rfl) rc_max rfl G.b_max (by decide +kernel) (sa_cons (se_var 0) (sa_cons (se_op op_sub ro_sub (se_neg se_int) (se_var 0)) sa_nil))))
    (sss_cons (ss_set 4 S.nd (se_var 3))
    (sss_cons (ss_set 5 S.nd (se_lst sa_nil))
    (sss_cons (ss_for (si_range1 rfl G.b_range (sa_cons (se_b call_len rc_len rfl G.b_len PySem.boot_len (sa_cons (se_var 2) sa_nil)) sa_nil) (len_cons len_nil)) (sg_name 6 S.nd) (sss_one (ss_if (st_w (sw_and (st_cmp op_ge ro_ge (se_var 3) (se_op op_pow ro_pow se_int se_int) (nomark _)) (sw_and1 (st_cmp op_gt ro_gt (se_var 4) se_int (nomark _))))) (sss_cons (ss_expr (se_append (se_var 5) (se_op op_modN ro_mod (se_var 4) (se_ix (se_var 2) (se_var 6)))))
    (sss_one (ss_set 4 S.nd (se_op op_fdivG ro_div (se_var 4) (se_ix (se_var 2) (se_var 6)))))) (sss_cons (ss_set 7 S.nd (se_op op_modN ro_mod (se_op op_pow ro_pow (se_op op_addA ro_add (se_op op_addA ro_add (se_op op_modN ro_mod (se_var 3) se_int) (se_op op_mulA ro_mul se_int (se_var 1))) se_int) se_int) se_int))
    (sss_cons (ss_set 7 S.nd (se_op op_modN ro_mod (se_op op_mulA ro_mul (se_op op_addA ro_add (se_var 7) (se_op op_mulA ro_mul se_int (se_op op_addA ro_add (se_var 6) se_int))) (se_op op_addA ro_add (se_var 6) se_int)) se_int))
    (sss_cons (ss_set 7 S.nd (se_op op_modN ro_mod (se_op op_mulA ro_mul (se_op op_modN ro_mod (se_op op_pow ro_pow (se_var 7) se_int) se_int) se_int) se_int))
    (sss_one (ss_expr (se_append (se_var 5) (se_op op_modN ro_mod (se_op op_fdivG ro_div (se_var 7) se_int) (se_ix (se_var 2) (se_var 6))))))))))))
    (sss_one (ss_ret (se_var 5))))))))
theorem ok__law_draw (G : Gx P w K mg base) : FnOk P w K mg base (L2.CX P w) 2 G.f__law_draw G.d__law_draw ["_law_state", "_law_many"] (spV G.T 2 m__law_draw) := fn_def G.F__law_draw sc__law_draw (fun d9 cdv A outer s H E hr => by
  have hu := hr.units
  have S := sc__law_draw
  exact (sss_cons (ss_set 2 S.nd (se_ix (se_var 0) se_int))
    (sss_cons (ss_asg (se_op op_addA ro_add (se_var 2) se_int) (sg_sub (se_var 0) se_int))
    (sss_one (ss_ret (se_if (st_cmp op_lt ro_lt (se_var 2) (se_b call_len rc_len rfl G.b_len PySem.boot_len (sa_cons (se_ix (se_var 0) se_int) sa_nil)) (nomark _)) (se_op op_modN ro_mod (se_bt call_int1 rc_int rfl G.b_int (by decide +kernel) (sa_cons (se_ix (se_ix (se_var 0) se_int) (se_var 2)) sa_nil)) (se_var 1)) se_int))))))
theorem ok__law_is_name (G : Gx P w K mg base) : FnOk P w K mg base (L2.CX P w) 2 G.f__law_is_name G.d__law_is_name ["_law_value"] (spV G.T 1 m__law_is_name) := fn_def G.F__law_is_name sc__law_is_name (fun d9 cdv A outer s H E hr => by
  have hu := hr.units
  have S := sc__law_is_name
  exact (sss_cons (ss_if (st_w (sw_or (st_not (st_val (se_b call_isi rc_isi rfl G.b_isinstance (by decide +kernel) (sa_cons (se_var 0) (sa_cons (se_ty rfl G.b_str (by decide +kernel)) sa_nil))))) (sw_or1 (st_not (st_chain op_le op_le ro_le ro_le se_int (se_b call_len rc_len rfl G.b_len PySem.boot_len (sa_cons (se_var 0) sa_nil)) se_int))))) (sss_one (ss_ret se_bl)) sss_nil)
    (sss_one (ss_ret (se_cmp (op_eqD hu) ro_eq (se_lcIf 1 S.nd (si_str (se_var 0)) (blkOk_by (own := [("_law_sign", 1)]) (N := ["_law_value", "_law_sign"]) (sc := defScope s__law_is_name) (by decide +kernel)) (fun _ _ _ _ _ => pg_name (i := 1) S.nd rfl (Or.inl rfl)) (fun _ _ _ _ _ => (st_cmp op_notIn_sign (ro_inSg true) (se_var 1) se_str (by rfl))) (fun _ _ _ _ _ => (se_var 1))) (se_lst sa_nil) (nomark _))))))
theorem ok__law_is_whole (G : Gx P w K mg base) : FnOk P w K mg base (L2.CX P w) 2 G.f__law_is_whole G.d__law_is_whole ["_law_value", "_law_least", "_law_most"] (spV G.T 3 m__law_is_whole) := fn_def G.F__law_is_whole sc__law_is_whole (fun d9 cdv A outer s H E hr => by
  have hu := hr.units
  have S := sc__law_is_whole
  exact (sss_one (ss_ret (se_and (se_b call_isi rc_isi rfl G.b_isinstance (by decide +kernel) (sa_cons (se_var 0) (sa_cons (se_ty rfl G.b_int (by decide +kernel)) sa_nil))) (se_and (se_not (se_b call_isi rc_isi rfl G.b_isinstance (by decide +kernel) (sa_cons (se_var 0) (sa_cons (se_ty rfl G.b_bool (by decide +kernel)) sa_nil)))) (se_one (se_chain op_le op_le ro_le ro_le (se_var 1) (se_var 0) (se_var 2))))))))
theorem ok__law_word (G : Gx P w K mg base) : FnOk P w K mg base (L2.CX P w) 3 G.f__law_word G.d__law_word ["_law_state"] (spV G.T 1 m__law_word) := fn_def G.F__law_word sc__law_word (fun d9 cdv A outer s H E hr => by
  have hu := hr.units
  have S := sc__law_word
  exact (sss_cons (ss_set 1 S.nd se_str)
    (sss_cons (ss_set 2 S.nd (se_jn se_str (se_lc 3 S.nd (si_range1 rfl G.b_range (sa_cons (se_op op_addA ro_add se_int (se_call (can_ok (ok__law_draw G) (hr.mono (by decide)) G.n__law_draw) rfl G.g__law_draw G.k__law_draw (sa_cons (se_var 0) (sa_cons se_int sa_nil)))) sa_nil) (len_cons len_nil)) (blkOk_by (own := [("_law_turn", 3)]) (N := ["_law_state", "_law_signs", "_law_word_here", "_law_turn", "_law_odd", "_law_at"]) (sc := defScope s__law_word) (by decide +kernel)) (fun _ _ _ _ _ => pg_name (i := 3) S.nd rfl (Or.inl rfl)) (fun _ _ _ _ _ => (se_ix (se_var 1) (se_call (can_ok (ok__law_draw G) (hr.mono (by decide)) G.n__law_draw) rfl G.g__law_draw G.k__law_draw (sa_cons (se_var 0) (sa_cons se_int sa_nil))))))))
    (sss_cons (ss_set 4 S.nd (se_ix (se_lst (sa_cons se_str (sa_cons se_str (sa_cons se_str (sa_cons se_str (sa_cons se_str (sa_cons se_str (sa_cons se_str (sa_cons se_str sa_nil))))))))) (se_call (can_ok (ok__law_draw G) (hr.mono (by decide)) G.n__law_draw) rfl G.g__law_draw G.k__law_draw (sa_cons (se_var 0) (sa_cons se_int sa_nil)))))
    (sss_cons (ss_set 5 S.nd (se_call (can_ok (ok__law_draw G) (hr.mono (by decide)) G.n__law_draw) rfl G.g__law_draw G.k__law_draw (sa_cons (se_var 0) (sa_cons (se_op op_addA ro_add (se_b call_len rc_len rfl G.b_len PySem.boot_len (sa_cons (se_var 2) sa_nil)) se_int) sa_nil))))
    (sss_one (ss_ret (se_ix (se_lst (sa_cons (se_var 2) (sa_cons (se_var 2) (sa_cons (se_op op_addA ro_add (se_op op_addA ro_add (se_sliceS (se_var 2) so_none (so_some (se_var 5))) (se_var 4)) (se_sliceS (se_var 2) (so_some (se_var 5)) so_none)) (sa_cons (se_var 4) sa_nil))))) (se_call (can_ok (ok__law_draw G) (hr.mono (by decide)) G.n__law_draw) rfl G.g__law_draw G.k__law_draw (sa_cons (se_var 0) (sa_cons se_int sa_nil)))))))))))
theorem su_ind0 (a : Addr) (j : Nat) (r : Ws) (h : Hv) (hl : 1 < r.length) : suA_heard0 a j (r.set 1 (some (.fix a))) h = su0_heard0 j r h := by
  simp only [suA_heard0, su0_heard0, mLst, mCons, mC, mB, mNil, Res.bind, mXfA_at hl, mIsxA_at hl, mAndV, mNotV, mT]
theorem su_ind1 (a : Addr) (j : Nat) (r : Ws) (h : Hv) (hl : 1 < r.length) : suA_heard1 a j (r.set 1 (some (.fix a))) h = su0_heard1 j r h := by
  simp only [suA_heard1, su0_heard1, mLst, mCons, mC, mB, mNil, Res.bind, mXfA_at hl, mIsxA_at hl, mAndV, mNotV, mT]
theorem su_ind2 (a : Addr) (j : Nat) (r : Ws) (h : Hv) (hl : 1 < r.length) : suA_heard2 a j (r.set 1 (some (.fix a))) h = su0_heard2 j r h := by
  simp only [suA_heard2, su0_heard2, mLst, mCons, mC, mB, mNil, Res.bind, mXfA_at hl, mIsxA_at hl, mAndV, mNotV, mT]
theorem sels (G : Gx P w K mg base) (d9 : Hd) : Sels K (G.T.hold d9) [cl_heard0 G.c, cl_heard1 G.c, cl_heard2 G.c] sel_heard := fun c su e => by
  unfold sel_heard at e
  split at e
  · rename_i hc
    subst hc; cases e
    exact ⟨[], cl_heard0 G.c, [cl_heard1 G.c, cl_heard2 G.c], rfl, (fun p hp => by cases hp), by rw [G.v_UnknownName]; exact G.te_UnknownName, G.v_UnknownName, fun a j r h w h2 hl e => hind_ret (fA := suA_heard0) (f := su0_heard0) (i := 1) su_ind0 a j r h w h2 hl e⟩
  · skip
    split at e
    · rename_i hc
      subst hc; cases e
      exact ⟨[cl_heard0 G.c], cl_heard1 G.c, [cl_heard2 G.c], rfl, (fun p hp => by
        simp only [List.mem_cons, List.not_mem_nil, or_false] at hp
        rcases hp with rfl
        · rw [G.v_InvalidProgram]; exact G.tn_InvalidProgram_UnknownName), by rw [G.v_InvalidProgram]; exact G.te_InvalidProgram, G.v_InvalidProgram, fun a j r h w h2 hl e => hind_ret (fA := suA_heard1) (f := su0_heard1) (i := 1) su_ind1 a j r h w h2 hl e⟩
    · skip
      split at e
      · rename_i hc
        subst hc; cases e
        exact ⟨[cl_heard0 G.c, cl_heard1 G.c], cl_heard2 G.c, [], rfl, (fun p hp => by
          simp only [List.mem_cons, List.not_mem_nil, or_false] at hp
          rcases hp with rfl | rfl
          · rw [G.v_InvalidSetting]; exact G.tn_InvalidSetting_UnknownName
          · rw [G.v_InvalidSetting]; exact G.tn_InvalidSetting_InvalidProgram), by rw [G.v_InvalidSetting]; exact G.te_InvalidSetting, G.v_InvalidSetting, fun a j r h w h2 hl e => hind_ret (fA := suA_heard2) (f := su0_heard2) (i := 1) su_ind2 a j r h w h2 hl e⟩
      · cases e
abbrev XO_law_word_right (G : Gx P w K mg base) (A : Around) (outer : List Env) (s : Shared) (H : Hp) (E : XK) : Cx := cxOf (L2.CX P w) P w K mg base ["_law_word_here", "_law_many", "_law_good", "_law_empty", "_law_due", "_law_told", "_law_made", "_law_room", "_law_slow", "_law_fits"] "_law_word_right" (defScope s__law_word_right) G.f__law_word_right (.ref G.cO_law_word_right) A outer s H E
theorem heard__law_word_right (G : Gx P w K mg base) (d9 : Hd) (A : Around) (outer : List Env) (s : Shared) (H : Hp) (E : XK) (hr : Room 10 (XO_law_word_right G A outer s H E).A) (hgd : A.guards = some []) {params : Arguments} {body : Expr} {scope : Scope} {fb : Ws → Hv → Res W} {p lpos pos : Pos}
    (L : LamX.LamS (XO_law_word_right G A outer s H E).env.scope scope) (hdef : defaultsOf params (XO_law_word_right G A outer s H E).env = ([], [])) (hbind : ∀ (q : Str) (cl : List (Str × Addr)) (pm cv ctv : Value), bindArgs (PySem.W.kla_fn "<lambda>" q params body scope cl pm cv ctv) ⟨[], []⟩ = pure [])
    (hbody : ∀ (A2 : Around) (o2 : List Env) (s2 : Shared) (H2 : Hp) (E2 : XK) (f2 c2 : Addr), Room 8 (A2.deeper (LamX.lamEnv (XO_law_word_right G A outer s H E) scope s2.heap.objs.size f2 c2)) → SE (G.T.hold d9) (LamX.lamCx (XO_law_word_right G A outer s H E) A2 o2 s2 H2 E2 scope f2 c2) body fb) :
    SE (G.T.hold d9) (XO_law_word_right G A outer s H E) (.Call (.Name "_law_heard" p) [.Lambda params body scope lpos] [] pos) (mHeardM sel_heard fb) := by
  obtain ⟨oc, od, kV, doc, pm, an, cdv, ct, osl, e, lk, hcd⟩ := G.F__law_heard.ex
  rw [e] at lk
  have hb := G.n__law_heard
  rw [e] at hb
  have hu : (XO_law_word_right G A outer s H E).A.units + 3 + 64 < cLine := by have := hr.un; omega
  exact se_heardM (k := 8) (l := [cl_heard0 G.c, cl_heard1 G.c, cl_heard2 G.c]) (sels G d9) G.g__law_heard G.k__law_heard lk hcd hb sc__law_heard (Or.inl rfl) (fun s2 H2 => (hdA_cons (c := cl_heard0 G.c) ⟨rfl, by decide, Or.inl G.e_UnknownName.mgC⟩ (fun ad oe cls dd pn j hk hz hf => sss_one (ss_ret (se_lst (sa_cons se_str (sa_cons (se_b (call_reprF hgd hu) rc_reprF rfl G.b_repr (by decide +kernel) (sa_cons (se_xf 1 G.xf_UnknownName G.no_UnknownName hz hf hk) sa_nil)) (sa_cons (se_and (se_isx 1 G.xc_UnknownName hz hf hk rfl G.b_isinstance (pe_bltn (v := .ty "KeyError") rfl G.b_KeyError (by decide +kernel) rfl) (fun _ r => r) G.ki_UnknownName_KeyError) (se_one (se_not (se_isx 1 G.xc_UnknownName hz hf hk rfl G.b_isinstance (pe_glob (v := .ref G.kTimesError) rfl G.m_TimesError rfl) (fun _ r => r) G.ki_UnknownName_TimesError)))) sa_nil)))))) (hdA_cons (c := cl_heard1 G.c) ⟨rfl, by decide, Or.inl G.e_InvalidProgram.mgC⟩ (fun ad oe cls dd pn j hk hz hf => sss_one (ss_ret (se_lst (sa_cons se_str (sa_cons (se_b (call_reprF hgd hu) rc_reprF rfl G.b_repr (by decide +kernel) (sa_cons (se_xf 1 G.xf_InvalidProgram G.no_InvalidProgram hz hf hk) sa_nil)) sa_nil))))) (hdA_cons (c := cl_heard2 G.c) ⟨rfl, by decide, Or.inl G.e_InvalidSetting.mgC⟩ (fun ad oe cls dd pn j hk hz hf => sss_one (ss_ret (se_lst (sa_cons se_str (sa_cons (se_b (call_reprF hgd hu) rc_reprF rfl G.b_repr (by decide +kernel) (sa_cons (se_xf 1 G.xf_InvalidSetting G.no_InvalidSetting hz hf hk) sa_nil)) sa_nil))))) .nil)))) rfl G.TB_law_word_right rfl List.mem_cons_self (by
      intro p hp
      simp only [Tx.plain, List.mem_cons, List.not_mem_nil, or_false] at hp
      rcases hp with rfl | rfl
      · exact (by intro _; rfl)
      · exact (fun e => absurd e (Ne.symm G.ne_law_word_rightlaw))) hr L hdef hbind hbody
abbrev XOlaw (G : Gx P w K mg base) (A : Around) (outer : List Env) (s : Shared) (H : Hp) (E : XK) : Cx := cxOf (L2.CX P w) P w K mg base ["_law_script", "_law_k", "_law_cell", "_law_state", "_law_turn", "_law_many", "_law_odd"] "law" (defScope s_law) G.f_law (.ref G.cOlaw) A outer s H E
theorem heard_law (G : Gx P w K mg base) (d9 : Hd) (A : Around) (outer : List Env) (s : Shared) (H : Hp) (E : XK) (hr : Room 14 (XOlaw G A outer s H E).A) (hgd : A.guards = some []) {params : Arguments} {body : Expr} {scope : Scope} {fb : Ws → Hv → Res W} {p lpos pos : Pos}
    (L : LamX.LamS (XOlaw G A outer s H E).env.scope scope) (hdef : defaultsOf params (XOlaw G A outer s H E).env = ([], [])) (hbind : ∀ (q : Str) (cl : List (Str × Addr)) (pm cv ctv : Value), bindArgs (PySem.W.kla_fn "<lambda>" q params body scope cl pm cv ctv) ⟨[], []⟩ = pure [])
    (hbody : ∀ (A2 : Around) (o2 : List Env) (s2 : Shared) (H2 : Hp) (E2 : XK) (f2 c2 : Addr), Room 12 (A2.deeper (LamX.lamEnv (XOlaw G A outer s H E) scope s2.heap.objs.size f2 c2)) → SE (G.T.hold d9) (LamX.lamCx (XOlaw G A outer s H E) A2 o2 s2 H2 E2 scope f2 c2) body fb) :
    SE (G.T.hold d9) (XOlaw G A outer s H E) (.Call (.Name "_law_heard" p) [.Lambda params body scope lpos] [] pos) (mHeardM sel_heard fb) := by
  obtain ⟨oc, od, kV, doc, pm, an, cdv, ct, osl, e, lk, hcd⟩ := G.F__law_heard.ex
  rw [e] at lk
  have hb := G.n__law_heard
  rw [e] at hb
  have hu : (XOlaw G A outer s H E).A.units + 3 + 64 < cLine := by have := hr.un; omega
  exact se_heardM (k := 12) (l := [cl_heard0 G.c, cl_heard1 G.c, cl_heard2 G.c]) (sels G d9) G.g__law_heard G.k__law_heard lk hcd hb sc__law_heard (Or.inl rfl) (fun s2 H2 => (hdA_cons (c := cl_heard0 G.c) ⟨rfl, by decide, Or.inl G.e_UnknownName.mgC⟩ (fun ad oe cls dd pn j hk hz hf => sss_one (ss_ret (se_lst (sa_cons se_str (sa_cons (se_b (call_reprF hgd hu) rc_reprF rfl G.b_repr (by decide +kernel) (sa_cons (se_xf 1 G.xf_UnknownName G.no_UnknownName hz hf hk) sa_nil)) (sa_cons (se_and (se_isx 1 G.xc_UnknownName hz hf hk rfl G.b_isinstance (pe_bltn (v := .ty "KeyError") rfl G.b_KeyError (by decide +kernel) rfl) (fun _ r => r) G.ki_UnknownName_KeyError) (se_one (se_not (se_isx 1 G.xc_UnknownName hz hf hk rfl G.b_isinstance (pe_glob (v := .ref G.kTimesError) rfl G.m_TimesError rfl) (fun _ r => r) G.ki_UnknownName_TimesError)))) sa_nil)))))) (hdA_cons (c := cl_heard1 G.c) ⟨rfl, by decide, Or.inl G.e_InvalidProgram.mgC⟩ (fun ad oe cls dd pn j hk hz hf => sss_one (ss_ret (se_lst (sa_cons se_str (sa_cons (se_b (call_reprF hgd hu) rc_reprF rfl G.b_repr (by decide +kernel) (sa_cons (se_xf 1 G.xf_InvalidProgram G.no_InvalidProgram hz hf hk) sa_nil)) sa_nil))))) (hdA_cons (c := cl_heard2 G.c) ⟨rfl, by decide, Or.inl G.e_InvalidSetting.mgC⟩ (fun ad oe cls dd pn j hk hz hf => sss_one (ss_ret (se_lst (sa_cons se_str (sa_cons (se_b (call_reprF hgd hu) rc_reprF rfl G.b_repr (by decide +kernel) (sa_cons (se_xf 1 G.xf_InvalidSetting G.no_InvalidSetting hz hf hk) sa_nil)) sa_nil))))) .nil)))) rfl G.TBlaw rfl (List.mem_cons_of_mem _ List.mem_cons_self) (by
      intro p hp
      simp only [Tx.plain, List.mem_cons, List.not_mem_nil, or_false] at hp
      rcases hp with rfl | rfl
      · exact (fun e => absurd e G.ne_law_word_rightlaw)
      · exact (by intro _; rfl)) hr L hdef hbind hbody
theorem ok__law_word_right (G : Gx P w K mg base) : FnG P w K mg base G.T 11 G.f__law_word_right 2 m__law_word_right := fn_defC (qs := ["_law_word_here", "_law_many"]) G.FC_law_word_right sc__law_word_right G.n__law_word_right (fun d9 A outer s H E hr hgd => by
  have hu := hr.units
  have S := sc__law_word_right
  exact (sss_cons (ss_asg (se_tup (sa_cons (se_call (can_ok (ok__law_is_name G) (hr.mono (by decide)) G.n__law_is_name) rfl G.g__law_is_name G.k__law_is_name (sa_cons (se_var 0) sa_nil)) (sa_cons (se_makeF (G.mk_Program_1.hold d9) (hr.mono (by decide)) rfl (sa_cons (se_tup (sa_cons (se_tup sa_nil) sa_nil)) sa_nil) sk_nil) sa_nil))) (sg_seq (sgs_cons (sg_name 2 S.nd) (sgs_cons (sg_name 3 S.nd) sgs_nil))))
    (sss_cons (ss_set 4 S.nd (se_lst (sa_cons se_str (sa_cons (se_b (call_reprF hgd hu) rc_reprF rfl G.b_repr (by decide +kernel) (sa_cons (se_var 0) sa_nil)) (sa_cons se_bl sa_nil)))))
    (sss_cons (ss_set 5 S.nd (se_lst (sa_cons (heard__law_word_right G d9 A outer s H E (hr.mono (by decide)) hgd (LamX.lamS_by (sc := defScope s__law_word_right) (by decide +kernel)) rfl (fun _ _ _ _ _ => rfl) (fun A2 o2 s2 H2 E2 f2 c2 hr => by
      have hu := hr.units
      exact (se_meth (can_ok (ok_Program_capacity G) (hr.mono (by decide)) G.n_Program_capacity) G.v_Program G.cls_Program G.me_Program_capacity (se_var 3) (sa_cons (se_var 0) sa_nil)))) sa_nil)))
    (sss_cons (ss_expr (se_append (se_var 5) (heard__law_word_right G d9 A outer s H E (hr.mono (by decide)) hgd (LamX.lamS_by (sc := defScope s__law_word_right) (by decide +kernel)) rfl (fun _ _ _ _ _ => rfl) (fun A2 o2 s2 H2 E2 f2 c2 hr => by
      have hu := hr.units
      exact (se_meth (can_ok (ok_Setting_slowness G) (hr.mono (by decide)) G.n_Setting_slowness) G.v_Setting G.cls_Setting G.me_Setting_slowness (se_makeF0 (G.mk_Setting_0.hold d9) (hr.mono (by decide)) rfl sk_nil) (sa_cons (se_var 0) sa_nil))))))
    (sss_cons (ss_if (st_cmp (op_neD hu) ro_ne (se_var 5) (se_if (st_val (se_var 2)) (se_lst (sa_cons se_int (sa_cons se_int sa_nil))) (se_lst (sa_cons (se_var 4) (sa_cons (se_var 4) sa_nil)))) (nomark _)) (sss_one (ss_ret se_bl)) sss_nil)
    (sss_cons (ss_set 6 S.nd (heard__law_word_right G d9 A outer s H E (hr.mono (by decide)) hgd (LamX.lamS_by (sc := defScope s__law_word_right) (by decide +kernel)) rfl (fun _ _ _ _ _ => rfl) (fun A2 o2 s2 H2 E2 f2 c2 hr => by
      have hu := hr.units
      exact (se_prop G.v_Program G.cls_Program G.pr_Program_tasks (ok_Program_tasks G) (hr.mono (by decide)) G.n_Program_tasks passF (se_makeF (G.mk_Program_1.hold d9) (hr.mono (by decide)) rfl (sa_cons (se_tup (sa_cons (se_tup (sa_cons (se_tup (sa_cons se_str (sa_cons (se_var 0) sa_nil))) sa_nil)) sa_nil)) sa_nil) sk_nil)))))
    (sss_cons (ss_if (st_cmp (op_neD hu) ro_ne (se_var 6) (se_if (st_val (se_var 2)) (se_tup (sa_cons (se_tup (sa_cons (se_tup (sa_cons se_str (sa_cons (se_var 0) sa_nil))) sa_nil)) sa_nil)) (se_lst (sa_cons se_str (sa_cons se_str sa_nil)))) (nomark _)) (sss_one (ss_ret se_bl)) sss_nil)
    (sss_cons (ss_asg (se_tup (sa_cons (se_disp (sd_cons (se_var 0) (se_var 1) sd_nil)) (sa_cons (se_disp (sd_cons (se_var 0) (se_var 1) sd_nil)) sa_nil))) (sg_seq (sgs_cons (sg_name 7 S.nd) (sgs_cons (sg_name 8 S.nd) sgs_nil))))
    (sss_cons (ss_set 9 S.nd (se_and (se_var 2) (se_one (se_call (can_ok (ok__law_is_whole G) (hr.mono (by decide)) G.n__law_is_whole) rfl G.g__law_is_whole G.k__law_is_whole (sa_cons (se_var 1) (sa_cons se_int (sa_cons se_int sa_nil)))))))
    (sss_cons (ss_if (st_cmp (op_neD hu) ro_ne (heard__law_word_right G d9 A outer s H E (hr.mono (by decide)) hgd (LamX.lamS_by (sc := defScope s__law_word_right) (by decide +kernel)) rfl (fun _ _ _ _ _ => rfl) (fun A2 o2 s2 H2 E2 f2 c2 hr => by
      have hu := hr.units
      exact (se_meth (can_ok (ok_Program_capacity G) (hr.mono (by decide)) G.n_Program_capacity) G.v_Program G.cls_Program G.me_Program_capacity (se_makeF (G.mk_Program_2.hold d9) (hr.mono (by decide)) rfl (sa_cons (se_tup (sa_cons (se_tup sa_nil) sa_nil)) (sa_cons (se_var 7) sa_nil)) sk_nil) (sa_cons (se_var 0) sa_nil)))) (se_if (st_val (se_var 9)) (se_var 1) (se_lst (sa_cons se_str (sa_cons se_str sa_nil)))) (nomark _)) (sss_one (ss_ret se_bl)) sss_nil)
    (sss_cons (ss_set 9 S.nd (se_and (se_var 2) (se_one (se_call (can_ok (ok__law_is_whole G) (hr.mono (by decide)) G.n__law_is_whole) rfl G.g__law_is_whole G.k__law_is_whole (sa_cons (se_var 1) (sa_cons se_int (sa_cons (se_op op_pow ro_pow se_int se_int) sa_nil)))))))
    (sss_one (ss_ret (se_cmp (op_eqD hu) ro_eq (heard__law_word_right G d9 A outer s H E (hr.mono (by decide)) hgd (LamX.lamS_by (sc := defScope s__law_word_right) (by decide +kernel)) rfl (fun _ _ _ _ _ => rfl) (fun A2 o2 s2 H2 E2 f2 c2 hr => by
      have hu := hr.units
      exact (se_meth (can_ok (ok_Setting_slowness G) (hr.mono (by decide)) G.n_Setting_slowness) G.v_Setting G.cls_Setting G.me_Setting_slowness (se_makeF (G.mk_Setting_1.hold d9) (hr.mono (by decide)) rfl (sa_cons (se_var 8) sa_nil) sk_nil) (sa_cons (se_var 0) sa_nil)))) (se_if (st_val (se_var 9)) (se_var 1) (se_lst (sa_cons se_str (sa_cons (se_b (call_reprF hgd hu) rc_reprF rfl G.b_repr (by decide +kernel) (sa_cons (se_var 8) sa_nil)) sa_nil)))) (nomark _))))))))))))))))
theorem ok_law (G : Gx P w K mg base) : FnG P w K mg base G.T 15 G.f_law 1 m_law := fn_defC (qs := ["_law_script"]) G.FClaw sc_law G.n_law (fun d9 A outer s H E hr hgd => by
  have hu := hr.units
  have S := sc_law
  exact (sss_cons (ss_for (si_enum rfl G.b_enumerate (sa_cons (se_op op_addA ro_add (se_slice (se_var 0) so_none (so_some se_int)) (se_op op_mulA ro_mul (se_lst (sa_cons se_int sa_nil)) (se_bt call_int1 rc_int rfl G.b_int (by decide +kernel) (sa_cons (se_cmp (op_eqD hu) ro_eq (se_var 0) (se_lst sa_nil) (nomark _)) sa_nil)))) sa_nil)) (sg_seq (sgs_cons (sg_name 1 S.nd) (sgs_cons (sg_name 2 S.nd) sgs_nil))) (sss_local [1, 2] trivial (sss_cons (ss_set 3 S.nd (se_lst (sa_cons (se_call (can_ok (ok__law_numbers G) (hr.mono (by decide)) G.n__law_numbers) rfl G.g__law_numbers G.k__law_numbers (sa_cons (se_var 2) (sa_cons (se_op op_addA ro_add se_int (se_var 1)) (sa_cons (se_op op_mulA ro_mul (se_lst (sa_cons se_int sa_nil)) se_int) sa_nil)))) (sa_cons se_int sa_nil))))
    (sss_one (ss_for (si_range1 rfl G.b_range (sa_cons se_int sa_nil) (len_cons len_nil)) (sg_name 4 S.nd) (sss_cons (ss_set 5 S.nd (se_ix (se_lst (sa_cons se_int (sa_cons se_int (sa_cons se_int (sa_cons se_int (sa_cons (se_call (can_ok (ok__law_draw G) (hr.mono (by decide)) G.n__law_draw) rfl G.g__law_draw G.k__law_draw (sa_cons (se_var 3) (sa_cons se_int sa_nil))) (sa_cons (se_neg se_int) (sa_cons (se_op op_pow ro_pow se_int se_int) (sa_cons (se_op op_addA ro_add (se_op op_pow ro_pow se_int se_int) se_int) (sa_cons se_bl (sa_cons se_non sa_nil))))))))))) (se_call (can_ok (ok__law_draw G) (hr.mono (by decide)) G.n__law_draw) rfl G.g__law_draw G.k__law_draw (sa_cons (se_var 3) (sa_cons se_int sa_nil)))))
    (sss_one (ss_if (st_not (st_val (se_call (can_G ((ok__law_word_right G).hold d9) (hr.mono (by decide)) hgd) rfl G.g__law_word_right G.k__law_word_right (sa_cons (se_call (can_ok (ok__law_word G) (hr.mono (by decide)) G.n__law_word) rfl G.g__law_word G.k__law_word (sa_cons (se_var 3) sa_nil)) (sa_cons (se_var 5) sa_nil))))) (sss_one (ss_ret se_bl)) sss_nil))))))))
    (sss_local [] trivial (sss_cons (ss_for (si_seq (se_lst (sa_cons se_non (sa_cons se_int (sa_cons se_bl (sa_cons (se_tup (sa_cons se_str sa_nil)) (sa_cons (se_lst (sa_cons se_str sa_nil)) (sa_cons se_dict0 sa_nil)))))))) (sg_name 6 S.nd) (sss_cons (ss_if (st_cmp (op_neD hu) ro_ne (heard_law G d9 A outer s H E (hr.mono (by decide)) hgd (LamX.lamS_by (sc := defScope s_law) (by decide +kernel)) rfl (fun _ _ _ _ _ => rfl) (fun A2 o2 s2 H2 E2 f2 c2 hr => by
      have hu := hr.units
      exact (se_meth (can_ok (ok_Program_capacity G) (hr.mono (by decide)) G.n_Program_capacity) G.v_Program G.cls_Program G.me_Program_capacity (se_makeF (G.mk_Program_1.hold d9) (hr.mono (by decide)) rfl (sa_cons (se_tup (sa_cons (se_tup sa_nil) sa_nil)) sa_nil) sk_nil) (sa_cons (se_var 6) sa_nil)))) (se_lst (sa_cons se_str (sa_cons (se_b (call_reprF hgd hu) rc_reprF rfl G.b_repr (by decide +kernel) (sa_cons (se_var 6) sa_nil)) (sa_cons se_bl sa_nil)))) (nomark _)) (sss_one (ss_ret se_bl)) sss_nil)
    (sss_one (ss_if (st_cmp (op_neD hu) ro_ne (heard_law G d9 A outer s H E (hr.mono (by decide)) hgd (LamX.lamS_by (sc := defScope s_law) (by decide +kernel)) rfl (fun _ _ _ _ _ => rfl) (fun A2 o2 s2 H2 E2 f2 c2 hr => by
      have hu := hr.units
      exact (se_meth (can_ok (ok_Setting_slowness G) (hr.mono (by decide)) G.n_Setting_slowness) G.v_Setting G.cls_Setting G.me_Setting_slowness (se_makeF0 (G.mk_Setting_0.hold d9) (hr.mono (by decide)) rfl sk_nil) (sa_cons (se_var 6) sa_nil)))) (se_lst (sa_cons se_str (sa_cons (se_b (call_reprF hgd hu) rc_reprF rfl G.b_repr (by decide +kernel) (sa_cons (se_var 6) sa_nil)) (sa_cons se_bl sa_nil)))) (nomark _)) (sss_one (ss_ret se_bl)) sss_nil))))
    (sss_one (ss_ret se_bl))))))
end
end K08
end
section
namespace K08
open PySem PySem.Spec PyProof.Rows L2 VL
def tysB (f : String → Bool) : Bool := tyNs.all f
theorem tys_of {f : String → Bool} (h : tysB f = true) : ∀ t ∈ tyNs, f t = true := fun t ht => List.all_eq_true.mp h t ht
abbrev s_init_InvalidSetting : Stmt := inClass (top 4) 0
theorem sc_init_InvalidSetting : FnScope ["self", "value"] ["self", "value"] (defScope s_init_InvalidSetting) := ⟨rfl, rfl, rfl, by decide +kernel, rfl, by decide +kernel, by decide +kernel⟩
theorem ok_init_InvalidSetting {P : Program} {w : World} {K : PySem.W.Frag} {mg : Str → Option Value} {base : Heap} {f C : Addr} {fd : FuncData} (F : Fun K "__init__" "InvalidSetting.__init__" s_init_InvalidSetting f fd) (T : OexH K C) (no : PySem.W.findIn K (.ref C) "value" = some none) : FnOk P w K mg base CX0 1 f fd ["self", "value"] (spInit K C "value") := by
  refine F.ok sc_init_InvalidSetting (fun vs H Q E h => ?_) (fun cdv A outer s H vs Q E hr h => ?_)
  · obtain ⟨a, v, rfl, _⟩ := h
    rfl
  · obtain ⟨a, v, rfl, ha, k⟩ := h
    exact ⟨_, pss_one (ps_ostH (pv 0) (pv 1)), _, rfl, _, rfl, a, C, rfl, T, no, ha, fun dx hd ne => k dx hd ne⟩
abbrev s_init_UnknownName : Stmt := inClass (top 7) 0
theorem sc_init_UnknownName : FnScope ["self", "name"] ["self", "name"] (defScope s_init_UnknownName) := ⟨rfl, rfl, rfl, by decide +kernel, rfl, by decide +kernel, by decide +kernel⟩
theorem ok_init_UnknownName {P : Program} {w : World} {K : PySem.W.Frag} {mg : Str → Option Value} {base : Heap} {f C : Addr} {fd : FuncData} (F : Fun K "__init__" "UnknownName.__init__" s_init_UnknownName f fd) (T : OexH K C) (no : PySem.W.findIn K (.ref C) "name" = some none) : FnOk P w K mg base CX0 1 f fd ["self", "name"] (spInit K C "name") := by
  refine F.ok sc_init_UnknownName (fun vs H Q E h => ?_) (fun cdv A outer s H vs Q E hr h => ?_)
  · obtain ⟨a, v, rfl, _⟩ := h
    rfl
  · obtain ⟨a, v, rfl, ha, k⟩ := h
    exact ⟨_, pss_one (ps_ostH (pv 0) (pv 1)), _, rfl, _, rfl, a, C, rfl, T, no, ha, fun dx hd ne => k dx hd ne⟩
abbrev s_init_InvalidProgram : Stmt := inClass (top 3) 0
theorem sc_init_InvalidProgram : FnScope ["self", "place"] ["self", "place"] (defScope s_init_InvalidProgram) := ⟨rfl, rfl, rfl, by decide +kernel, rfl, by decide +kernel, by decide +kernel⟩
theorem ok_init_InvalidProgram {P : Program} {w : World} {K : PySem.W.Frag} {mg : Str → Option Value} {base : Heap} {f C : Addr} {fd : FuncData} (F : Fun K "__init__" "InvalidProgram.__init__" s_init_InvalidProgram f fd) (T : OexH K C) (no : PySem.W.findIn K (.ref C) "place" = some none) : FnOk P w K mg base CX0 1 f fd ["self", "place"] (spInit K C "place") := by
  refine F.ok sc_init_InvalidProgram (fun vs H Q E h => ?_) (fun cdv A outer s H vs Q E hr h => ?_)
  · obtain ⟨a, v, rfl, _⟩ := h
    rfl
  · obtain ⟨a, v, rfl, ha, k⟩ := h
    exact ⟨_, pss_one (ps_ostH (pv 0) (pv 1)), _, rfl, _, rfl, a, C, rfl, T, no, ha, fun dx hd ne => k dx hd ne⟩
theorem mk {w : World} {K : PySem.W.Frag} {h : Heap} {mg : Str → Option Value} {fa : Addr} (X : K.In h) (G : h.Ns mainGlobals mg) (hfa : mg "law" = some (.ref fa)) (true_ : ∀ (ns : List Int), ns.length ≤ 63 → (∀ z ∈ ns, Builtin.Int.intBits z ≤ 1048576) → ∃ h', m_law [.ref 0] [.rol (ns.map W.int)] = .val (.bl true) h')
    {C_Program : Addr}
    {C_Setting : Addr}
    {f_xiswhole : Addr} {od_xiswhole an_xiswhole : Option Addr} {sl_xiswhole : Array (Option Value)} {oc_xiswhole kV_xiswhole dc_xiswhole pm_xiswhole ct_xiswhole : Value} {cd_xiswhole : Value}
    {f_xisname : Addr} {od_xisname an_xisname : Option Addr} {sl_xisname : Array (Option Value)} {oc_xisname kV_xisname dc_xisname pm_xisname ct_xisname : Value} {cd_xisname : Value}
    {f_xrequirename : Addr} {od_xrequirename an_xrequirename : Option Addr} {sl_xrequirename : Array (Option Value)} {oc_xrequirename kV_xrequirename dc_xrequirename pm_xrequirename ct_xrequirename : Value} {cd_xrequirename : Value}
    {f_xformof : Addr} {od_xformof an_xformof : Option Addr} {sl_xformof : Array (Option Value)} {oc_xformof kV_xformof dc_xformof pm_xformof ct_xformof : Value} {cd_xformof : Value}
    {f_xisitem : Addr} {od_xisitem an_xisitem : Option Addr} {sl_xisitem : Array (Option Value)} {oc_xisitem kV_xisitem dc_xisitem pm_xisitem ct_xisitem : Value} {cd_xisitem : Value}
    {f_xisstep : Addr} {od_xisstep an_xisstep : Option Addr} {sl_xisstep : Array (Option Value)} {oc_xisstep kV_xisstep dc_xisstep pm_xisstep ct_xisstep : Value} {cd_xisstep : Value}
    {f_xrequiretasks : Addr} {od_xrequiretasks an_xrequiretasks : Option Addr} {sl_xrequiretasks : Array (Option Value)} {oc_xrequiretasks kV_xrequiretasks dc_xrequiretasks pm_xrequiretasks ct_xrequiretasks : Value} {cd_xrequiretasks : Value}
    {f_xiscapacity : Addr} {od_xiscapacity an_xiscapacity : Option Addr} {sl_xiscapacity : Array (Option Value)} {oc_xiscapacity kV_xiscapacity dc_xiscapacity pm_xiscapacity ct_xiscapacity : Value} {cd_xiscapacity : Value}
    {f_xrequirecapacities : Addr} {od_xrequirecapacities an_xrequirecapacities : Option Addr} {sl_xrequirecapacities : Array (Option Value)} {oc_xrequirecapacities kV_xrequirecapacities dc_xrequirecapacities pm_xrequirecapacities ct_xrequirecapacities : Value} {cd_xrequirecapacities : Value}
    {f_xPrograminit : Addr} {od_xPrograminit an_xPrograminit : Option Addr} {sl_xPrograminit : Array (Option Value)} {oc_xPrograminit kV_xPrograminit dc_xPrograminit pm_xPrograminit ct_xPrograminit : Value} {cd_xPrograminit : Value}
    {TD_xPrograminit : Addr} {tod_xPrograminit : Option Addr} {tn_xPrograminit : Nat} {tsl_xPrograminit : Array (Option Value)} 
    {f_xProgramtasks : Addr} {od_xProgramtasks an_xProgramtasks : Option Addr} {sl_xProgramtasks : Array (Option Value)} {oc_xProgramtasks kV_xProgramtasks dc_xProgramtasks pm_xProgramtasks ct_xProgramtasks : Value} {cd_xProgramtasks : Value}
    {pa_xProgramtasks : Addr} {re_xProgramtasks : List Value}
    {f_xProgramcapacity : Addr} {od_xProgramcapacity an_xProgramcapacity : Option Addr} {sl_xProgramcapacity : Array (Option Value)} {oc_xProgramcapacity kV_xProgramcapacity dc_xProgramcapacity pm_xProgramcapacity ct_xProgramcapacity : Value} {cd_xProgramcapacity : Value}
    {f_xispace : Addr} {od_xispace an_xispace : Option Addr} {sl_xispace : Array (Option Value)} {oc_xispace kV_xispace dc_xispace pm_xispace ct_xispace : Value} {cd_xispace : Value}
    {f_xarepaces : Addr} {od_xarepaces an_xarepaces : Option Addr} {sl_xarepaces : Array (Option Value)} {oc_xarepaces kV_xarepaces dc_xarepaces pm_xarepaces ct_xarepaces : Value} {cd_xarepaces : Value}
    {f_xSettinginit : Addr} {od_xSettinginit an_xSettinginit : Option Addr} {sl_xSettinginit : Array (Option Value)} {oc_xSettinginit dc_xSettinginit pm_xSettinginit ct_xSettinginit : Value} {cd_xSettinginit : Value}
    {TD_xSettinginit KD_xSettinginit : Addr} {tod_xSettinginit : Option Addr} {tn_xSettinginit : Nat} {tsl_xSettinginit : Array (Option Value)} {dk1_xSettinginit : Tok}
    {f_xSettingslowness : Addr} {od_xSettingslowness an_xSettingslowness : Option Addr} {sl_xSettingslowness : Array (Option Value)} {oc_xSettingslowness kV_xSettingslowness dc_xSettingslowness pm_xSettingslowness ct_xSettingslowness : Value} {cd_xSettingslowness : Value}
    {f_xlawnumbers : Addr} {od_xlawnumbers an_xlawnumbers : Option Addr} {sl_xlawnumbers : Array (Option Value)} {oc_xlawnumbers kV_xlawnumbers dc_xlawnumbers pm_xlawnumbers ct_xlawnumbers : Value} {cd_xlawnumbers : Value}
    {f_xlawdraw : Addr} {od_xlawdraw an_xlawdraw : Option Addr} {sl_xlawdraw : Array (Option Value)} {oc_xlawdraw kV_xlawdraw dc_xlawdraw pm_xlawdraw ct_xlawdraw : Value} {cd_xlawdraw : Value}
    {f_xlawisname : Addr} {od_xlawisname an_xlawisname : Option Addr} {sl_xlawisname : Array (Option Value)} {oc_xlawisname kV_xlawisname dc_xlawisname pm_xlawisname ct_xlawisname : Value} {cd_xlawisname : Value}
    {f_xlawiswhole : Addr} {od_xlawiswhole an_xlawiswhole : Option Addr} {sl_xlawiswhole : Array (Option Value)} {oc_xlawiswhole kV_xlawiswhole dc_xlawiswhole pm_xlawiswhole ct_xlawiswhole : Value} {cd_xlawiswhole : Value}
    {f_xlawword : Addr} {od_xlawword an_xlawword : Option Addr} {sl_xlawword : Array (Option Value)} {oc_xlawword kV_xlawword dc_xlawword pm_xlawword ct_xlawword : Value} {cd_xlawword : Value}
    {f_xlawheard : Addr} {od_xlawheard an_xlawheard : Option Addr} {sl_xlawheard : Array (Option Value)} {oc_xlawheard kV_xlawheard dc_xlawheard pm_xlawheard ct_xlawheard : Value} {cd_xlawheard : Value}
    {f_xlawwordright : Addr} {od_xlawwordright an_xlawwordright : Option Addr} {sl_xlawwordright : Array (Option Value)} {oc_xlawwordright kV_xlawwordright dc_xlawwordright pm_xlawwordright ct_xlawwordright : Value} {c_xlawwordright P_xlawwordright : Addr}
    {f_xlaw : Addr} {od_xlaw an_xlaw : Option Addr} {sl_xlaw : Array (Option Value)} {oc_xlaw kV_xlaw dc_xlaw pm_xlaw ct_xlaw : Value} {c_xlaw P_xlaw : Addr}
    {kTimesError : Addr}
    {C_InvalidSetting fI_InvalidSetting : Addr} {nm_InvalidSetting q0_InvalidSetting : Str} {N_InvalidSetting : Addr} {bs_InvalidSetting : List Value} {sn_InvalidSetting : List Str} {sub_InvalidSetting : List Value} {ab_InvalidSetting : Bool} {col_InvalidSetting : Option Bool} {dd_InvalidSetting : Option Addr} {m0_InvalidSetting m1_InvalidSetting m2_InvalidSetting m3_InvalidSetting m5_InvalidSetting : Option Value} {odi_InvalidSetting ani_InvalidSetting : Option Addr} {sli_InvalidSetting : Array (Option Value)} {oci_InvalidSetting kVi_InvalidSetting dci_InvalidSetting pmi_InvalidSetting cdi_InvalidSetting cti_InvalidSetting : Value}
    {C_UnknownName fI_UnknownName : Addr} {nm_UnknownName q0_UnknownName : Str} {N_UnknownName : Addr} {bs_UnknownName : List Value} {sn_UnknownName : List Str} {sub_UnknownName : List Value} {ab_UnknownName : Bool} {col_UnknownName : Option Bool} {dd_UnknownName : Option Addr} {m0_UnknownName m1_UnknownName m2_UnknownName m3_UnknownName m5_UnknownName : Option Value} {odi_UnknownName ani_UnknownName : Option Addr} {sli_UnknownName : Array (Option Value)} {oci_UnknownName kVi_UnknownName dci_UnknownName pmi_UnknownName cdi_UnknownName cti_UnknownName : Value}
    {C_InvalidProgram fI_InvalidProgram : Addr} {nm_InvalidProgram q0_InvalidProgram : Str} {N_InvalidProgram : Addr} {bs_InvalidProgram : List Value} {sn_InvalidProgram : List Str} {sub_InvalidProgram : List Value} {ab_InvalidProgram : Bool} {col_InvalidProgram : Option Bool} {dd_InvalidProgram : Option Addr} {m0_InvalidProgram m1_InvalidProgram m2_InvalidProgram m3_InvalidProgram m5_InvalidProgram : Option Value} {odi_InvalidProgram ani_InvalidProgram : Option Addr} {sli_InvalidProgram : Array (Option Value)} {oci_InvalidProgram kVi_InvalidProgram dci_InvalidProgram pmi_InvalidProgram cdi_InvalidProgram cti_InvalidProgram : Value}
    {A_RULES : Addr} {od_RULES : Option Addr} {nn_RULES : Nat} {sl_RULES : Array (Option Value)} {t0_RULES : Tok} {t1_RULES : Tok}
    {A_FORMS : Addr} {nn_FORMS : Nat} {tk0_FORMS : Tok} {a0_FORMS : Addr} {od0_FORMS : Option Addr} {nt0_FORMS : Nat} {sl0_FORMS : Array (Option Value)} {u0_0_FORMS : Tok} {u0_1_FORMS : Tok} {tk1_FORMS : Tok} {a1_FORMS : Addr} {od1_FORMS : Option Addr} {nt1_FORMS : Nat} {sl1_FORMS : Array (Option Value)} {u1_0_FORMS : Tok} {tk2_FORMS : Tok} {a2_FORMS : Addr} {od2_FORMS : Option Addr} {nt2_FORMS : Nat} {sl2_FORMS : Array (Option Value)} {u2_0_FORMS : Tok} {tk3_FORMS : Tok} {a3_FORMS : Addr} {od3_FORMS : Option Addr} {nt3_FORMS : Nat} {sl3_FORMS : Array (Option Value)} {u3_0_FORMS : Tok} {u3_1_FORMS : Tok} {tk4_FORMS : Tok} {a4_FORMS : Addr} {od4_FORMS : Option Addr} {nt4_FORMS : Nat} {sl4_FORMS : Array (Option Value)} {u4_0_FORMS : Tok} {tk5_FORMS : Tok} {a5_FORMS : Addr} {od5_FORMS : Option Addr} {nt5_FORMS : Nat} {sl5_FORMS : Array (Option Value)} {u5_0_FORMS : Tok} {u5_1_FORMS : Tok} {tk6_FORMS : Tok} {a6_FORMS : Addr} {od6_FORMS : Option Addr} {nt6_FORMS : Nat} {sl6_FORMS : Array (Option Value)} {u6_0_FORMS : Tok}
    {A_LIMITS : Addr} {nn_LIMITS : Nat} {tk0_LIMITS : Tok} {a0_LIMITS : Addr} {od0_LIMITS : Option Addr} {nt0_LIMITS : Nat} {sl0_LIMITS : Array (Option Value)} {u0_0_LIMITS : Tok} {u0_1_LIMITS : Tok} {tk1_LIMITS : Tok} {a1_LIMITS : Addr} {od1_LIMITS : Option Addr} {nt1_LIMITS : Nat} {sl1_LIMITS : Array (Option Value)} {u1_0_LIMITS : Tok} {u1_1_LIMITS : Tok} {tk2_LIMITS : Tok} {a2_LIMITS : Addr} {od2_LIMITS : Option Addr} {nt2_LIMITS : Nat} {sl2_LIMITS : Array (Option Value)} {u2_0_LIMITS : Tok} {u2_1_LIMITS : Tok}
    {t0_MOSTSLOWNESS : Tok}
    {t0_MOSTTASKS : Tok}
    {t0_MOSTSTEPS : Tok}
    (aC_Program : PySem.W.nsIn K mainGlobals "Program" = some (some (.ref C_Program)))
    (aC_Setting : PySem.W.nsIn K mainGlobals "Setting" = some (some (.ref C_Setting)))
    (a_xiswhole : PySem.W.nsIn K mainGlobals "is_whole" = some (some (.ref f_xiswhole)))
    (l_xiswhole : K.lookup f_xiswhole = some ⟨oc_xiswhole, od_xiswhole, .func (PySem.W.fnOf "is_whole" "is_whole" (defArgs s_is_whole) (defBody s_is_whole) (defScope s_is_whole) .none kV_xiswhole dc_xiswhole pm_xiswhole an_xiswhole cd_xiswhole ct_xiswhole), sl_xiswhole⟩)
    (c_xiswhole1 : PySem.W.codeIn K cd_xiswhole "is_whole" = true)
    (k_xiswhole : PySem.W.keepIn K (.ref f_xiswhole) = true)
    (a_xisname : PySem.W.nsIn K mainGlobals "is_name" = some (some (.ref f_xisname)))
    (l_xisname : K.lookup f_xisname = some ⟨oc_xisname, od_xisname, .func (PySem.W.fnOf "is_name" "is_name" (defArgs s_is_name) (defBody s_is_name) (defScope s_is_name) .none kV_xisname dc_xisname pm_xisname an_xisname cd_xisname ct_xisname), sl_xisname⟩)
    (c_xisname1 : PySem.W.codeIn K cd_xisname "is_name" = true)
    (k_xisname : PySem.W.keepIn K (.ref f_xisname) = true)
    (a_xrequirename : PySem.W.nsIn K mainGlobals "require_name" = some (some (.ref f_xrequirename)))
    (l_xrequirename : K.lookup f_xrequirename = some ⟨oc_xrequirename, od_xrequirename, .func (PySem.W.fnOf "require_name" "require_name" (defArgs s_require_name) (defBody s_require_name) (defScope s_require_name) .none kV_xrequirename dc_xrequirename pm_xrequirename an_xrequirename cd_xrequirename ct_xrequirename), sl_xrequirename⟩)
    (c_xrequirename1 : PySem.W.codeIn K cd_xrequirename "require_name" = true)
    (k_xrequirename : PySem.W.keepIn K (.ref f_xrequirename) = true)
    (a_xformof : PySem.W.nsIn K mainGlobals "form_of" = some (some (.ref f_xformof)))
    (l_xformof : K.lookup f_xformof = some ⟨oc_xformof, od_xformof, .func (PySem.W.fnOf "form_of" "form_of" (defArgs s_form_of) (defBody s_form_of) (defScope s_form_of) .none kV_xformof dc_xformof pm_xformof an_xformof cd_xformof ct_xformof), sl_xformof⟩)
    (c_xformof1 : PySem.W.codeIn K cd_xformof "form_of" = true)
    (k_xformof : PySem.W.keepIn K (.ref f_xformof) = true)
    (a_xisitem : PySem.W.nsIn K mainGlobals "is_item" = some (some (.ref f_xisitem)))
    (l_xisitem : K.lookup f_xisitem = some ⟨oc_xisitem, od_xisitem, .func (PySem.W.fnOf "is_item" "is_item" (defArgs s_is_item) (defBody s_is_item) (defScope s_is_item) .none kV_xisitem dc_xisitem pm_xisitem an_xisitem cd_xisitem ct_xisitem), sl_xisitem⟩)
    (c_xisitem1 : PySem.W.codeIn K cd_xisitem "is_item" = true)
    (k_xisitem : PySem.W.keepIn K (.ref f_xisitem) = true)
    (a_xisstep : PySem.W.nsIn K mainGlobals "is_step" = some (some (.ref f_xisstep)))
    (l_xisstep : K.lookup f_xisstep = some ⟨oc_xisstep, od_xisstep, .func (PySem.W.fnOf "is_step" "is_step" (defArgs s_is_step) (defBody s_is_step) (defScope s_is_step) .none kV_xisstep dc_xisstep pm_xisstep an_xisstep cd_xisstep ct_xisstep), sl_xisstep⟩)
    (c_xisstep1 : PySem.W.codeIn K cd_xisstep "is_step" = true)
    (k_xisstep : PySem.W.keepIn K (.ref f_xisstep) = true)
    (a_xrequiretasks : PySem.W.nsIn K mainGlobals "require_tasks" = some (some (.ref f_xrequiretasks)))
    (l_xrequiretasks : K.lookup f_xrequiretasks = some ⟨oc_xrequiretasks, od_xrequiretasks, .func (PySem.W.fnOf "require_tasks" "require_tasks" (defArgs s_require_tasks) (defBody s_require_tasks) (defScope s_require_tasks) .none kV_xrequiretasks dc_xrequiretasks pm_xrequiretasks an_xrequiretasks cd_xrequiretasks ct_xrequiretasks), sl_xrequiretasks⟩)
    (c_xrequiretasks1 : PySem.W.codeIn K cd_xrequiretasks "require_tasks" = true)
    (k_xrequiretasks : PySem.W.keepIn K (.ref f_xrequiretasks) = true)
    (a_xiscapacity : PySem.W.nsIn K mainGlobals "is_capacity" = some (some (.ref f_xiscapacity)))
    (l_xiscapacity : K.lookup f_xiscapacity = some ⟨oc_xiscapacity, od_xiscapacity, .func (PySem.W.fnOf "is_capacity" "is_capacity" (defArgs s_is_capacity) (defBody s_is_capacity) (defScope s_is_capacity) .none kV_xiscapacity dc_xiscapacity pm_xiscapacity an_xiscapacity cd_xiscapacity ct_xiscapacity), sl_xiscapacity⟩)
    (c_xiscapacity1 : PySem.W.codeIn K cd_xiscapacity "is_capacity" = true)
    (k_xiscapacity : PySem.W.keepIn K (.ref f_xiscapacity) = true)
    (a_xrequirecapacities : PySem.W.nsIn K mainGlobals "require_capacities" = some (some (.ref f_xrequirecapacities)))
    (l_xrequirecapacities : K.lookup f_xrequirecapacities = some ⟨oc_xrequirecapacities, od_xrequirecapacities, .func (PySem.W.fnOf "require_capacities" "require_capacities" (defArgs s_require_capacities) (defBody s_require_capacities) (defScope s_require_capacities) .none kV_xrequirecapacities dc_xrequirecapacities pm_xrequirecapacities an_xrequirecapacities cd_xrequirecapacities ct_xrequirecapacities), sl_xrequirecapacities⟩)
    (c_xrequirecapacities1 : PySem.W.codeIn K cd_xrequirecapacities "require_capacities" = true)
    (k_xrequirecapacities : PySem.W.keepIn K (.ref f_xrequirecapacities) = true)
    (a_xPrograminit : PySem.W.findIn K (.ref C_Program) "__init__" = some (some (.ref f_xPrograminit)))
    (i_xPrograminit : PySem.W.isFn K (.ref f_xPrograminit) = true)
    (l_xPrograminit : K.lookup f_xPrograminit = some ⟨oc_xPrograminit, od_xPrograminit, .func (PySem.W.fnOf "__init__" "Program.__init__" (defArgs s_Program_init) (defBody s_Program_init) (defScope s_Program_init) (.ref TD_xPrograminit) kV_xPrograminit dc_xPrograminit pm_xPrograminit an_xPrograminit cd_xPrograminit ct_xPrograminit), sl_xPrograminit⟩)
    (c_xPrograminit1 : PySem.W.codeIn K cd_xPrograminit "Program.__init__" = true)
    (k_xPrograminit : PySem.W.keepIn K (.ref f_xPrograminit) = true)
    (lT_xPrograminit : K.lookup TD_xPrograminit = some ⟨.type "tuple", tod_xPrograminit, .seq #[.none] tn_xPrograminit, tsl_xPrograminit⟩)
    (pt_xProgramtasks : PySem.W.findIn K (.ref C_Program) "tasks" = some (some (.ref pa_xProgramtasks)))
    (pg_xProgramtasks : PySem.W.specialIn K (.ref pa_xProgramtasks) "__get__" = some (some (.builtin "property.__get__")))
    (pk_xProgramtasks : PySem.W.takesIn K (.ref pa_xProgramtasks) = some true)
    (pr_xProgramtasks : PySem.W.recIn K pa_xProgramtasks "property" = some (.ref f_xProgramtasks :: re_xProgramtasks))
    (l_xProgramtasks : K.lookup f_xProgramtasks = some ⟨oc_xProgramtasks, od_xProgramtasks, .func (PySem.W.fnOf "tasks" "Program.tasks" (defArgs s_Program_tasks) (defBody s_Program_tasks) (defScope s_Program_tasks) .none kV_xProgramtasks dc_xProgramtasks pm_xProgramtasks an_xProgramtasks cd_xProgramtasks ct_xProgramtasks), sl_xProgramtasks⟩)
    (c_xProgramtasks1 : PySem.W.codeIn K cd_xProgramtasks "Program.tasks" = true)
    (k_xProgramtasks : PySem.W.keepIn K (.ref f_xProgramtasks) = true)
    (a_xProgramcapacity : PySem.W.findIn K (.ref C_Program) "capacity" = some (some (.ref f_xProgramcapacity)))
    (i_xProgramcapacity : PySem.W.isFn K (.ref f_xProgramcapacity) = true)
    (l_xProgramcapacity : K.lookup f_xProgramcapacity = some ⟨oc_xProgramcapacity, od_xProgramcapacity, .func (PySem.W.fnOf "capacity" "Program.capacity" (defArgs s_Program_capacity) (defBody s_Program_capacity) (defScope s_Program_capacity) .none kV_xProgramcapacity dc_xProgramcapacity pm_xProgramcapacity an_xProgramcapacity cd_xProgramcapacity ct_xProgramcapacity), sl_xProgramcapacity⟩)
    (c_xProgramcapacity1 : PySem.W.codeIn K cd_xProgramcapacity "Program.capacity" = true)
    (k_xProgramcapacity : PySem.W.keepIn K (.ref f_xProgramcapacity) = true)
    (a_xispace : PySem.W.nsIn K mainGlobals "is_pace" = some (some (.ref f_xispace)))
    (l_xispace : K.lookup f_xispace = some ⟨oc_xispace, od_xispace, .func (PySem.W.fnOf "is_pace" "is_pace" (defArgs s_is_pace) (defBody s_is_pace) (defScope s_is_pace) .none kV_xispace dc_xispace pm_xispace an_xispace cd_xispace ct_xispace), sl_xispace⟩)
    (c_xispace1 : PySem.W.codeIn K cd_xispace "is_pace" = true)
    (k_xispace : PySem.W.keepIn K (.ref f_xispace) = true)
    (a_xarepaces : PySem.W.nsIn K mainGlobals "are_paces" = some (some (.ref f_xarepaces)))
    (l_xarepaces : K.lookup f_xarepaces = some ⟨oc_xarepaces, od_xarepaces, .func (PySem.W.fnOf "are_paces" "are_paces" (defArgs s_are_paces) (defBody s_are_paces) (defScope s_are_paces) .none kV_xarepaces dc_xarepaces pm_xarepaces an_xarepaces cd_xarepaces ct_xarepaces), sl_xarepaces⟩)
    (c_xarepaces1 : PySem.W.codeIn K cd_xarepaces "are_paces" = true)
    (k_xarepaces : PySem.W.keepIn K (.ref f_xarepaces) = true)
    (a_xSettinginit : PySem.W.findIn K (.ref C_Setting) "__init__" = some (some (.ref f_xSettinginit)))
    (i_xSettinginit : PySem.W.isFn K (.ref f_xSettinginit) = true)
    (l_xSettinginit : K.lookup f_xSettinginit = some ⟨oc_xSettinginit, od_xSettinginit, .func (PySem.W.fnOf "__init__" "Setting.__init__" (defArgs s_Setting_init) (defBody s_Setting_init) (defScope s_Setting_init) (.ref TD_xSettinginit) (.ref KD_xSettinginit) dc_xSettinginit pm_xSettinginit an_xSettinginit cd_xSettinginit ct_xSettinginit), sl_xSettinginit⟩)
    (c_xSettinginit1 : PySem.W.codeIn K cd_xSettinginit "Setting.__init__" = true)
    (k_xSettinginit : PySem.W.keepIn K (.ref f_xSettinginit) = true)
    (lT_xSettinginit : K.lookup TD_xSettinginit = some ⟨.type "tuple", tod_xSettinginit, .seq #[.none] tn_xSettinginit, tsl_xSettinginit⟩)
    (lK0_xSettinginit : PySem.W.nsIn K KD_xSettinginit "rule" = some (some (.str "turn" dk1_xSettinginit)))
    (a_xSettingslowness : PySem.W.findIn K (.ref C_Setting) "slowness" = some (some (.ref f_xSettingslowness)))
    (i_xSettingslowness : PySem.W.isFn K (.ref f_xSettingslowness) = true)
    (l_xSettingslowness : K.lookup f_xSettingslowness = some ⟨oc_xSettingslowness, od_xSettingslowness, .func (PySem.W.fnOf "slowness" "Setting.slowness" (defArgs s_Setting_slowness) (defBody s_Setting_slowness) (defScope s_Setting_slowness) .none kV_xSettingslowness dc_xSettingslowness pm_xSettingslowness an_xSettingslowness cd_xSettingslowness ct_xSettingslowness), sl_xSettingslowness⟩)
    (c_xSettingslowness1 : PySem.W.codeIn K cd_xSettingslowness "Setting.slowness" = true)
    (k_xSettingslowness : PySem.W.keepIn K (.ref f_xSettingslowness) = true)
    (a_xlawnumbers : PySem.W.nsIn K mainGlobals "_law_numbers" = some (some (.ref f_xlawnumbers)))
    (l_xlawnumbers : K.lookup f_xlawnumbers = some ⟨oc_xlawnumbers, od_xlawnumbers, .func (PySem.W.fnOf "_law_numbers" "_law_numbers" (defArgs s__law_numbers) (defBody s__law_numbers) (defScope s__law_numbers) .none kV_xlawnumbers dc_xlawnumbers pm_xlawnumbers an_xlawnumbers cd_xlawnumbers ct_xlawnumbers), sl_xlawnumbers⟩)
    (c_xlawnumbers1 : PySem.W.codeIn K cd_xlawnumbers "_law_numbers" = true)
    (k_xlawnumbers : PySem.W.keepIn K (.ref f_xlawnumbers) = true)
    (a_xlawdraw : PySem.W.nsIn K mainGlobals "_law_draw" = some (some (.ref f_xlawdraw)))
    (l_xlawdraw : K.lookup f_xlawdraw = some ⟨oc_xlawdraw, od_xlawdraw, .func (PySem.W.fnOf "_law_draw" "_law_draw" (defArgs s__law_draw) (defBody s__law_draw) (defScope s__law_draw) .none kV_xlawdraw dc_xlawdraw pm_xlawdraw an_xlawdraw cd_xlawdraw ct_xlawdraw), sl_xlawdraw⟩)
    (c_xlawdraw1 : PySem.W.codeIn K cd_xlawdraw "_law_draw" = true)
    (k_xlawdraw : PySem.W.keepIn K (.ref f_xlawdraw) = true)
    (a_xlawisname : PySem.W.nsIn K mainGlobals "_law_is_name" = some (some (.ref f_xlawisname)))
    (l_xlawisname : K.lookup f_xlawisname = some ⟨oc_xlawisname, od_xlawisname, .func (PySem.W.fnOf "_law_is_name" "_law_is_name" (defArgs s__law_is_name) (defBody s__law_is_name) (defScope s__law_is_name) .none kV_xlawisname dc_xlawisname pm_xlawisname an_xlawisname cd_xlawisname ct_xlawisname), sl_xlawisname⟩)
    (c_xlawisname1 : PySem.W.codeIn K cd_xlawisname "_law_is_name" = true)
    (k_xlawisname : PySem.W.keepIn K (.ref f_xlawisname) = true)
    (a_xlawiswhole : PySem.W.nsIn K mainGlobals "_law_is_whole" = some (some (.ref f_xlawiswhole)))
    (l_xlawiswhole : K.lookup f_xlawiswhole = some ⟨oc_xlawiswhole, od_xlawiswhole, .func (PySem.W.fnOf "_law_is_whole" "_law_is_whole" (defArgs s__law_is_whole) (defBody s__law_is_whole) (defScope s__law_is_whole) .none kV_xlawiswhole dc_xlawiswhole pm_xlawiswhole an_xlawiswhole cd_xlawiswhole ct_xlawiswhole), sl_xlawiswhole⟩)
    (c_xlawiswhole1 : PySem.W.codeIn K cd_xlawiswhole "_law_is_whole" = true)
    (k_xlawiswhole : PySem.W.keepIn K (.ref f_xlawiswhole) = true)
    (a_xlawword : PySem.W.nsIn K mainGlobals "_law_word" = some (some (.ref f_xlawword)))
    (l_xlawword : K.lookup f_xlawword = some ⟨oc_xlawword, od_xlawword, .func (PySem.W.fnOf "_law_word" "_law_word" (defArgs s__law_word) (defBody s__law_word) (defScope s__law_word) .none kV_xlawword dc_xlawword pm_xlawword an_xlawword cd_xlawword ct_xlawword), sl_xlawword⟩)
    (c_xlawword1 : PySem.W.codeIn K cd_xlawword "_law_word" = true)
    (k_xlawword : PySem.W.keepIn K (.ref f_xlawword) = true)
    (a_xlawheard : PySem.W.nsIn K mainGlobals "_law_heard" = some (some (.ref f_xlawheard)))
    (l_xlawheard : K.lookup f_xlawheard = some ⟨oc_xlawheard, od_xlawheard, .func (PySem.W.fnOf "_law_heard" "_law_heard" (defArgs s__law_heard) (defBody s__law_heard) (defScope s__law_heard) .none kV_xlawheard dc_xlawheard pm_xlawheard an_xlawheard cd_xlawheard ct_xlawheard), sl_xlawheard⟩)
    (c_xlawheard1 : PySem.W.codeIn K cd_xlawheard "_law_heard" = true)
    (k_xlawheard : PySem.W.keepIn K (.ref f_xlawheard) = true)
    (a_xlawwordright : PySem.W.nsIn K mainGlobals "_law_word_right" = some (some (.ref f_xlawwordright)))
    (l_xlawwordright : K.lookup f_xlawwordright = some ⟨oc_xlawwordright, od_xlawwordright, .func (PySem.W.fnOf "_law_word_right" "_law_word_right" (defArgs s__law_word_right) (defBody s__law_word_right) (defScope s__law_word_right) .none kV_xlawwordright dc_xlawwordright pm_xlawwordright an_xlawwordright (.ref c_xlawwordright) ct_xlawwordright), sl_xlawwordright⟩)
    (c_xlawwordright1 : PySem.W.codeIn K (.ref c_xlawwordright) "_law_word_right" = true)
    (k_xlawwordright : PySem.W.keepIn K (.ref f_xlawwordright) = true)
    (a_xlaw : PySem.W.nsIn K mainGlobals "law" = some (some (.ref f_xlaw)))
    (l_xlaw : K.lookup f_xlaw = some ⟨oc_xlaw, od_xlaw, .func (PySem.W.fnOf "law" "law" (defArgs s_law) (defBody s_law) (defScope s_law) .none kV_xlaw dc_xlaw pm_xlaw an_xlaw (.ref c_xlaw) ct_xlaw), sl_xlaw⟩)
    (c_xlaw1 : PySem.W.codeIn K (.ref c_xlaw) "law" = true)
    (k_xlaw : PySem.W.keepIn K (.ref f_xlaw) = true)
    (pg_Program : PySem.W.plainGet K C_Program Str.empty = true)
    (hd_Program : PySem.W.hasDictIn K C_Program = true)
    (po_Program : PySem.W.plainOver K C_Program = true)
    (sa_Program : PySem.W.findIn K (.ref C_Program) "__setattr__" = some (some (.builtin "object.__setattr__")))
    (hcl_Program : PySem.W.findIn K (.ref C_Program) "__class__" = some (some (.builtin "object.__class__")))
    (hmo_Program : PySem.W.mroIn K C_Program (.type "object") = some true)
    (mki_Program : PySem.W.makesIn K C_Program = true)
    (kpC_Program : PySem.W.keepIn K (.ref C_Program) = true)
    (kiS_Program : PySem.W.kitOne K (.ref C_Program) (.ref C_Program) = some true)
    (kiT_Program : (tysB fun t => decide (PySem.W.kitOne K (.type t) (.ref C_Program) = some false)) = true)
    (kiN_Program : (tysB fun t => PySem.W.notFirst K C_Program (.type t)) = true)
    (kiF_Program : PySem.W.notFirst K C_Program (.ref C_Program) = true)
    (na_Program_plans : PySem.W.findIn K (.ref C_Program) "plans" = some none)
    (na_Program_rooms : PySem.W.findIn K (.ref C_Program) "rooms" = some none)
    (pg_Setting : PySem.W.plainGet K C_Setting Str.empty = true)
    (hd_Setting : PySem.W.hasDictIn K C_Setting = true)
    (po_Setting : PySem.W.plainOver K C_Setting = true)
    (sa_Setting : PySem.W.findIn K (.ref C_Setting) "__setattr__" = some (some (.builtin "object.__setattr__")))
    (hcl_Setting : PySem.W.findIn K (.ref C_Setting) "__class__" = some (some (.builtin "object.__class__")))
    (hmo_Setting : PySem.W.mroIn K C_Setting (.type "object") = some true)
    (mki_Setting : PySem.W.makesIn K C_Setting = true)
    (kpC_Setting : PySem.W.keepIn K (.ref C_Setting) = true)
    (kiS_Setting : PySem.W.kitOne K (.ref C_Setting) (.ref C_Setting) = some true)
    (kiT_Setting : (tysB fun t => decide (PySem.W.kitOne K (.type t) (.ref C_Setting) = some false)) = true)
    (kiN_Setting : (tysB fun t => PySem.W.notFirst K C_Setting (.type t)) = true)
    (kiF_Setting : PySem.W.notFirst K C_Setting (.ref C_Setting) = true)
    (na_Setting_paces : PySem.W.findIn K (.ref C_Setting) "paces" = some none)
    (na_Setting_order : PySem.W.findIn K (.ref C_Setting) "order" = some none)
    (mTimesError : PySem.W.nsIn K mainGlobals "TimesError" = some (some (.ref kTimesError)))
    (aC_InvalidSetting : PySem.W.nsIn K mainGlobals "InvalidSetting" = some (some (.ref C_InvalidSetting)))
    (xL_InvalidSetting : K.lookup C_InvalidSetting = some (excClassObj nm_InvalidSetting q0_InvalidSetting C_InvalidSetting N_InvalidSetting bs_InvalidSetting [.ref kTimesError, .type "Exception", .type "BaseException", .type "object"] true sn_InvalidSetting sub_InvalidSetting ab_InvalidSetting col_InvalidSetting dd_InvalidSetting m0_InvalidSetting m1_InvalidSetting m2_InvalidSetting m3_InvalidSetting m5_InvalidSetting "Exception.__new__"))
    (sa_InvalidSetting : PySem.W.findIn K (.ref C_InvalidSetting) "__setattr__" = some (some (.builtin "object.__setattr__")))
    (ga_InvalidSetting : PySem.W.findIn K (.ref C_InvalidSetting) "__getattribute__" = some (some (.builtin "BaseException.__getattribute__")))
    (gg_InvalidSetting : PySem.W.findIn K (.ref C_InvalidSetting) "__getattr__" = some none)
    (nb_InvalidSetting : PySem.W.findIn K (.ref C_InvalidSetting) "value" = some none)
    (a1_InvalidSetting : PySem.W.findIn K (.ref C_InvalidSetting) "__init__" = some (some (.ref fI_InvalidSetting)))
    (t1_InvalidSetting : PySem.W.typeIn K (.ref fI_InvalidSetting) = some (.type "function"))
    (l1_InvalidSetting : K.lookup fI_InvalidSetting = some ⟨oci_InvalidSetting, odi_InvalidSetting, .func (PySem.W.fnOf "__init__" "InvalidSetting.__init__" (defArgs s_init_InvalidSetting) (defBody s_init_InvalidSetting) (defScope s_init_InvalidSetting) .none kVi_InvalidSetting dci_InvalidSetting pmi_InvalidSetting ani_InvalidSetting cdi_InvalidSetting cti_InvalidSetting), sli_InvalidSetting⟩)
    (c1_InvalidSetting : PySem.W.codeIn K cdi_InvalidSetting "InvalidSetting.__init__" = true)
    (k1_InvalidSetting : PySem.W.keepIn K (.ref fI_InvalidSetting) = true)
    (kC_InvalidSetting : PySem.W.keepIn K (.ref C_InvalidSetting) = true)
    (eC_InvalidSetting : PySem.W.subIn K (.ref C_InvalidSetting) (.type "BaseException") = some true)
    (tC_InvalidSetting : PySem.W.typeIn K (.ref C_InvalidSetting) = some (.type "type"))
    (hC_InvalidSetting : PySem.W.hasDictIn K C_InvalidSetting = true)
    (hcl_InvalidSetting : PySem.W.findIn K (.ref C_InvalidSetting) "__class__" = some (some (.builtin "object.__class__")))
    (hmo_InvalidSetting : PySem.W.mroIn K C_InvalidSetting (.type "object") = some true)
    (sS_InvalidSetting : PySem.W.subIn K (.ref C_InvalidSetting) (.ref C_InvalidSetting) = some true)
    (aC_UnknownName : PySem.W.nsIn K mainGlobals "UnknownName" = some (some (.ref C_UnknownName)))
    (xL_UnknownName : K.lookup C_UnknownName = some (excClassObj nm_UnknownName q0_UnknownName C_UnknownName N_UnknownName bs_UnknownName [.type "KeyError", .type "LookupError", .type "Exception", .type "BaseException", .type "object"] true sn_UnknownName sub_UnknownName ab_UnknownName col_UnknownName dd_UnknownName m0_UnknownName m1_UnknownName m2_UnknownName m3_UnknownName m5_UnknownName "LookupError.__new__"))
    (sa_UnknownName : PySem.W.findIn K (.ref C_UnknownName) "__setattr__" = some (some (.builtin "object.__setattr__")))
    (ga_UnknownName : PySem.W.findIn K (.ref C_UnknownName) "__getattribute__" = some (some (.builtin "BaseException.__getattribute__")))
    (gg_UnknownName : PySem.W.findIn K (.ref C_UnknownName) "__getattr__" = some none)
    (nb_UnknownName : PySem.W.findIn K (.ref C_UnknownName) "name" = some none)
    (a1_UnknownName : PySem.W.findIn K (.ref C_UnknownName) "__init__" = some (some (.ref fI_UnknownName)))
    (t1_UnknownName : PySem.W.typeIn K (.ref fI_UnknownName) = some (.type "function"))
    (l1_UnknownName : K.lookup fI_UnknownName = some ⟨oci_UnknownName, odi_UnknownName, .func (PySem.W.fnOf "__init__" "UnknownName.__init__" (defArgs s_init_UnknownName) (defBody s_init_UnknownName) (defScope s_init_UnknownName) .none kVi_UnknownName dci_UnknownName pmi_UnknownName ani_UnknownName cdi_UnknownName cti_UnknownName), sli_UnknownName⟩)
    (c1_UnknownName : PySem.W.codeIn K cdi_UnknownName "UnknownName.__init__" = true)
    (k1_UnknownName : PySem.W.keepIn K (.ref fI_UnknownName) = true)
    (kC_UnknownName : PySem.W.keepIn K (.ref C_UnknownName) = true)
    (eC_UnknownName : PySem.W.subIn K (.ref C_UnknownName) (.type "BaseException") = some true)
    (tC_UnknownName : PySem.W.typeIn K (.ref C_UnknownName) = some (.type "type"))
    (hC_UnknownName : PySem.W.hasDictIn K C_UnknownName = true)
    (hcl_UnknownName : PySem.W.findIn K (.ref C_UnknownName) "__class__" = some (some (.builtin "object.__class__")))
    (hmo_UnknownName : PySem.W.mroIn K C_UnknownName (.type "object") = some true)
    (sS_UnknownName : PySem.W.subIn K (.ref C_UnknownName) (.ref C_UnknownName) = some true)
    (aC_InvalidProgram : PySem.W.nsIn K mainGlobals "InvalidProgram" = some (some (.ref C_InvalidProgram)))
    (xL_InvalidProgram : K.lookup C_InvalidProgram = some (excClassObj nm_InvalidProgram q0_InvalidProgram C_InvalidProgram N_InvalidProgram bs_InvalidProgram [.ref kTimesError, .type "Exception", .type "BaseException", .type "object"] true sn_InvalidProgram sub_InvalidProgram ab_InvalidProgram col_InvalidProgram dd_InvalidProgram m0_InvalidProgram m1_InvalidProgram m2_InvalidProgram m3_InvalidProgram m5_InvalidProgram "Exception.__new__"))
    (sa_InvalidProgram : PySem.W.findIn K (.ref C_InvalidProgram) "__setattr__" = some (some (.builtin "object.__setattr__")))
    (ga_InvalidProgram : PySem.W.findIn K (.ref C_InvalidProgram) "__getattribute__" = some (some (.builtin "BaseException.__getattribute__")))
    (gg_InvalidProgram : PySem.W.findIn K (.ref C_InvalidProgram) "__getattr__" = some none)
    (nb_InvalidProgram : PySem.W.findIn K (.ref C_InvalidProgram) "place" = some none)
    (a1_InvalidProgram : PySem.W.findIn K (.ref C_InvalidProgram) "__init__" = some (some (.ref fI_InvalidProgram)))
    (t1_InvalidProgram : PySem.W.typeIn K (.ref fI_InvalidProgram) = some (.type "function"))
    (l1_InvalidProgram : K.lookup fI_InvalidProgram = some ⟨oci_InvalidProgram, odi_InvalidProgram, .func (PySem.W.fnOf "__init__" "InvalidProgram.__init__" (defArgs s_init_InvalidProgram) (defBody s_init_InvalidProgram) (defScope s_init_InvalidProgram) .none kVi_InvalidProgram dci_InvalidProgram pmi_InvalidProgram ani_InvalidProgram cdi_InvalidProgram cti_InvalidProgram), sli_InvalidProgram⟩)
    (c1_InvalidProgram : PySem.W.codeIn K cdi_InvalidProgram "InvalidProgram.__init__" = true)
    (k1_InvalidProgram : PySem.W.keepIn K (.ref fI_InvalidProgram) = true)
    (kC_InvalidProgram : PySem.W.keepIn K (.ref C_InvalidProgram) = true)
    (eC_InvalidProgram : PySem.W.subIn K (.ref C_InvalidProgram) (.type "BaseException") = some true)
    (tC_InvalidProgram : PySem.W.typeIn K (.ref C_InvalidProgram) = some (.type "type"))
    (hC_InvalidProgram : PySem.W.hasDictIn K C_InvalidProgram = true)
    (hcl_InvalidProgram : PySem.W.findIn K (.ref C_InvalidProgram) "__class__" = some (some (.builtin "object.__class__")))
    (hmo_InvalidProgram : PySem.W.mroIn K C_InvalidProgram (.type "object") = some true)
    (sS_InvalidProgram : PySem.W.subIn K (.ref C_InvalidProgram) (.ref C_InvalidProgram) = some true)
    (kiX_UnknownName_KeyError : PySem.W.kitOne K (.ref C_UnknownName) (.type "KeyError") = some true)
    (kiX_UnknownName_TimesError : PySem.W.kitOne K (.ref C_UnknownName) (.ref kTimesError) = some false)
    (sN_InvalidProgram_UnknownName : PySem.W.subIn K (.ref C_InvalidProgram) (.ref C_UnknownName) = some false)
    (sN_InvalidSetting_InvalidProgram : PySem.W.subIn K (.ref C_InvalidSetting) (.ref C_InvalidProgram) = some false)
    (sN_InvalidSetting_UnknownName : PySem.W.subIn K (.ref C_InvalidSetting) (.ref C_UnknownName) = some false)
    (hgs : PySem.W.specialIn K (.builtin "object.__class__") "__get__" = some (some (.builtin "getset_descriptor.__get__")))
    (htk : PySem.W.takesIn K (.builtin "object.__class__") = some true)
    (z_KeyError : PySem.W.nsIn K mainGlobals "KeyError" = some none)
    (z_all : PySem.W.nsIn K mainGlobals "all" = some none)
    (z_bool : PySem.W.nsIn K mainGlobals "bool" = some none)
    (z_dict : PySem.W.nsIn K mainGlobals "dict" = some none)
    (z_enumerate : PySem.W.nsIn K mainGlobals "enumerate" = some none)
    (z_int : PySem.W.nsIn K mainGlobals "int" = some none)
    (z_isinstance : PySem.W.nsIn K mainGlobals "isinstance" = some none)
    (z_len : PySem.W.nsIn K mainGlobals "len" = some none)
    (z_max : PySem.W.nsIn K mainGlobals "max" = some none)
    (z_range : PySem.W.nsIn K mainGlobals "range" = some none)
    (z_repr : PySem.W.nsIn K mainGlobals "repr" = some none)
    (z_str : PySem.W.nsIn K mainGlobals "str" = some none)
    (z_tuple : PySem.W.nsIn K mainGlobals "tuple" = some none)
    (z_zip : PySem.W.nsIn K mainGlobals "zip" = some none)
    (aZ_RULES : PySem.W.nsIn K mainGlobals "RULES" = some (some (.ref A_RULES)))
    (lZ_RULES : K.lookup A_RULES = some ⟨.type "tuple", od_RULES, .seq #[.str "turn" t0_RULES, .str "number" t1_RULES] nn_RULES, sl_RULES⟩)
    (aZ_FORMS : PySem.W.nsIn K mainGlobals "FORMS" = some (some (.ref A_FORMS)))
    (lZ_FORMS : K.lookup A_FORMS = some ⟨.type "dict", none, .dict #[⟨PyData.keyHash w.params "work", .str "work" tk0_FORMS, .ref a0_FORMS⟩, ⟨PyData.keyHash w.params "take", .str "take" tk1_FORMS, .ref a1_FORMS⟩, ⟨PyData.keyHash w.params "give", .str "give" tk2_FORMS, .ref a2_FORMS⟩, ⟨PyData.keyHash w.params "put", .str "put" tk3_FORMS, .ref a3_FORMS⟩, ⟨PyData.keyHash w.params "get", .str "get" tk4_FORMS, .ref a4_FORMS⟩, ⟨PyData.keyHash w.params "skip", .str "skip" tk5_FORMS, .ref a5_FORMS⟩, ⟨PyData.keyHash w.params "await", .str "await" tk6_FORMS, .ref a6_FORMS⟩] nn_FORMS, #[]⟩)
    (kiL_FORMS : (A_FORMS == sysModules) = false)
    (lZ0_FORMS : K.lookup a0_FORMS = some ⟨.type "tuple", od0_FORMS, .seq #[.str "name" u0_0_FORMS, .str "amount" u0_1_FORMS] nt0_FORMS, sl0_FORMS⟩)
    (lZ1_FORMS : K.lookup a1_FORMS = some ⟨.type "tuple", od1_FORMS, .seq #[.str "name" u1_0_FORMS] nt1_FORMS, sl1_FORMS⟩)
    (lZ2_FORMS : K.lookup a2_FORMS = some ⟨.type "tuple", od2_FORMS, .seq #[.str "name" u2_0_FORMS] nt2_FORMS, sl2_FORMS⟩)
    (lZ3_FORMS : K.lookup a3_FORMS = some ⟨.type "tuple", od3_FORMS, .seq #[.str "name" u3_0_FORMS, .str "value" u3_1_FORMS] nt3_FORMS, sl3_FORMS⟩)
    (lZ4_FORMS : K.lookup a4_FORMS = some ⟨.type "tuple", od4_FORMS, .seq #[.str "name" u4_0_FORMS] nt4_FORMS, sl4_FORMS⟩)
    (lZ5_FORMS : K.lookup a5_FORMS = some ⟨.type "tuple", od5_FORMS, .seq #[.str "value" u5_0_FORMS, .str "count" u5_1_FORMS] nt5_FORMS, sl5_FORMS⟩)
    (lZ6_FORMS : K.lookup a6_FORMS = some ⟨.type "tuple", od6_FORMS, .seq #[.str "task" u6_0_FORMS] nt6_FORMS, sl6_FORMS⟩)
    (aZ_LIMITS : PySem.W.nsIn K mainGlobals "LIMITS" = some (some (.ref A_LIMITS)))
    (lZ_LIMITS : K.lookup A_LIMITS = some ⟨.type "dict", none, .dict #[⟨PyData.keyHash w.params "amount", .str "amount" tk0_LIMITS, .ref a0_LIMITS⟩, ⟨PyData.keyHash w.params "value", .str "value" tk1_LIMITS, .ref a1_LIMITS⟩, ⟨PyData.keyHash w.params "count", .str "count" tk2_LIMITS, .ref a2_LIMITS⟩] nn_LIMITS, #[]⟩)
    (kiL_LIMITS : (A_LIMITS == sysModules) = false)
    (lZ0_LIMITS : K.lookup a0_LIMITS = some ⟨.type "tuple", od0_LIMITS, .seq #[.int 0 u0_0_LIMITS, .int 1000000000000000000000000000000 u0_1_LIMITS] nt0_LIMITS, sl0_LIMITS⟩)
    (lZ1_LIMITS : K.lookup a1_LIMITS = some ⟨.type "tuple", od1_LIMITS, .seq #[.int 0 u1_0_LIMITS, .int 9 u1_1_LIMITS] nt1_LIMITS, sl1_LIMITS⟩)
    (lZ2_LIMITS : K.lookup a2_LIMITS = some ⟨.type "tuple", od2_LIMITS, .seq #[.int 1 u2_0_LIMITS, .int 20 u2_1_LIMITS] nt2_LIMITS, sl2_LIMITS⟩)
    (aZ_MOSTSLOWNESS : PySem.W.nsIn K mainGlobals "MOST_SLOWNESS" = some (some (.int 1000000 t0_MOSTSLOWNESS)))
    (aZ_MOSTTASKS : PySem.W.nsIn K mainGlobals "MOST_TASKS" = some (some (.int 6 t0_MOSTTASKS)))
    (aZ_MOSTSTEPS : PySem.W.nsIn K mainGlobals "MOST_STEPS" = some (some (.int 20 t0_MOSTSTEPS)))
    (hTxlawwordright : h.get? P_xlawwordright = some (PySem.W.tabObj #[])) (hTxlaw : h.get? P_xlaw = some (PySem.W.tabObj #[])) (nTxlawwordright : K.lookup P_xlawwordright = none) (hHxlawwordright : PySem.W.codeHdIn K c_xlawwordright P_xlawwordright = true) (nTxlaw : K.lookup P_xlaw = none) (hHxlaw : PySem.W.codeHdIn K c_xlaw P_xlaw = true) (nexlawwordrightxlaw : (P_xlawwordright == P_xlaw) = false) (Kl : K.all (fun p => !(p.2.cls == .type "list")) = true) : LawV PySem.Challenge.rw_whatiftimes_k08_names_and_capacities w K 15 63 mg fa h := by
  have e := hfa.symm.trans (PySem.W.mg_of X G a_xlaw)
  cases e
  refine ⟨[(c_xlawwordright, P_xlawwordright), (c_xlaw, P_xlaw)], Tx.plain K [(P_xlawwordright, lamq_law_word_right), (P_xlaw, lamqlaw)] (cvOf ⟨C_InvalidSetting, C_UnknownName, C_InvalidProgram, C_Program, C_Setting⟩), m_law, (fun p hp => by
    simp only [List.mem_cons, List.not_mem_nil, or_false] at hp
    rcases hp with rfl | rfl
    · exact hTxlawwordright
    · exact hTxlaw), (fun p hp => by
    simp only [List.mem_cons, List.not_mem_nil, or_false] at hp
    rcases hp with rfl | rfl
    · exact nTxlawwordright
    · exact nTxlaw), (fun p hp => by
    simp only [List.mem_cons, List.not_mem_nil, or_false] at hp
    rcases hp with rfl | rfl
    · exact PySem.W.codeHd_of_K X hHxlawwordright
    · exact PySem.W.codeHd_of_K X hHxlaw), Kl, (fun p hp => by
    simp only [Tx.plain, List.mem_cons, List.not_mem_nil, or_false] at hp
    rcases hp with rfl | rfl <;> simp), fun _ => trivial, fun base KB GB TB => ?_, true_⟩

  have oex_InvalidSetting : OexH K C_InvalidSetting := ⟨⟨"Exception", _, _, _, "Exception", _, F.excBase_Exception, F.store_Exception, nm_InvalidSetting, q0_InvalidSetting, N_InvalidSetting, bs_InvalidSetting, _, sn_InvalidSetting, sub_InvalidSetting, ab_InvalidSetting, col_InvalidSetting, dd_InvalidSetting, m0_InvalidSetting, m1_InvalidSetting, m2_InvalidSetting, m3_InvalidSetting, m5_InvalidSetting, xL_InvalidSetting, by first | decide +kernel | rfl, by first | decide +kernel | rfl, by first | decide +kernel | rfl, by first | decide +kernel | rfl⟩, sa_InvalidSetting, eC_InvalidSetting, tC_InvalidSetting, kC_InvalidSetting⟩
  have FI_InvalidSetting := fun_mk (st := s_init_InvalidSetting) l1_InvalidSetting c1_InvalidSetting k1_InvalidSetting
  have bI_InvalidSetting := FI_InvalidSetting.binds (ps := ["self", "value"]) fun _ _ _ _ _ _ us hl => match us, hl with | [_, _], _ => rfl
  have bK_InvalidSetting := kbind1 (fl := "value") (ps := ["self", "value"]) FI_InvalidSetting fun _ _ _ _ _ _ _ _ => rfl
  have oex_UnknownName : OexH K C_UnknownName := ⟨⟨"LookupError", _, _, _, "KeyError", _, F.excBase_LookupError, VX.keyStore, nm_UnknownName, q0_UnknownName, N_UnknownName, bs_UnknownName, _, sn_UnknownName, sub_UnknownName, ab_UnknownName, col_UnknownName, dd_UnknownName, m0_UnknownName, m1_UnknownName, m2_UnknownName, m3_UnknownName, m5_UnknownName, xL_UnknownName, by first | decide +kernel | rfl, by first | decide +kernel | rfl, by first | decide +kernel | rfl, by first | decide +kernel | rfl⟩, sa_UnknownName, eC_UnknownName, tC_UnknownName, kC_UnknownName⟩
  have FI_UnknownName := fun_mk (st := s_init_UnknownName) l1_UnknownName c1_UnknownName k1_UnknownName
  have bI_UnknownName := FI_UnknownName.binds (ps := ["self", "name"]) fun _ _ _ _ _ _ us hl => match us, hl with | [_, _], _ => rfl
  have bK_UnknownName := kbind1 (fl := "name") (ps := ["self", "name"]) FI_UnknownName fun _ _ _ _ _ _ _ _ => rfl
  have oex_InvalidProgram : OexH K C_InvalidProgram := ⟨⟨"Exception", _, _, _, "Exception", _, F.excBase_Exception, F.store_Exception, nm_InvalidProgram, q0_InvalidProgram, N_InvalidProgram, bs_InvalidProgram, _, sn_InvalidProgram, sub_InvalidProgram, ab_InvalidProgram, col_InvalidProgram, dd_InvalidProgram, m0_InvalidProgram, m1_InvalidProgram, m2_InvalidProgram, m3_InvalidProgram, m5_InvalidProgram, xL_InvalidProgram, by first | decide +kernel | rfl, by first | decide +kernel | rfl, by first | decide +kernel | rfl, by first | decide +kernel | rfl⟩, sa_InvalidProgram, eC_InvalidProgram, tC_InvalidProgram, kC_InvalidProgram⟩
  have FI_InvalidProgram := fun_mk (st := s_init_InvalidProgram) l1_InvalidProgram c1_InvalidProgram k1_InvalidProgram
  have bI_InvalidProgram := FI_InvalidProgram.binds (ps := ["self", "place"]) fun _ _ _ _ _ _ us hl => match us, hl with | [_, _], _ => rfl
  have bK_InvalidProgram := kbind1 (fl := "place") (ps := ["self", "place"]) FI_InvalidProgram fun _ _ _ _ _ _ _ _ => rfl
  have F_xiswhole := fun_mk (st := s_is_whole) l_xiswhole c_xiswhole1 k_xiswhole
  have b_xiswhole := F_xiswhole.binds (ps := ["value"]) fun _ _ _ _ _ _ us hl => match us, hl with | [_], _ => rfl
  have F_xisname := fun_mk (st := s_is_name) l_xisname c_xisname1 k_xisname
  have b_xisname := F_xisname.binds (ps := ["value"]) fun _ _ _ _ _ _ us hl => match us, hl with | [_], _ => rfl
  have F_xrequirename := fun_mk (st := s_require_name) l_xrequirename c_xrequirename1 k_xrequirename
  have b_xrequirename := F_xrequirename.binds (ps := ["value"]) fun _ _ _ _ _ _ us hl => match us, hl with | [_], _ => rfl
  have F_xformof := fun_mk (st := s_form_of) l_xformof c_xformof1 k_xformof
  have b_xformof := F_xformof.binds (ps := ["word"]) fun _ _ _ _ _ _ us hl => match us, hl with | [_], _ => rfl
  have F_xisitem := fun_mk (st := s_is_item) l_xisitem c_xisitem1 k_xisitem
  have b_xisitem := F_xisitem.binds (ps := ["item", "kind", "tasks"]) fun _ _ _ _ _ _ us hl => match us, hl with | [_, _, _], _ => rfl
  have F_xisstep := fun_mk (st := s_is_step) l_xisstep c_xisstep1 k_xisstep
  have b_xisstep := F_xisstep.binds (ps := ["value", "tasks"]) fun _ _ _ _ _ _ us hl => match us, hl with | [_, _], _ => rfl
  have F_xrequiretasks := fun_mk (st := s_require_tasks) l_xrequiretasks c_xrequiretasks1 k_xrequiretasks
  have b_xrequiretasks := F_xrequiretasks.binds (ps := ["tasks"]) fun _ _ _ _ _ _ us hl => match us, hl with | [_], _ => rfl
  have F_xiscapacity := fun_mk (st := s_is_capacity) l_xiscapacity c_xiscapacity1 k_xiscapacity
  have b_xiscapacity := F_xiscapacity.binds (ps := ["value"]) fun _ _ _ _ _ _ us hl => match us, hl with | [_], _ => rfl
  have F_xrequirecapacities := fun_mk (st := s_require_capacities) l_xrequirecapacities c_xrequirecapacities1 k_xrequirecapacities
  have b_xrequirecapacities := F_xrequirecapacities.binds (ps := ["capacities"]) fun _ _ _ _ _ _ us hl => match us, hl with | [_], _ => rfl
  have F_xPrograminit : FunD K "__init__" "Program.__init__" (defArgs s_Program_init) (defBody s_Program_init) (defScope s_Program_init) [.non] [] f_xPrograminit _ := ⟨⟨oc_xPrograminit, od_xPrograminit, .ref TD_xPrograminit, kV_xPrograminit, dc_xPrograminit, pm_xPrograminit, an_xPrograminit, cd_xPrograminit, ct_xPrograminit, sl_xPrograminit, rfl, l_xPrograminit, c_xPrograminit1, Or.inr ⟨by simp, TD_xPrograminit, _, _, tn_xPrograminit, rfl, lT_xPrograminit, rfl, (.cons rfl .nil)⟩, Or.inl rfl⟩, k_xPrograminit⟩
  have kb_Program_1 : KbF K _ ["self", "tasks", "capacities"] 1 [] 2 gm_Program_1 := kbF_of (j := 0) (dvs := [.non]) (mvs := []) rfl (fun _ => (.cons rfl .nil)) (fun _ => .nil) rfl ((F_xPrograminit.kbindsD 2 [] (fun us its ws => gAll 0 us its [] ws) (by simp) (fun a b d => gAll_rel a b .nil d) (fun T kV doc pm an cdv ct us its ws h1 h2 h4 => match us, its, ws, h1, h2, h4 with | [_, _], [_], [], _, _, _ => ⟨_, rfl, rfl⟩)).elim fun its h => ⟨its, [], h⟩)
  have kb_Program_2 : KbF K _ ["self", "tasks", "capacities"] 2 [] 2 gm_Program_2 := kbF_of (j := 1) (dvs := [.non]) (mvs := []) rfl (fun _ => .nil) (fun _ => .nil) rfl ((F_xPrograminit.kbindsD 3 [] (fun us its ws => gAll 1 us its [] ws) (by simp) (fun a b d => gAll_rel a b .nil d) (fun T kV doc pm an cdv ct us its ws h1 h2 h4 => match us, its, ws, h1, h2, h4 with | [_, _, _], [_], [], _, _, _ => ⟨_, rfl, rfl⟩)).elim fun its h => ⟨its, [], h⟩)
  have F_xProgramtasks := fun_mk (st := s_Program_tasks) l_xProgramtasks c_xProgramtasks1 k_xProgramtasks
  have b_xProgramtasks := F_xProgramtasks.binds (ps := ["self"]) fun _ _ _ _ _ _ us hl => match us, hl with | [_], _ => rfl
  have F_xProgramcapacity := fun_mk (st := s_Program_capacity) l_xProgramcapacity c_xProgramcapacity1 k_xProgramcapacity
  have b_xProgramcapacity := F_xProgramcapacity.binds (ps := ["self", "queue"]) fun _ _ _ _ _ _ us hl => match us, hl with | [_, _], _ => rfl
  have F_xispace := fun_mk (st := s_is_pace) l_xispace c_xispace1 k_xispace
  have b_xispace := F_xispace.binds (ps := ["value"]) fun _ _ _ _ _ _ us hl => match us, hl with | [_], _ => rfl
  have F_xarepaces := fun_mk (st := s_are_paces) l_xarepaces c_xarepaces1 k_xarepaces
  have b_xarepaces := F_xarepaces.binds (ps := ["value"]) fun _ _ _ _ _ _ us hl => match us, hl with | [_], _ => rfl
  have F_xSettinginit : FunD K "__init__" "Setting.__init__" (defArgs s_Setting_init) (defBody s_Setting_init) (defScope s_Setting_init) [.non] [("rule", .str "turn")] f_xSettinginit _ := ⟨⟨oc_xSettinginit, od_xSettinginit, .ref TD_xSettinginit, .ref KD_xSettinginit, dc_xSettinginit, pm_xSettinginit, an_xSettinginit, cd_xSettinginit, ct_xSettinginit, sl_xSettinginit, rfl, l_xSettinginit, c_xSettinginit1, Or.inr ⟨by simp, TD_xSettinginit, _, _, tn_xSettinginit, rfl, lT_xSettinginit, rfl, (.cons rfl .nil)⟩, Or.inr ⟨KD_xSettinginit, rfl, (fun q hq => by
    simp only [List.mem_cons, List.not_mem_nil, or_false] at hq
    rcases hq with rfl
    · exact ⟨_, lK0_xSettinginit, ⟨_, rfl⟩⟩)⟩⟩, k_xSettinginit⟩
  have kb_Setting_0 : KbF K _ ["self", "slownesses", "rule"] 0 [] 2 gm_Setting_0 := kbF_of (j := 0) (dvs := [.non]) (mvs := [.str "turn"]) rfl (fun _ => (.cons rfl .nil)) (fun _ => (.cons rfl .nil)) rfl (F_xSettinginit.kbinds 1 [] [("rule", .str "turn")] (fun us its mv ws => gAll 0 us its mv ws) (by simp) (by simp) (by simp) (fun a b c d => gAll_rel a b c d) (fun T D doc pm an cdv ct us its mv ws h1 h2 h3 h4 => match us, its, mv, ws, h1, h2, h3, h4 with | [_], [_], [_], [], _, _, _, _ => ⟨_, rfl, ⟨_, _, _, _, _, _, rfl, rfl, rfl⟩⟩))
  have kb_Setting_1 : KbF K _ ["self", "slownesses", "rule"] 1 [] 2 gm_Setting_1 := kbF_of (j := 1) (dvs := [.non]) (mvs := [.str "turn"]) rfl (fun _ => .nil) (fun _ => (.cons rfl .nil)) rfl (F_xSettinginit.kbinds 2 [] [("rule", .str "turn")] (fun us its mv ws => gAll 1 us its mv ws) (by simp) (by simp) (by simp) (fun a b c d => gAll_rel a b c d) (fun T D doc pm an cdv ct us its mv ws h1 h2 h3 h4 => match us, its, mv, ws, h1, h2, h3, h4 with | [_, _], [_], [_], [], _, _, _, _ => ⟨_, rfl, ⟨_, _, _, _, _, _, rfl, rfl, rfl⟩⟩))
  have F_xSettingslowness := fun_mk (st := s_Setting_slowness) l_xSettingslowness c_xSettingslowness1 k_xSettingslowness
  have b_xSettingslowness := F_xSettingslowness.binds (ps := ["self", "part"]) fun _ _ _ _ _ _ us hl => match us, hl with | [_, _], _ => rfl
  have F_xlawnumbers := fun_mk (st := s__law_numbers) l_xlawnumbers c_xlawnumbers1 k_xlawnumbers
  have b_xlawnumbers := F_xlawnumbers.binds (ps := ["_law_cell", "_law_salt", "_law_sizes"]) fun _ _ _ _ _ _ us hl => match us, hl with | [_, _, _], _ => rfl
  have F_xlawdraw := fun_mk (st := s__law_draw) l_xlawdraw c_xlawdraw1 k_xlawdraw
  have b_xlawdraw := F_xlawdraw.binds (ps := ["_law_state", "_law_many"]) fun _ _ _ _ _ _ us hl => match us, hl with | [_, _], _ => rfl
  have F_xlawisname := fun_mk (st := s__law_is_name) l_xlawisname c_xlawisname1 k_xlawisname
  have b_xlawisname := F_xlawisname.binds (ps := ["_law_value"]) fun _ _ _ _ _ _ us hl => match us, hl with | [_], _ => rfl
  have F_xlawiswhole := fun_mk (st := s__law_is_whole) l_xlawiswhole c_xlawiswhole1 k_xlawiswhole
  have b_xlawiswhole := F_xlawiswhole.binds (ps := ["_law_value", "_law_least", "_law_most"]) fun _ _ _ _ _ _ us hl => match us, hl with | [_, _, _], _ => rfl
  have F_xlawword := fun_mk (st := s__law_word) l_xlawword c_xlawword1 k_xlawword
  have b_xlawword := F_xlawword.binds (ps := ["_law_state"]) fun _ _ _ _ _ _ us hl => match us, hl with | [_], _ => rfl
  have F_xlawheard := fun_mk (st := s__law_heard) l_xlawheard c_xlawheard1 k_xlawheard
  have b_xlawheard := F_xlawheard.binds (ps := ["_law_call"]) fun _ _ _ _ _ _ us hl => match us, hl with | [_], _ => rfl
  have F_xlawwordright := fun_mk (st := s__law_word_right) l_xlawwordright c_xlawwordright1 k_xlawwordright
  have b_xlawwordright := F_xlawwordright.binds (ps := ["_law_word_here", "_law_many"]) fun _ _ _ _ _ _ us hl => match us, hl with | [_, _], _ => rfl
  have F_xlaw := fun_mk (st := s_law) l_xlaw c_xlaw1 k_xlaw
  have b_xlaw := F_xlaw.binds (ps := ["_law_script"]) fun _ _ _ _ _ _ us hl => match us, hl with | [_], _ => rfl
  have cls_Program : Cls K C_Program := ⟨pg_Program, hd_Program, po_Program, sa_Program⟩
  have cls_Setting : Cls K C_Setting := ⟨pg_Setting, hd_Setting, po_Setting, sa_Setting⟩
  let G9 : Gx PySem.Challenge.rw_whatiftimes_k08_names_and_capacities.prog w K mg base :=
    { c := ⟨C_InvalidSetting, C_UnknownName, C_InvalidProgram, C_Program, C_Setting⟩,
      e_InvalidSetting := ⟨oex_InvalidSetting, PySem.W.mg_of X G aC_InvalidSetting, fI_InvalidSetting, _, a1_InvalidSetting, t1_InvalidSetting, ok_init_InvalidSetting FI_InvalidSetting oex_InvalidSetting nb_InvalidSetting, bI_InvalidSetting, bK_InvalidSetting⟩, xf_InvalidSetting := ⟨ga_InvalidSetting, gg_InvalidSetting, eC_InvalidSetting, hC_InvalidSetting⟩, no_InvalidSetting := nb_InvalidSetting, xc_InvalidSetting := ⟨ga_InvalidSetting, gg_InvalidSetting, eC_InvalidSetting, hC_InvalidSetting, hcl_InvalidSetting, hgs, htk, hmo_InvalidSetting⟩, te_InvalidSetting := PySem.W.exm_ref eC_InvalidSetting hC_InvalidSetting tC_InvalidSetting sS_InvalidSetting,
      e_UnknownName := ⟨oex_UnknownName, PySem.W.mg_of X G aC_UnknownName, fI_UnknownName, _, a1_UnknownName, t1_UnknownName, ok_init_UnknownName FI_UnknownName oex_UnknownName nb_UnknownName, bI_UnknownName, bK_UnknownName⟩, xf_UnknownName := ⟨ga_UnknownName, gg_UnknownName, eC_UnknownName, hC_UnknownName⟩, no_UnknownName := nb_UnknownName, xc_UnknownName := ⟨ga_UnknownName, gg_UnknownName, eC_UnknownName, hC_UnknownName, hcl_UnknownName, hgs, htk, hmo_UnknownName⟩, te_UnknownName := PySem.W.exm_ref eC_UnknownName hC_UnknownName tC_UnknownName sS_UnknownName,
      e_InvalidProgram := ⟨oex_InvalidProgram, PySem.W.mg_of X G aC_InvalidProgram, fI_InvalidProgram, _, a1_InvalidProgram, t1_InvalidProgram, ok_init_InvalidProgram FI_InvalidProgram oex_InvalidProgram nb_InvalidProgram, bI_InvalidProgram, bK_InvalidProgram⟩, xf_InvalidProgram := ⟨ga_InvalidProgram, gg_InvalidProgram, eC_InvalidProgram, hC_InvalidProgram⟩, no_InvalidProgram := nb_InvalidProgram, xc_InvalidProgram := ⟨ga_InvalidProgram, gg_InvalidProgram, eC_InvalidProgram, hC_InvalidProgram, hcl_InvalidProgram, hgs, htk, hmo_InvalidProgram⟩, te_InvalidProgram := PySem.W.exm_ref eC_InvalidProgram hC_InvalidProgram tC_InvalidProgram sS_InvalidProgram,
      kTimesError := _, m_TimesError := PySem.W.mg_of X G mTimesError,
      ki_UnknownName_KeyError := kiX_UnknownName_KeyError,
      ki_UnknownName_TimesError := kiX_UnknownName_TimesError,
      tn_InvalidProgram_UnknownName := PySem.W.exm_ref eC_UnknownName hC_UnknownName tC_UnknownName sN_InvalidProgram_UnknownName,
      tn_InvalidSetting_InvalidProgram := PySem.W.exm_ref eC_InvalidProgram hC_InvalidProgram tC_InvalidProgram sN_InvalidSetting_InvalidProgram,
      tn_InvalidSetting_UnknownName := PySem.W.exm_ref eC_UnknownName hC_UnknownName tC_UnknownName sN_InvalidSetting_UnknownName,
      mg_Program := PySem.W.mg_of X G aC_Program, cls_Program := cls_Program, ic_Program := ⟨cls_Program, hcl_Program, hgs, htk, hmo_Program⟩, mkc_Program := ⟨mki_Program, a_xPrograminit, i_xPrograminit, kpC_Program⟩, kit_Program := kiS_Program, kt_Program := (fun t ht => of_decide_eq_true (tys_of kiT_Program t ht)), nf_Program := tys_of kiN_Program, nfs_Program := kiF_Program,
      na_Program_plans := na_Program_plans,
      na_Program_rooms := na_Program_rooms,
      me_Program_capacity := ⟨a_xProgramcapacity, i_xProgramcapacity, k_xProgramcapacity⟩,
      pa_Program_tasks := _, pr_Program_tasks := ⟨pt_xProgramtasks, pg_xProgramtasks, pk_xProgramtasks, re_xProgramtasks, pr_xProgramtasks⟩,
      mg_Setting := PySem.W.mg_of X G aC_Setting, cls_Setting := cls_Setting, ic_Setting := ⟨cls_Setting, hcl_Setting, hgs, htk, hmo_Setting⟩, mkc_Setting := ⟨mki_Setting, a_xSettinginit, i_xSettinginit, kpC_Setting⟩, kit_Setting := kiS_Setting, kt_Setting := (fun t ht => of_decide_eq_true (tys_of kiT_Setting t ht)), nf_Setting := tys_of kiN_Setting, nfs_Setting := kiF_Setting,
      na_Setting_paces := na_Setting_paces,
      na_Setting_order := na_Setting_order,
      me_Setting_slowness := ⟨a_xSettingslowness, i_xSettingslowness, k_xSettingslowness⟩,
      cO_law_word_right := c_xlawwordright, pO_law_word_right := P_xlawwordright, FC_law_word_right := ⟨⟨_, _, _, _, _, _, _, _, rfl, l_xlawwordright, c_xlawwordright1⟩, k_xlawwordright⟩, TB_law_word_right := TB _ List.mem_cons_self,
      cOlaw := c_xlaw, pOlaw := P_xlaw, FClaw := ⟨⟨_, _, _, _, _, _, _, _, rfl, l_xlaw, c_xlaw1⟩, k_xlaw⟩, TBlaw := TB _ (List.mem_cons_of_mem _ List.mem_cons_self),
      ne_law_word_rightlaw := (fun z => by rw [z, beq_self_eq_true] at nexlawwordrightxlaw; cases nexlawwordrightxlaw),
      f_is_whole := _, d_is_whole := _, F_is_whole := F_xiswhole, g_is_whole := PySem.W.mg_of X G a_xiswhole, n_is_whole := b_xiswhole, k_is_whole := k_xiswhole,
      f_is_name := _, d_is_name := _, F_is_name := F_xisname, g_is_name := PySem.W.mg_of X G a_xisname, n_is_name := b_xisname, k_is_name := k_xisname,
      f_require_name := _, d_require_name := _, F_require_name := F_xrequirename, g_require_name := PySem.W.mg_of X G a_xrequirename, n_require_name := b_xrequirename, k_require_name := k_xrequirename,
      f_form_of := _, d_form_of := _, F_form_of := F_xformof, g_form_of := PySem.W.mg_of X G a_xformof, n_form_of := b_xformof, k_form_of := k_xformof,
      f_is_item := _, d_is_item := _, F_is_item := F_xisitem, g_is_item := PySem.W.mg_of X G a_xisitem, n_is_item := b_xisitem, k_is_item := k_xisitem,
      f_is_step := _, d_is_step := _, F_is_step := F_xisstep, g_is_step := PySem.W.mg_of X G a_xisstep, n_is_step := b_xisstep, k_is_step := k_xisstep,
      f_require_tasks := _, d_require_tasks := _, F_require_tasks := F_xrequiretasks, g_require_tasks := PySem.W.mg_of X G a_xrequiretasks, n_require_tasks := b_xrequiretasks, k_require_tasks := k_xrequiretasks,
      f_is_capacity := _, d_is_capacity := _, F_is_capacity := F_xiscapacity, g_is_capacity := PySem.W.mg_of X G a_xiscapacity, n_is_capacity := b_xiscapacity, k_is_capacity := k_xiscapacity,
      f_require_capacities := _, d_require_capacities := _, F_require_capacities := F_xrequirecapacities, g_require_capacities := PySem.W.mg_of X G a_xrequirecapacities, n_require_capacities := b_xrequirecapacities, k_require_capacities := k_xrequirecapacities,
      f_Program_init := _, d_Program_init := _, F_Program_init := F_xPrograminit, kb_Program_1 := kb_Program_1, kb_Program_2 := kb_Program_2, k_Program_init := k_xPrograminit,
      f_Program_tasks := _, d_Program_tasks := _, F_Program_tasks := F_xProgramtasks, n_Program_tasks := b_xProgramtasks, k_Program_tasks := k_xProgramtasks,
      f_Program_capacity := _, d_Program_capacity := _, F_Program_capacity := F_xProgramcapacity, n_Program_capacity := b_xProgramcapacity, k_Program_capacity := k_xProgramcapacity,
      f_is_pace := _, d_is_pace := _, F_is_pace := F_xispace, g_is_pace := PySem.W.mg_of X G a_xispace, n_is_pace := b_xispace, k_is_pace := k_xispace,
      f_are_paces := _, d_are_paces := _, F_are_paces := F_xarepaces, g_are_paces := PySem.W.mg_of X G a_xarepaces, n_are_paces := b_xarepaces, k_are_paces := k_xarepaces,
      f_Setting_init := _, d_Setting_init := _, F_Setting_init := F_xSettinginit, kb_Setting_0 := kb_Setting_0, kb_Setting_1 := kb_Setting_1, k_Setting_init := k_xSettinginit,
      f_Setting_slowness := _, d_Setting_slowness := _, F_Setting_slowness := F_xSettingslowness, n_Setting_slowness := b_xSettingslowness, k_Setting_slowness := k_xSettingslowness,
      f__law_numbers := _, d__law_numbers := _, F__law_numbers := F_xlawnumbers, g__law_numbers := PySem.W.mg_of X G a_xlawnumbers, n__law_numbers := b_xlawnumbers, k__law_numbers := k_xlawnumbers,
      f__law_draw := _, d__law_draw := _, F__law_draw := F_xlawdraw, g__law_draw := PySem.W.mg_of X G a_xlawdraw, n__law_draw := b_xlawdraw, k__law_draw := k_xlawdraw,
      f__law_is_name := _, d__law_is_name := _, F__law_is_name := F_xlawisname, g__law_is_name := PySem.W.mg_of X G a_xlawisname, n__law_is_name := b_xlawisname, k__law_is_name := k_xlawisname,
      f__law_is_whole := _, d__law_is_whole := _, F__law_is_whole := F_xlawiswhole, g__law_is_whole := PySem.W.mg_of X G a_xlawiswhole, n__law_is_whole := b_xlawiswhole, k__law_is_whole := k_xlawiswhole,
      f__law_word := _, d__law_word := _, F__law_word := F_xlawword, g__law_word := PySem.W.mg_of X G a_xlawword, n__law_word := b_xlawword, k__law_word := k_xlawword,
      f__law_heard := _, d__law_heard := _, F__law_heard := F_xlawheard, g__law_heard := PySem.W.mg_of X G a_xlawheard, n__law_heard := b_xlawheard, k__law_heard := k_xlawheard,
      f__law_word_right := _, d__law_word_right := _, F__law_word_right := F_xlawwordright, g__law_word_right := PySem.W.mg_of X G a_xlawwordright, n__law_word_right := b_xlawwordright, k__law_word_right := k_xlawwordright,
      f_law := _, d_law := _, F_law := F_xlaw, g_law := PySem.W.mg_of X G a_xlaw, n_law := b_xlaw, k_law := k_xlaw,
      za_RULES := _, zm_RULES := PySem.W.mg_of X G aZ_RULES, zk_RULES := ⟨_, _, _, lZ_RULES, rfl, rfl, by show 2 ≤ sizeLine; decide, (.cons ⟨_, rfl⟩ (.cons ⟨_, rfl⟩ .nil))⟩,
      za_FORMS := _, zm_FORMS := PySem.W.mg_of X G aZ_FORMS, kd_FORMS := ktab_of [("work", tk0_FORMS, a0_FORMS), ("take", tk1_FORMS, a1_FORMS), ("give", tk2_FORMS, a2_FORMS), ("put", tk3_FORMS, a3_FORMS), ("get", tk4_FORMS, a4_FORMS), ("skip", tk5_FORMS, a5_FORMS), ("await", tk6_FORMS, a6_FORMS)] lZ_FORMS kiL_FORMS (.cons ⟨rfl, [.str "name", .str "amount"], ⟨_, _, _, lZ0_FORMS, rfl, rfl, by show 2 ≤ sizeLine; decide, (.cons ⟨_, rfl⟩ (.cons ⟨_, rfl⟩ .nil))⟩, rfl⟩ (.cons ⟨rfl, [.str "name"], ⟨_, _, _, lZ1_FORMS, rfl, rfl, by show 1 ≤ sizeLine; decide, (.cons ⟨_, rfl⟩ .nil)⟩, rfl⟩ (.cons ⟨rfl, [.str "name"], ⟨_, _, _, lZ2_FORMS, rfl, rfl, by show 1 ≤ sizeLine; decide, (.cons ⟨_, rfl⟩ .nil)⟩, rfl⟩ (.cons ⟨rfl, [.str "name", .str "value"], ⟨_, _, _, lZ3_FORMS, rfl, rfl, by show 2 ≤ sizeLine; decide, (.cons ⟨_, rfl⟩ (.cons ⟨_, rfl⟩ .nil))⟩, rfl⟩ (.cons ⟨rfl, [.str "name"], ⟨_, _, _, lZ4_FORMS, rfl, rfl, by show 1 ≤ sizeLine; decide, (.cons ⟨_, rfl⟩ .nil)⟩, rfl⟩ (.cons ⟨rfl, [.str "value", .str "count"], ⟨_, _, _, lZ5_FORMS, rfl, rfl, by show 2 ≤ sizeLine; decide, (.cons ⟨_, rfl⟩ (.cons ⟨_, rfl⟩ .nil))⟩, rfl⟩ (.cons ⟨rfl, [.str "task"], ⟨_, _, _, lZ6_FORMS, rfl, rfl, by show 1 ≤ sizeLine; decide, (.cons ⟨_, rfl⟩ .nil)⟩, rfl⟩ .nil))))))),
      za_LIMITS := _, zm_LIMITS := PySem.W.mg_of X G aZ_LIMITS, kd_LIMITS := ktab_of [("amount", tk0_LIMITS, a0_LIMITS), ("value", tk1_LIMITS, a1_LIMITS), ("count", tk2_LIMITS, a2_LIMITS)] lZ_LIMITS kiL_LIMITS (.cons ⟨rfl, [.int 0, .int 1000000000000000000000000000000], ⟨_, _, _, lZ0_LIMITS, rfl, rfl, by show 2 ≤ sizeLine; decide, (.cons ⟨_, rfl⟩ (.cons ⟨_, rfl⟩ .nil))⟩, rfl⟩ (.cons ⟨rfl, [.int 0, .int 9], ⟨_, _, _, lZ1_LIMITS, rfl, rfl, by show 2 ≤ sizeLine; decide, (.cons ⟨_, rfl⟩ (.cons ⟨_, rfl⟩ .nil))⟩, rfl⟩ (.cons ⟨rfl, [.int 1, .int 20], ⟨_, _, _, lZ2_LIMITS, rfl, rfl, by show 2 ≤ sizeLine; decide, (.cons ⟨_, rfl⟩ (.cons ⟨_, rfl⟩ .nil))⟩, rfl⟩ .nil))),
      zt_MOST_SLOWNESS := _, zm_MOST_SLOWNESS := PySem.W.mg_of X G aZ_MOSTSLOWNESS,
      zt_MOST_TASKS := _, zm_MOST_TASKS := PySem.W.mg_of X G aZ_MOSTTASKS,
      zt_MOST_STEPS := _, zm_MOST_STEPS := PySem.W.mg_of X G aZ_MOSTSTEPS,
      b_KeyError := PySem.W.mg_none_of X G z_KeyError, b_all := PySem.W.mg_none_of X G z_all, b_bool := PySem.W.mg_none_of X G z_bool, b_dict := PySem.W.mg_none_of X G z_dict, b_enumerate := PySem.W.mg_none_of X G z_enumerate, b_int := PySem.W.mg_none_of X G z_int, b_isinstance := PySem.W.mg_none_of X G z_isinstance, b_len := PySem.W.mg_none_of X G z_len, b_max := PySem.W.mg_none_of X G z_max, b_range := PySem.W.mg_none_of X G z_range, b_repr := PySem.W.mg_none_of X G z_repr, b_str := PySem.W.mg_none_of X G z_str, b_tuple := PySem.W.mg_none_of X G z_tuple, b_zip := PySem.W.mg_none_of X G z_zip }
  exact ok_law G9
end K08
end
section
namespace K08
open PySem L2 VL LD PL
/-! ### behind the loop -/
def isT : ResS → Bool
  | .rt (.bl b) _ => b
  | _ => false
theorem tail_b : isT (lTail (List.replicate 7 none) []) = true := by decide +kernel
theorem tail_ok : ∃ g, lTail (List.replicate 7 none) [] = .rt (.bl true) g := by
  have h := tail_b
  generalize lTail (List.replicate 7 none) [] = x at h
  cases x with
  | rt w g =>
    cases w with
    | bl b => cases b <;> first | exact ⟨g, rfl⟩ | cases h
    | _ => cases h
  | _ => cases h
end K08
end
section
namespace K08
open PySem L2 VL LD PL
variable {h g : Hv} {D : DI} {p q s n m : Nat} {w : Str} {r : Ws}
/-! ### texts, sign by sign -/
def sgn (c : Nat) : W := .str ⟨#[c]⟩
def alph : Str := "abcdefghijklmnopqrstuvwxyz"
theorem alph_list : alph.cps.toList = (List.range 26).map (· + 97) := by decide +kernel
theorem alph_in (c : Nat) : decide (c ∈ alph.cps.toList) = lowC c := by
  rw [alph_list]
  unfold lowC
  by_cases z : 97 ≤ c ∧ c ≤ 122
  · rw [decide_eq_true z.1, decide_eq_true z.2]
    exact decide_eq_true (List.mem_map.mpr ⟨c - 97, List.mem_range.mpr (by omega), by omega⟩)
  · have e : (decide (97 ≤ c) && decide (c ≤ 122)) = false := by
      cases q : (decide (97 ≤ c) && decide (c ≤ 122))
      · rfl
      · rw [Bool.and_eq_true, decide_eq_true_eq, decide_eq_true_eq] at q
        exact absurd q z
    rw [e]
    refine decide_eq_false fun m => ?_
    obtain ⟨x, hx, rfl⟩ := List.mem_map.mp m
    have := List.mem_range.mp hx
    omega
theorem comp_str {z : Str} {i : Nat} {t : Ws → Hv → Res Bool} {f : Ws → Hv → Res W} {B : Nat → Bool} (ht : ∀ c ∈ z.cps.toList, ∀ g, t (r.set i (some (sgn c))) g = .val (B c) g) (hf : ∀ c g, f (r.set i (some (sgn c))) g = .val (sgn c) g) :
    ∀ (n k : Nat) (g : Hv) (acc : List W), k + n = z.length → acc.length + n < 100000 → compM (nxStr z) i t f g.length (n + 1) k r (g ++ [.lst acc]) = .val (.ref g.length) (g ++ [.lst (acc ++ ((z.cps.toList.drop k).filter B).map sgn)])
  | 0, k, g, acc, e, hl => by
    have sz : z.length = z.cps.size := rfl
    have en : z.cps[k]? = none := Array.getElem?_eq_none (by omega)
    have ed : z.cps.toList.drop k = [] := List.drop_eq_nil_of_le (by rw [Array.length_toList]; omega)
    unfold compM
    simp only [nxStr, en, ed, List.filter_nil, List.map_nil, List.append_nil]
  | n + 1, k, g, acc, e, hl => by
    have sz : z.length = z.cps.size := rfl
    have lt : k < z.cps.size := by omega
    have en : z.cps[k]? = some z.cps[k] := Array.getElem?_eq_getElem lt
    have ed : z.cps.toList.drop k = z.cps[k] :: z.cps.toList.drop (k + 1) := by
      rw [List.drop_eq_getElem_cons (by rw [Array.length_toList]; exact lt), Array.getElem_toList]
    have m : z.cps[k] ∈ z.cps.toList := Array.mem_toList_iff.mpr (Array.getElem_mem lt)
    have e1 := ht _ m (g ++ [.lst acc])
    have e2 := hf z.cps[k] (g ++ [.lst acc])
    have la : (g ++ [O.lst acc])[g.length]? = some (.lst acc) := get_last
    have st : (g ++ [O.lst acc]).set g.length (.lst (acc ++ [sgn z.cps[k]])) = g ++ [.lst (acc ++ [sgn z.cps[k]])] := by simp
    unfold sgn at e1 e2 st
    rw [ed]
    unfold compM
    simp only [nxStr, en, e1, noX, bind_val]
    cases c : B z.cps[k]
    · rw [if_neg (by decide), comp_str ht hf n (k + 1) g acc (by omega) (by omega), List.filter_cons, c, if_neg (by decide)]
    · rw [if_pos rfl, e2]
      simp only [bind_val, la]
      rw [if_pos (by omega), st]
      have ih := comp_str ht hf n (k + 1) g (acc ++ [sgn z.cps[k]]) (by omega) (by rw [List.length_append]; show acc.length + 1 + n < _; omega)
      unfold sgn at ih
      rw [ih, List.filter_cons, c, if_pos rfl, List.append_assoc]
      rfl
/-! ### lists as data -/
theorem optAll_map {α : Type} {f : W → Option PyData} {a : α → W} {d : α → PyData} (hf : ∀ x, f (a x) = some (d x)) : ∀ l : List α, optAll f (l.map a) = some (l.map d)
  | [] => rfl
  | x :: l => by
    (rw [List.map_cons, List.map_cons])
    simp only [optAll, hf, optAll_map hf l]
theorem lay_sgns : ∀ l : List Nat, (∀ c ∈ l, c < 128) → PyData.canLayAll0 (l.map fun c => PyData.str ⟨#[c]⟩) = true
  | [], _ => rfl
  | c :: l, h => by
    have ok : PyData.strOk ⟨#[c]⟩ = true := asc_ok fun d hd => by
      have : d = c := by simpa using hd
      rw [this]
      exact h c List.mem_cons_self
    simp only [List.map_cons, PyData.canLayAll0, PyData.canLay0, ok, lay_sgns l fun d hd => h d (List.mem_cons_of_mem _ hd), Bool.and_self]
theorem deep_sgns : ∀ l : List Nat, PyData.depthAll (l.map fun c => PyData.str ⟨#[c]⟩) = 0
  | [] => rfl
  | c :: l => by simp [PyData.depthAll, PyData.depth, deep_sgns l]
theorem eq_sgns {l : List Nat} (hl : ∀ c ∈ l, c < 128) (e1 : h[p]? = some (.lst (l.map sgn))) (e2 : h[q]? = some (.lst [])) : mEq false (.ref p) (.ref q) h = .val (.bl l.isEmpty) h := by
  have t1 : toD dF h (.ref p) = some (.list (l.map fun c => PyData.str ⟨#[c]⟩)) := by
    obtain ⟨k, hk⟩ : ∃ k, dF = k + 2 := ⟨dF - 2, by decide⟩
    rw [hk]
    have ti := optAll_map (f := toD (k + 1) h) (a := sgn) (d := fun c => PyData.str ⟨#[c]⟩) (fun x => rfl) l
    simp only [toD, e1]
    exact congrArg (Option.map PyData.list) ti
  have t2 : toD dF h (.ref q) = some (.list []) := by
    obtain ⟨k, hk⟩ : ∃ k, dF = k + 2 := ⟨dF - 2, by decide⟩
    rw [hk]
    simp only [toD, e2]
    rfl
  have s1 : SeqAt.shaped (.list (l.map fun c => PyData.str ⟨#[c]⟩)) = true := by
    simp [SeqAt.shaped, PyData.canLay0, PyData.depth, lay_sgns l hl, deep_sgns]
  have s2 : SeqAt.shaped (.list []) = true := rfl
  simp only [mEq, t1, t2, s1, s2, Bool.and_self, if_true]
  cases l <;> rfl
theorem lname_eq (a : Asc w) (lw : w.length ≤ 1000) (h : Hv) : ∃ g, m__law_is_name [.str w] h = .val (.bl (nameB w)) g ∧ Ext h g := by
  have st : startW ["_law_value", "_law_sign"] [.str w] = [some (.str w), none] := rfl
  let E : Ws := [some (.str w), none]
  have ln : mLen [.str w] h = .val (.int w.length) h := if_pos (by omega)
  have ll : (mB mLen (mCons (mVar 0) mNil)) E h = .val (.int w.length) h := by
    rw [mB_eq, mCons_eq, show mVar 0 E h = .val (.str w) h from rfl, bind_val, mNil_eq, bind_val, bind_val, ln]
  have ch := chain_eq (r := E) (h := h) (m := (w.length : Int)) (lo := 1) (hi := 8) (fl := mC (.int 1)) (fm := mB mLen (mCons (mVar 0) mNil)) (fh := mC (.int 8)) rfl ll rfl
  have c1 : decide ((1 : Int) ≤ (w.length : Int)) = decide (1 ≤ w.length) := decide_eq_decide.mpr (by omega)
  have c2 : decide ((w.length : Int) ≤ 8) = decide (w.length ≤ 8) := decide_eq_decide.mpr (by omega)
  rw [c1, c2] at ch
  let L : List Nat := w.cps.toList.filter fun c => !lowC c
  let h1 := h ++ [O.lst (L.map sgn)]
  let h2 := h1 ++ [O.lst []]
  have src : mSrcS (mVar 0) E h = .val ⟨w.length + 1, nxStr w⟩ h := rfl
  have lc : (mLc (mSrcS (mVar 0)) 1 (mT (m2 (mInSg true) (mVar 1) (mC (.str ("abcdefghijklmnopqrstuvwxyz" : Str))))) (mVar 1)) E h = .val (.ref h.length) h1 := by
    unfold mLc
    rw [src, bind_val]
    have := comp_str (r := E) (z := w) (i := 1) (t := (mT (m2 (mInSg true) (mVar 1) (mC (.str alph))))) (f := mVar 1) (B := fun c => !lowC c) (fun c hc g => by
      rw [mT_eq, m2_eq, show mVar 1 (E.set 1 (some (sgn c))) g = .val (sgn c) g from rfl, bind_val, mC_eq, bind_val]
      have e : mInSg true (sgn c) (.str alph) g = .val (.bl (!decide (c ∈ alph.cps.toList))) g := rfl
      rw [e, bind_val, asB_bl, alph_in]) (fun c g => rfl) w.length 0 h [] (by omega) (by simp; omega)
    rw [List.drop_zero, List.nil_append] at this
    exact this
  have hL : ∀ c ∈ L, c < 128 := fun c hc => a c (List.mem_filter.mp hc).1
  have eq := eq_sgns (h := h2) (p := h.length) (q := h1.length) hL (get_old get_last) get_last
  have em : L.isEmpty = w.cps.toList.all lowC := by
    show (w.cps.toList.filter fun c => !lowC c).isEmpty = _
    induction w.cps.toList with
    | nil => rfl
    | cons c l ih =>
      rw [List.filter_cons, List.all_cons]
      cases lowC c
      · rfl
      · simpa using ih
  have ml : (mLst mNil) E h1 = .val (.ref h1.length) h2 := rfl
  unfold m__law_is_name
  rw [mDef_eq, st, mSeq_eq, mIfS_eq, mOrT_eq, mNotT_eq, mT_eq, mB_eq, mCons_eq, mVar0, bind_val, mCons_eq, mC_eq, bind_val, mNil_eq, bind_val, bind_val, bind_val, isi_str, bind_val, asB_bl, bind_val, bind_val, if_neg (by decide), mNotT_eq, mT_eq, ch, bind_val, asB_bl, bind_val, andS_val]
  by_cases c : (decide (1 ≤ w.length) && decide (w.length ≤ 8)) = true
  · refine ⟨h2, ?_, (Ext.more _ _).trans (Ext.more _ _)⟩
    rw [c, if_neg (by decide), mNext_eq, thenS_nx, mRet_eq, m2_eq]
    show endS (Res.andS (Res.bind (mLc _ _ _ _ E h) _) _ _) = _
    rw [lc, bind_val]
    show endS (Res.andS (Res.bind (mLst mNil E h1) _) _ _) = _
    rw [ml, bind_val, eq, andS_val, endS_rt]
    unfold nameB
    rw [c, em, Bool.true_and]
  · have c' : (decide (1 ≤ w.length) && decide (w.length ≤ 8)) = false := by
      cases q : (decide (1 ≤ w.length) && decide (w.length ≤ 8))
      · rfl
      · exact absurd q c
    refine ⟨h, ?_, Ext.refl _⟩
    rw [c', Bool.not_false, if_pos rfl, mRet_eq, mC_eq, andS_val, thenS_rt, endS_rt]
    unfold nameB
    rw [c', Bool.false_and]
theorem lwhole_eq {v : W} {lo hi : Int} (sc : Sc v) (h : Hv) : m__law_is_whole [v, .int lo, .int hi] h = .val (.bl (wholeB v lo hi)) h := by
  obtain ⟨a, b, e1, e2, e3⟩ := isi_int sc h
  have st : startW ["_law_value", "_law_least", "_law_most"] [v, .int lo, .int hi] = [some v, some (.int lo), some (.int hi)] := rfl
  have ch : ∀ m, v = .int m → mChain mLe mLe (mVar 1) (mVar 0) (mVar 2) [some v, some (.int lo), some (.int hi)] h = .val (.bl (wholeB v lo hi)) h := fun m e => by
    subst e
    exact chain_eq (m := m) (lo := lo) (hi := hi) rfl rfl rfl
  unfold m__law_is_whole
  rw [mDef_eq, st, mRet_eq, mAndV_eq, mT_eq, mB_eq, mCons_eq, mVar0, bind_val, mCons_eq, mC_eq, bind_val, mNil_eq, bind_val, bind_val, bind_val, e1, bind_val, asB_bl, bind_val]
  cases a
  · rw [if_neg (by decide), andS_val, endS_rt]
    cases sc with
    | int m => cases b <;> cases e3
    | bl _ => rfl
    | non => rfl
  · rw [if_pos rfl, mAndV_eq, mT_eq, mNotV_eq, mT_eq, mB_eq, mCons_eq, mVar0, bind_val, mCons_eq, mC_eq, bind_val, mNil_eq, bind_val, bind_val, bind_val, e2, bind_val, asB_bl, bind_val, bind_val, asB_bl, bind_val]
    cases sc with
    | int m =>
      cases b
      · rw [Bool.not_false, if_pos rfl, ch m rfl, andS_val, endS_rt]
      · cases e3
    | bl _ => cases b <;> first | (cases e3; done) | (rw [if_neg (by decide), andS_val, endS_rt]; rfl)
    | non => cases b <;> first | (cases e3; done) | (rw [if_neg (by decide), andS_val, endS_rt]; rfl)
end K08
end
section
namespace K08
open PySem L2 VL LD PL
variable {h g : Hv} {D : DI} {p q s n m : Nat} {w : Str} {r : Ws}
/-- the drawn numbers, apart from q -/
def StK (h : Hv) (s q : Nat) : Prop := ∃ (dg : Nat) (ds : List Int) (k : Nat), h[s]? = some (.lst [.ref dg, .int k]) ∧ h[dg]? = some (.lst (ds.map W.int)) ∧ dg ≠ s ∧ dg ≠ q ∧ q ≠ s
theorem StK.st (t : StK h s q) : Stt h s := by
  obtain ⟨dg, ds, k, e1, e2, n1, _⟩ := t
  exact ⟨dg, ds, k, e1, e2, n1⟩
theorem stk_new (t : Stt h s) (o : O) : StK (h ++ [o]) s h.length := by
  obtain ⟨dg, ds, k, e1, e2, n1⟩ := t
  have l1 := lt_of_get e1
  have l2 := lt_of_get e2
  exact ⟨dg, ds, k, get_old e1, get_old e2, n1, by omega, by omega⟩
theorem StK.set {o : O} (t : StK h s q) : StK (h.set q o) s q := by
  obtain ⟨dg, ds, k, e1, e2, n1, n2, n3⟩ := t
  exact ⟨dg, ds, k, by rw [List.getElem?_set_ne n3]; exact e1, by rw [List.getElem?_set_ne (Ne.symm n2)]; exact e2, n1, n2, n3⟩
theorem StK.draw {f : Ws → Hv → Res W} (hf : ∀ g, f r g = .val (.ref s) g) (t : StK h s q) {m : Int} (hm : 0 < m) : ∃ (d : Int) (g : Hv), (mCall 2 m__law_draw (mCons f (mCons (mC (.int m)) mNil))) r h = .val (.int d) g ∧ 0 ≤ d ∧ d < m ∧ StK g s q ∧ Gr s h g := by
  obtain ⟨dg, ds, k, e1, e2, n1, n2, n3⟩ := t
  obtain ⟨d, e, d0, d1⟩ := draw_at e1 e2 n1 hm
  refine ⟨d, h.set s (.lst [.ref dg, .int ((k : Int) + 1)]), ?_, d0, d1, ⟨dg, ds, k + 1, ?_, ?_, n1, n2, n3⟩, Kp.set s h _, by simp⟩
  · rw [mCall_eq, mCons_eq, hf, bind_val, mCons_eq, mC_eq, bind_val, mNil_eq, bind_val, bind_val, bind_val, if_pos (by rfl), e]
  · rw [List.getElem?_set_self (lt_of_get e1)]
    rfl
  · rw [List.getElem?_set_ne (Ne.symm n1)]
    exact e2
theorem alph_len : alph.length = 26 := by decide +kernel
theorem ix_alph {d : Int} (h0 : 0 ≤ d) (h1 : d < 26) (g : Hv) : ∃ c, c < 128 ∧ mIx (.str alph) (.int d) g = .val (sgn c) g := by
  obtain ⟨j, rfl⟩ : ∃ j : Nat, d = (j : Int) := ⟨d.toNat, by omega⟩
  have lt : j < 26 := by omega
  have e : alph.cps.toList[j]? = some (j + 97) := by
    rw [alph_list, List.getElem?_map, List.getElem?_range lt]
    rfl
  refine ⟨j + 97, by omega, ?_⟩
  have e2 : mIx (.str alph) (.int (j : Int)) g = if alph.length ≤ 100000 then ofO ((atI alph.cps.toList (j : Int)).map fun c => W.str ⟨#[c]⟩) g else .bad := rfl
  rw [e2, alph_len, if_pos (by decide), atI_nat e]
  rfl
abbrev wF : Ws → Hv → Res W := (m2 mIx (mVar 1) (mCall 2 m__law_draw (mCons (mVar 0) (mCons (mC (.int 26)) mNil))))
theorem comp_draw {i m : Nat} (hr : ∀ (x : W) g, mVar 0 (r.set i (some x)) g = .val (.ref s) g) (hv : ∀ (x : W) g, mVar 1 (r.set i (some x)) g = .val (.str alph) g) :
    ∀ (n k : Nat) (g : Hv) (acc : List Nat), k + n = m → acc.length + n < 100000 → g[q]? = some (.lst (acc.map sgn)) → StK g s q → (∀ c ∈ acc, c < 128) →
      ∃ (g' : Hv) (l : List Nat), compM (nxR 0 m) i mYes wF q (n + 1) k r g = .val (.ref q) g' ∧ g'[q]? = some (.lst (l.map sgn)) ∧ l.length = acc.length + n ∧ (∀ c ∈ l, c < 128) ∧ StK g' s q ∧ (∀ j u, j ≠ s → j ≠ q → g[j]? = some u → g'[j]? = some u) ∧ g.length ≤ g'.length
  | 0, k, g, acc, e, hl, eq, t, ha => by
    refine ⟨g, acc, ?_, eq, rfl, ha, t, fun _ _ _ _ z => z, Nat.le_refl _⟩
    unfold compM
    simp only [nxR, show ¬ k < m by omega, if_false]
  | n + 1, k, g, acc, e, hl, eq, t, ha => by
    have lt : k < m := by omega
    let r1 := r.set i (some (.int ((0 : Int) + (k : Int))))
    obtain ⟨d, g1, e1, d0, d1, t1, x1⟩ := t.draw (r := r1) (f := mVar 0) (hr _) (m := 26) (by decide)
    obtain ⟨c, hc, ec⟩ := ix_alph d0 d1 g1
    have ef : wF r1 g = .val (sgn c) g1 := by
      unfold wF
      rw [m2_eq, hv, bind_val, e1, bind_val, ec]
    have ns : q ≠ s := by
      obtain ⟨_, _, _, _, _, _, _, z⟩ := t
      exact z
    have eq1 : g1[q]? = some (.lst (acc.map sgn)) := x1.get ns eq
    have al : (acc.map sgn).length = acc.length := List.length_map ..
    have hl2 : (acc ++ [c]).length + n < 100000 := by
      rw [List.length_append]
      show acc.length + 1 + n < 100000
      omega
    have es : (acc ++ [c]).map sgn = acc.map sgn ++ [sgn c] := by rw [List.map_append]; rfl
    obtain ⟨g', l, e2, e3, e4, e5, e6, e7, e8⟩ := comp_draw (m := m) hr hv n (k + 1) (g1.set q (.lst ((acc ++ [c]).map sgn))) (acc ++ [c]) (by omega) hl2 (List.getElem?_set_self (lt_of_get eq1)) t1.set (fun x hx => by
      rw [List.mem_append, List.mem_singleton] at hx
      rcases hx with hx | rfl
      · exact ha x hx
      · exact hc)
    refine ⟨g', l, ?_, e3, by rw [e4, List.length_append]; show acc.length + 1 + n = _; omega, e5, e6, fun j u n1 n2 ej => e7 j u n1 n2 ?_, ?_⟩
    · rw [es] at e2
      unfold compM
      simp only [nxR, lt, if_true, mYes, noX, bind_val]
      rw [show wF (r.set i (some (W.int ((0 : Int) + (k : Int))))) g = .val (sgn c) g1 from ef]
      simp only [bind_val, eq1]
      rw [if_pos (by rw [al]; omega)]
      exact e2
    · rw [List.getElem?_set_ne (Ne.symm n2)]
      exact x1.get n1 ej
    · have := x1.2
      rw [List.length_set] at e8
      omega
/-- one of a list, drawn -/
theorem pick_of {L : List W} {f fs : Ws → Hv → Res W} {h1 : Hv} {M : Int} (hr : ∀ g, fs r g = .val (.ref s) g) (ef : f r h = .val (.ref p) h1) (e1 : h1[p]? = some (.lst L)) (hl : (L.length : Int) = M) (hm : 0 < M) (hp : p ≠ s) (t : Stt h1 s) :
    ∃ w g, (m2 mIx f (mCall 2 m__law_draw (mCons fs (mCons (mC (.int M)) mNil)))) r h = .val w g ∧ w ∈ L ∧ Stt g s ∧ Gr s h1 g := by
  obtain ⟨d, g, c, d0, d1, t1, k1⟩ := call_draw hr t hm
  obtain ⟨j, rfl⟩ : ∃ j : Nat, d = (j : Int) := ⟨d.toNat, by omega⟩
  have lt : j < L.length := by omega
  refine ⟨L[j], g, ?_, List.getElem_mem lt, t1, k1⟩
  rw [m2_eq, ef, bind_val, c, bind_val, ix_nat (k1.get hp e1) (List.getElem?_eq_getElem lt)]
/-! ### a word -/
theorem asc_sgn {c : Nat} (h : c < 128) : Asc ⟨#[c]⟩ := fun d hd => by
  have : d = c := by simpa using hd
  rw [this]
  exact h
theorem join_sgns : ∀ l : List Nat, (∀ c ∈ l, c < 128) → Asc (Str.join ("" : Str) (l.map fun c => (⟨#[c]⟩ : Str))) ∧ (Str.join ("" : Str) (l.map fun c => (⟨#[c]⟩ : Str))).length = l.length
  | [], _ => ⟨fun c hc => absurd hc List.not_mem_nil, rfl⟩
  | [c], h => ⟨asc_sgn (h c List.mem_cons_self), rfl⟩
  | c :: d :: l, h => by
    obtain ⟨i1, i2⟩ := join_sgns (d :: l) fun x hx => h x (List.mem_cons_of_mem _ hx)
    have e0 : Asc ("" : Str) := fun c hc => by
      have : ("" : Str).cps.toList = [] := by decide +kernel
      rw [this] at hc
      cases hc
    have l0 : ("" : Str).length = 0 := by decide +kernel
    refine ⟨asc_app (asc_app (asc_sgn (h c List.mem_cons_self)) e0) i1, ?_⟩
    show (((⟨#[c]⟩ : Str) ++ ("" : Str)) ++ Str.join ("" : Str) ((d :: l).map fun c => (⟨#[c]⟩ : Str))).length = _
    rw [Str.length_append, Str.length_append, i2, l0]
    show 1 + 0 + (l.length + 1) = l.length + 1 + 1
    omega
theorem strsW_sgns : ∀ l : List Nat, strsW (l.map sgn) = some (l.map fun c => (⟨#[c]⟩ : Str))
  | [] => rfl
  | c :: l => by
    (rw [List.map_cons, List.map_cons])
    show (strsW (l.map sgn)).map _ = _
    rw [strsW_sgns l]
    rfl
theorem sum_ones : ∀ l : List Nat, ((l.map fun c => (⟨#[c]⟩ : Str)).map (·.length)).sum = l.length
  | [] => rfl
  | c :: l => by
    rw [List.map_cons, List.map_cons, List.sum_cons, sum_ones l, List.length_cons]
    show 1 + l.length = _
    omega
theorem jn_sgns {l : List Nat} (e : h[q]? = some (.lst (l.map sgn))) (hl : l.length ≤ 1000) (hc : ∀ c ∈ l, c < 128) : ∃ z : Str, mJn (.str ("" : Str)) (.ref q) h = .val (.str z) h ∧ Asc z ∧ z.length = l.length := by
  obtain ⟨a1, a2⟩ := join_sgns l hc
  have l0 : ("" : Str).length = 0 := by decide +kernel
  refine ⟨_, ?_, a1, a2⟩
  unfold mJn
  simp only [e, strsW_sgns]
  rw [if_pos (by rw [sum_ones, l0]; omega)]
  show Res.val (W.str (Builtin.Str.glued _ _)) h = _
  rw [StrLaws.glued_eq_join]
theorem add_str {a b : Str} (hl : a.length + b.length ≤ 1000) (h : Hv) : mAdd (.str a) (.str b) h = .val (.str (a ++ b)) h := by
  unfold mAdd
  simp only [show a.length + b.length ≤ 100000 by omega, if_true]
theorem cut_ok {z : Str} {lo hi : Option Int} (a : Asc z) : Asc (cutS z lo hi) ∧ (cutS z lo hi).length ≤ z.length := by
  unfold cutS
  constructor
  · intro c hc
    exact a c (List.mem_of_mem_drop (List.mem_of_mem_take (by simpa using hc)))
  · show (List.toArray _).size ≤ z.cps.size
    (rw [List.size_toArray, List.length_take, List.length_drop, Array.length_toList])
    omega
/-- a text of small signs, not long -/
def Wd (w : Str) : Prop := Asc w ∧ w.length ≤ 24
theorem odd_ok {w : W} (h : w ∈ ([.str ("A" : Str), .str ("1" : Str), .str (" " : Str), .str ("_" : Str), .str ("9" : Str), .str ("\n" : Str), .str ("abcdefgh" : Str), .str ("" : Str)] : List W)) : ∃ z : Str, w = .str z ∧ Asc z ∧ z.length ≤ 8 := by
  have ok : ∀ z : Str, (z.cps.toList.all fun c => decide (c < 128)) = true → z.length ≤ 8 → ∃ y : Str, W.str z = .str y ∧ Asc y ∧ y.length ≤ 8 := fun z a l => ⟨z, rfl, fun c hc => of_decide_eq_true (List.all_eq_true.mp a c hc), l⟩
  simp only [List.mem_cons, List.not_mem_nil, or_false] at h
  rcases h with rfl | rfl | rfl | rfl | rfl | rfl | rfl | rfl <;> exact ok _ (by decide +kernel) (by decide +kernel)
theorem word_ok (t : Stt h s) : ∃ (w : Str) (g : Hv), m__law_word [.ref s] h = .val (.str w) g ∧ Wd w ∧ Stt g s ∧ Gr s h g := by
  have st : startW ["_law_state", "_law_signs", "_law_word_here", "_law_turn", "_law_odd", "_law_at"] [.ref s] = [some (.ref s), none, none, none, none, none] := rfl
  let E0 : Ws := [some (.ref s), none, none, none, none, none]
  let E1 : Ws := [some (.ref s), some (.str alph), none, none, none, none]
  -- the word
  obtain ⟨d, g1, e1, d0, d1, t1, x1⟩ := call_draw (r := E1) (f := mVar 0) (fun _ => rfl) t (m := 8) (by decide)
  obtain ⟨j, rfl⟩ : ∃ j : Nat, d = (j : Int) := ⟨d.toNat, by omega⟩
  have rg : mRng (mCons (m2 mAdd (mC (.int 1)) (mCall 2 m__law_draw (mCons (mVar 0) (mCons (mC (.int 8)) mNil)))) mNil) E1 h = .val ⟨(1 + j) + 1, nxR 0 (1 + j)⟩ g1 := by
    have ad : mAdd (.int 1) (.int (j : Int)) g1 = .val (.int ((1 + j : Nat) : Int)) g1 := by
      have : mAdd (.int 1) (.int (j : Int)) g1 = .val (.int (1 + (j : Int))) g1 := rfl
      rw [this]
      congr 2
    unfold mRng
    rw [mCons_eq, m2_eq, mC_eq, bind_val, e1, bind_val, ad, bind_val, mNil_eq, bind_val, bind_val, src_rng (by omega)]
  obtain ⟨g2, l, f1, f2, f3, f4, f5, f6, f7⟩ := comp_draw (r := E1) (s := s) (q := g1.length) (i := 3) (m := 1 + j) (fun _ _ => rfl) (fun _ _ => rfl) (1 + j) 0 (g1 ++ [.lst []]) [] (by omega) (by simp; omega) get_last (stk_new t1 _) (fun c hc => absurd hc List.not_mem_nil)
  have lc : (mLc (mRng (mCons (m2 mAdd (mC (.int 1)) (mCall 2 m__law_draw (mCons (mVar 0) (mCons (mC (.int 8)) mNil)))) mNil)) 3 mYes wF) E1 h = .val (.ref g1.length) g2 := by
    unfold mLc
    rw [rg, bind_val]
    exact f1
  have l7 : g1.length ≤ g2.length := by
    rw [List.length_append] at f7
    exact Nat.le_trans (Nat.le_add_right _ _) f7
  have x2 : Gr s h g2 := x1.trans ⟨fun i u ne ei => f6 i u ne (by have := lt_of_get ei; omega) (get_old ei), l7⟩
  have ll : l.length = 1 + j := by simpa using f3
  obtain ⟨z, jz, az, lz⟩ := jn_sgns f2 (by omega) f4
  have jn : (mM1 mJn (mC (.str ("" : Str))) (mLc (mRng (mCons (m2 mAdd (mC (.int 1)) (mCall 2 m__law_draw (mCons (mVar 0) (mCons (mC (.int 8)) mNil)))) mNil)) 3 mYes wF)) E1 h = .val (.str z) g2 := by
    unfold mM1
    rw [mC_eq, bind_val]
    show (mLc _ _ _ _ E1 h).bind _ = _
    rw [lc, bind_val]
    exact jz
  let E2 : Ws := [some (.ref s), some (.str alph), some (.str z), none, none, none]
  -- the odd sign
  let L8 : List W := [.str ("A" : Str), .str ("1" : Str), .str (" " : Str), .str ("_" : Str), .str ("9" : Str), .str ("\n" : Str), .str ("abcdefgh" : Str), .str ("" : Str)]
  have ls8 : (mLst (mCons (mC (.str ("A" : Str))) (mCons (mC (.str ("1" : Str))) (mCons (mC (.str (" " : Str))) (mCons (mC (.str ("_" : Str))) (mCons (mC (.str ("9" : Str))) (mCons (mC (.str ("\n" : Str))) (mCons (mC (.str ("abcdefgh" : Str))) (mCons (mC (.str ("" : Str))) mNil))))))))) E2 g2 = .val (.ref g2.length) (g2 ++ [.lst L8]) := rfl
  have t2 : Stt g2 s := f5.st
  obtain ⟨o, g3, o1, o2, t3, x3⟩ := pick_of (r := E2) (s := s) (fs := mVar 0) (M := 8) (fun _ => rfl) ls8 get_last rfl (by decide) (by have := t2.lt; omega) (t2.ext (Ext.more _ _))
  obtain ⟨o, rfl, ao, lo⟩ := odd_ok o2
  let E3 : Ws := [some (.ref s), some (.str alph), some (.str z), none, some (.str o), none]
  -- where
  have lz8 : z.length ≤ 8 := by omega
  obtain ⟨d2, g4, a1, a2, a3, t4, x4⟩ := draw_ok t3 (m := (z.length : Int) + 1) (by omega)
  have at4 : (mCall 2 m__law_draw (mCons (mVar 0) (mCons (m2 mAdd (mB mLen (mCons (mVar 2) mNil)) (mC (.int 1))) mNil))) E3 g3 = .val (.int d2) g4 := by
    have ln : mLen [.str z] g3 = .val (.int z.length) g3 := if_pos (by omega)
    have ad : mAdd (.int (z.length : Int)) (.int 1) g3 = .val (.int ((z.length : Int) + 1)) g3 := rfl
    rw [mCall_eq, mCons_eq, show mVar 0 E3 g3 = .val (.ref s) g3 from rfl, bind_val, mCons_eq, m2_eq, mB_eq, mCons_eq, show mVar 2 E3 g3 = .val (.str z) g3 from rfl, bind_val, mNil_eq, bind_val, bind_val, ln, bind_val, mC_eq, bind_val, ad, bind_val, mNil_eq, bind_val, bind_val, bind_val, if_pos (by rfl), a1]
  let E4 : Ws := [some (.ref s), some (.str alph), some (.str z), none, some (.str o), some (.int d2)]
  -- one of four
  obtain ⟨c1, c2⟩ := cut_ok (lo := none) (hi := some d2) az
  obtain ⟨c3, c4⟩ := cut_ok (lo := some d2) (hi := none) az
  have s1 : mSlS (mVar 2) (mPart none) (mPart (some (mVar 5))) E4 g4 = .val (.str (cutS z none (some d2))) g4 := by
    show (if z.length ≤ 90000 then _ else _) = _
    rw [if_pos (by omega)]
  have s2 : mSlS (mVar 2) (mPart (some (mVar 5))) (mPart none) E4 g4 = .val (.str (cutS z (some d2) none)) g4 := by
    show (if z.length ≤ 90000 then _ else _) = _
    rw [if_pos (by omega)]
  let mid : Str := cutS z none (some d2) ++ o ++ cutS z (some d2) none
  let L4 : List W := [.str z, .str z, .str mid, .str o]
  have lm : (cutS z none (some d2) ++ o).length = (cutS z none (some d2)).length + o.length := Str.length_append _ _
  have md : (m2 mAdd (m2 mAdd (mSlS (mVar 2) (mPart none) (mPart (some (mVar 5)))) (mVar 4)) (mSlS (mVar 2) (mPart (some (mVar 5))) (mPart none))) E4 g4 = .val (.str mid) g4 := by
    rw [m2_eq, m2_eq, s1, bind_val, show mVar 4 E4 g4 = .val (.str o) g4 from rfl, bind_val, add_str (by omega), bind_val, s2, bind_val, add_str (by omega)]
  have ls4 : (mLst (mCons (mVar 2) (mCons (mVar 2) (mCons (m2 mAdd (m2 mAdd (mSlS (mVar 2) (mPart none) (mPart (some (mVar 5)))) (mVar 4)) (mSlS (mVar 2) (mPart (some (mVar 5))) (mPart none))) (mCons (mVar 4) mNil))))) E4 g4 = .val (.ref g4.length) (g4 ++ [.lst L4]) := by
    rw [mLst_eq, mCons_eq, show mVar 2 E4 g4 = .val (.str z) g4 from rfl, bind_val, mCons_eq, show mVar 2 E4 g4 = .val (.str z) g4 from rfl, bind_val, mCons_eq, md, bind_val, mCons_eq, show mVar 4 E4 g4 = .val (.str o) g4 from rfl, bind_val, mNil_eq, bind_val, bind_val, bind_val, bind_val, bind_val, if_pos (by show (4 : Nat) ≤ 100000; decide)]
    rfl
  obtain ⟨y, g5, y1, y2, t5, x5⟩ := pick_of (r := E4) (s := s) (fs := mVar 0) (M := 4) (fun _ => rfl) ls4 get_last rfl (by decide) (by have := t4.lt; omega) (t4.ext (Ext.more _ _))
  have wy : ∃ w, y = .str w ∧ Wd w := by
    simp only [L4, List.mem_cons, List.not_mem_nil, or_false] at y2
    have wz : Wd z := ⟨az, by omega⟩
    have wm : Wd mid := ⟨asc_app (asc_app c1 ao) c3, by
      have : mid.length = (cutS z none (some d2) ++ o).length + (cutS z (some d2) none).length := Str.length_append _ _
      omega⟩
    rcases y2 with rfl | rfl | rfl | rfl
    · exact ⟨_, rfl, wz⟩
    · exact ⟨_, rfl, wz⟩
    · exact ⟨_, rfl, wm⟩
    · exact ⟨_, rfl, ao, by omega⟩
  obtain ⟨w, rfl, ww⟩ := wy
  refine ⟨w, g5, ?_, ww, t5, x2.trans ((Gr.new _ _).trans (x3.trans (x4.trans ((Gr.new _ _).trans x5))))⟩
  unfold m__law_word
  rw [mDef_eq, st, mSeq_eq, mSet_eq, mC_eq, andS_val, thenS_nx]
  show endS ((mSeq _ _) E1 h) = _
  rw [mSeq_eq, mSet_eq, jn, andS_val, thenS_nx]
  show endS ((mSeq _ _) E2 g2) = _
  rw [mSeq_eq, mSet_eq, o1, andS_val, thenS_nx]
  show endS ((mSeq _ _) E3 g3) = _
  rw [mSeq_eq, mSet_eq, at4, andS_val, thenS_nx]
  show endS ((mRet _) E4 g4) = _
  rw [mRet_eq, y1, andS_val, endS_rt]
end K08
end
section
namespace K08
open PySem L2 VL LD PL
variable {h g : Hv} {D : DI} {p q s n m j : Nat} {w : Str} {r : Ws} {T : List (List W)}
/-! ### the numbers that are tried -/
def MS : List W := [.int (-1), .int 0, .int 1, .int 2, .int 3, .int 4, .int 5, .int 6, .int 7, .int 8, .int 9, .int 10, .int 11, .int 1000000, .int 1000001, .bl true, .non]
def mdat : W → PyData
  | .int i => .int i
  | .bl b => .bool b
  | _ => .none
theorem ms_sc {v : W} (h : v ∈ MS) : Sc v := by
  simp only [MS, List.mem_cons, List.not_mem_nil, or_false] at h
  rcases h with rfl | rfl | rfl | rfl | rfl | rfl | rfl | rfl | rfl | rfl | rfl | rfl | rfl | rfl | rfl | rfl | rfl <;> first | exact .int _ | exact .bl _ | exact .non
theorem ms_flat {v : W} (h : v ∈ MS) : ∃ u, flatW v = some u ∧ flatD u = mdat v ∧ (mdat v).showable = true ∧ (mdat v).depth = 0 ∧ (mdat v).shown.length ≤ 10 ∧ PyData.strOk (mdat v).shown = true := by
  have it : ∀ i : Int, i.natAbs.log2 < 1920 → (toString i : Str).length ≤ 10 → ∃ u, flatW (.int i) = some u ∧ flatD u = mdat (.int i) ∧ (mdat (.int i)).showable = true ∧ (mdat (.int i)).depth = 0 ∧ (mdat (.int i)).shown.length ≤ 10 ∧ PyData.strOk (mdat (.int i)).shown = true := fun i a b => by
    refine ⟨.int i, rfl, rfl, ?_, ?_, ?_, ?_⟩
    · simp only [mdat, PyData.showable, a, decide_true]
    · simp only [mdat, PyData.depth]
    · simp only [mdat, PyData.shown]
      exact b
    · simp only [mdat, PyData.shown]
      exact strOk_of _
  simp only [MS, List.mem_cons, List.not_mem_nil, or_false] at h
  rcases h with rfl | rfl | rfl | rfl | rfl | rfl | rfl | rfl | rfl | rfl | rfl | rfl | rfl | rfl | rfl | rfl | rfl <;> first | exact it _ (by decide +kernel) (by decide +kernel) | skip
  · refine ⟨.bl true, rfl, rfl, ?_, ?_, ?_, ?_⟩
    · simp only [mdat, PyData.showable]
    · simp only [mdat, PyData.depth]
    · simp only [mdat, PyData.shown]
      decide +kernel
    · simp only [mdat, PyData.shown]
      decide +kernel
  · refine ⟨.non, rfl, rfl, ?_, ?_, ?_, ?_⟩
    · simp only [mdat, PyData.showable]
    · simp only [mdat, PyData.depth]
    · simp only [mdat, PyData.shown]
      decide +kernel
    · simp only [mdat, PyData.shown]
      decide +kernel
theorem ms_dat {v : W} (hv : v ∈ MS) (n : Nat) (h : Hv) : toD (n + 1) h v = some (mdat v) := by
  have := ms_sc hv
  cases this <;> rfl
theorem ms_shaped {v : W} (hv : v ∈ MS) : SeqAt.shaped (mdat v) = true := by
  have := ms_sc hv
  cases this <;> simp [SeqAt.shaped, mdat, PyData.canLay0, PyData.depth]
/-! ### a dict of one word, shown -/
def dtx (w : Str) (v : W) : Str := (PyData.dict [(.str w, mdat v)]).shown
theorem dtx_eq (w : Str) (v : W) : dtx w v = (("{" : Str) ++ ((reprText w ++ ": ") ++ (mdat v).shown)) ++ "}" := by
  unfold dtx
  simp only [PyData.shown, PyData.shownKv]
  rfl
theorem dtx_ok {v : W} (wd : Wd w) (hv : v ∈ MS) : PyData.strOk (dtx w v) = true ∧ (dtx w v).length ≤ 1000 := by
  obtain ⟨u, _, _, _, _, f5, f6⟩ := ms_flat hv
  obtain ⟨r1, r2⟩ := asc_repr wd.1
  rw [dtx_eq]
  refine ⟨strOk_app (strOk_app (by decide +kernel) (strOk_app (strOk_app (asc_ok r1) (by decide +kernel)) f6)) (by decide +kernel), ?_⟩
  have l1 : ("{" : Str).length = 1 := by decide +kernel
  have l2 : ("}" : Str).length = 1 := by decide +kernel
  have l3 : (": " : Str).length = 2 := by decide +kernel
  have := wd.2
  rw [Str.length_append, Str.length_append, Str.length_append, Str.length_append, l1, l2, l3]
  omega
theorem repr_dict {v : W} (wd : Wd w) (hv : v ∈ MS) (e : h[p]? = some (.dic [(.inr w, v)])) : mReprF [.ref p] h = .val (.str (dtx w v)) h := by
  obtain ⟨u, f1, f2, f3, f4, f5, f6⟩ := ms_flat hv
  have fk : flatKs [((.inr w, v) : Key × W)] = some [(.inr w, u)] := by
    unfold flatKs
    rw [f1]
    rfl
  have ed : ([((.inr w, u) : Key × V)].map fun q => (keyD q.1, flatD q.2)) = [(.str w, mdat v)] := by
    show [(keyD (.inr w), flatD u)] = _
    rw [f2]
    rfl
  have l := (dtx_ok wd hv).2
  unfold mReprF
  simp only [e, fk, ed]
  rw [if_pos]
  · rfl
  · refine ⟨?_, ?_, ?_⟩
    · simp only [PyData.showable, PyData.showableKv, f3, Bool.and_self]
    · simp [PyData.depth, PyData.depthKv, f4]
    · show (dtx w v).length ≤ 100000
      omega
/-! ### heard -/
def U (w : Str) : List W := [.str "unknown", .str (reprText w), .bl true]
theorem sel_b : sel_heard "b" = some su_heard0 := by unfold sel_heard; rw [if_pos rfl]
theorem sel_c : sel_heard "c" = some su_heard1 := by unfold sel_heard; rw [if_neg (by decide), if_pos rfl]
theorem sel_a : sel_heard "a" = some su_heard2 := by unfold sel_heard; rw [if_neg (by decide), if_neg (by decide), if_pos rfl]
theorem heard_val {fb : Ws → Hv → Res W} {x : W} (e : fb r h = .val x g) : mHeardM sel_heard fb r h = .val x g := by
  unfold mHeardM
  rw [e]
theorem xf_of {f : Str} {v : W} (e : g[j]? = some (.xd [(f, v)])) (r : Ws) : mXf j f r g = .val v g := by
  unfold mXf
  simp only [e, List.lookup, beq_self_eq_true]
  rfl
theorem heard_b {fb : Ws → Hv → Res W} (e : fb r h = .exc "b" (some j) g) (ej : g[j]? = some (.xd [("name", .str w)])) (wd : Wd w) : mHeardM sel_heard fb r h = .val (.ref g.length) (g ++ [.lst (U w)]) := by
  have s : su_heard0 j [none, none] g = .rt (.ref g.length) (g ++ [.lst (U w)]) := by
    have i1 : ∀ b, mIsx j b [none, none] g = .val (.bl b) g := fun b => by
      unfold mIsx
      simp only [ej]
    unfold su_heard0 su0_heard0
    rw [mRet_eq, mLst_eq, mCons_eq, mC_eq, bind_val, mCons_eq, mB_eq, mCons_eq, xf_of ej, bind_val, mNil_eq, bind_val, bind_val, reprF_str wd.1 (by have := wd.2; omega), bind_val, mCons_eq, mAndV_eq, mT_eq, i1, bind_val, asB_bl, bind_val, if_pos rfl, mNotV_eq, mT_eq, i1, bind_val, asB_bl, bind_val, bind_val, mNil_eq, bind_val, bind_val, bind_val, bind_val, if_pos (by show (3 : Nat) ≤ 100000; decide)]
    rfl
  unfold mHeardM
  rw [e]
  simp only [sel_b, s]
theorem heard_c {fb : Ws → Hv → Res W} {v : W} {t : Str} (e : fb r h = .exc "c" (some j) g) (ej : g[j]? = some (.xd [("place", v)])) (er : mReprF [v] g = .val (.str t) g) : mHeardM sel_heard fb r h = .val (.ref g.length) (g ++ [.lst [.str "program", .str t]]) := by
  have s : su_heard1 j [none, none] g = .rt (.ref g.length) (g ++ [.lst [.str "program", .str t]]) := by
    unfold su_heard1 su0_heard1
    rw [mRet_eq, mLst_eq, mCons_eq, mC_eq, bind_val, mCons_eq, mB_eq, mCons_eq, xf_of ej, bind_val, mNil_eq, bind_val, bind_val, er, bind_val, mNil_eq, bind_val, bind_val, bind_val, if_pos (by show (2 : Nat) ≤ 100000; decide)]
    rfl
  unfold mHeardM
  rw [e]
  simp only [sel_c, s]
theorem heard_a {fb : Ws → Hv → Res W} {v : W} {t : Str} (e : fb r h = .exc "a" (some j) g) (ej : g[j]? = some (.xd [("value", v)])) (er : mReprF [v] g = .val (.str t) g) : mHeardM sel_heard fb r h = .val (.ref g.length) (g ++ [.lst [.str "setting", .str t]]) := by
  have s : su_heard2 j [none, none] g = .rt (.ref g.length) (g ++ [.lst [.str "setting", .str t]]) := by
    unfold su_heard2 su0_heard2
    rw [mRet_eq, mLst_eq, mCons_eq, mC_eq, bind_val, mCons_eq, mB_eq, mCons_eq, xf_of ej, bind_val, mNil_eq, bind_val, bind_val, er, bind_val, mNil_eq, bind_val, bind_val, bind_val, if_pos (by show (2 : Nat) ≤ 100000; decide)]
    rfl
  unfold mHeardM
  rw [e]
  simp only [sel_a, s]
theorem meth_of {c : String} {f : Str} {mf : MFn} {fo : Ws → Hv → Res W} {ga : Ws → Hv → Res (List W)} {ws : List W} {fs : List (Str × W)} {h0 : Hv} (eo : fo r h0 = .val (.ref p) h) (ep : h[p]? = some (.ins c fs)) (hm : fs.lookup f = none) (ea : ga r h = .val ws g) (hn : ws.length = n) : mMeth c f n mf fo ga r h0 = mf (.ref p :: ws) g := by
  unfold mMeth
  rw [eo, bind_val]
  unfold mMethO
  simp only [ep]
  rw [if_pos ⟨trivial, hm⟩, ea, bind_val, if_pos hn]
theorem meth_exc {c : String} {f : Str} {mf : MFn} {fo : Ws → Hv → Res W} {ga : Ws → Hv → Res (List W)} {x : String} {o : Option Nat} (eo : fo r h = .exc x o g) : mMeth c f n mf fo ga r h = .exc x o g := by
  unfold mMeth
  rw [eo, bind_exc]
/-! ### what is told of a word -/
def Told (w : Str) (h : Hv) (x : W) : Prop := (nameB w = true ∧ x = .int 1) ∨ (nameB w = false ∧ ∃ p, x = .ref p ∧ h[p]? = some (.lst (U w)))
theorem Told.ext {x : W} (t : Told w h x) (e : Ext h g) : Told w g x := t.imp id fun ⟨a, p, b, c⟩ => ⟨a, p, b, e _ _ c⟩
theorem Told.set {x y : W} {o : O} (t : Told w h x) (e : h[p]? = some (.lst [y])) : Told w (h.set p o) x := t.imp id fun ⟨a, q, b, c⟩ => ⟨a, q, b, by
  have ne : p ≠ q := fun z => by
    subst z
    rw [e] at c
    exact absurd (Option.some.inj c) (by unfold U; simp)
  rw [List.getElem?_set_ne ne]
  exact c⟩
def toldD (w : Str) : PyData := if nameB w = true then .int 1 else .list [.str "unknown", .str (reprText w), .bool true]
theorem Told.dat {x : W} (t : Told w h x) (n : Nat) : toD (n + 2) h x = some (toldD w) := by
  rcases t with ⟨a, rfl⟩ | ⟨a, q, rfl, c⟩
  · unfold toldD
    rw [if_pos a]
    rfl
  · unfold toldD
    rw [if_neg (by rw [a]; decide)]
    unfold U at c
    simp only [toD, c]
    rfl
theorem lay_told (wd : Wd w) : PyData.canLay0 (toldD w) = true ∧ PyData.depth (toldD w) ≤ 1 := by
  have ok := asc_ok (asc_repr wd.1).1
  have ou : PyData.strOk ("unknown" : Str) = true := by decide +kernel
  unfold toldD
  split
  · exact ⟨rfl, by simp only [PyData.depth]; decide⟩
  · constructor
    · simp only [PyData.canLay0, PyData.canLayAll0, ok, ou, Bool.and_self]
    · simp [PyData.depth, PyData.depthAll]
theorem two_dat {x y : W} (e : h[p]? = some (.lst [x, y])) (tx : Told w h x) (ty : Told w h y) : toD dF h (.ref p) = some (.list [toldD w, toldD w]) := by
  obtain ⟨k, hk⟩ : ∃ k, dF = k + 3 := ⟨dF - 3, by decide⟩
  have t1 := tx.dat k
  have t2 := ty.dat k
  rw [hk]
  show (match h[p]? with | some (.lst xs) => (optAll (toD (k + 2) h) xs).map PyData.list | some (.rol xs) => (optAll (toD (k + 2) h) xs).map PyData.list | _ => none) = _
  simp only [e, optAll, t1, t2]
  rfl
theorem two_shaped (wd : Wd w) : SeqAt.shaped (.list [toldD w, toldD w]) = true := by
  obtain ⟨a, b⟩ := lay_told wd
  have d : PyData.depth (.list [toldD w, toldD w]) ≤ 64 := by
    (simp only [PyData.depth, PyData.depthAll])
    omega
  simp only [SeqAt.shaped, PyData.canLay0, PyData.canLayAll0, a, Bool.and_self, Bool.true_and]
  exact decide_eq_true d
/-- capacity(word), heard, of a program without capacities -/
theorem hcap_told {fo fw : Ws → Hv → Res W} {h0 : Hv} (eo : fo r h0 = .val (.ref q) h) (a : PrAt h q T []) (ew : fw r h = .val (.str w) h) (wd : Wd w) : ∃ x g, mHeardM sel_heard (mMeth "P" "capacity" 1 m_Program_capacity fo (mCons fw mNil)) r h0 = .val x g ∧ Told w g x ∧ Ext h g := by
  have l := wd.2
  have ea : (mCons fw mNil) r h = .val [.str w] h := by rw [mCons_eq, ew, bind_val, mNil_eq, bind_val]
  obtain ⟨d, e1, _⟩ := id a
  have me := meth_of (f := "capacity") (mf := m_Program_capacity) (n := 1) eo e1 (by kernel_rfl) ea rfl
  cases nb : nameB w
  · have c := cap_no (h := h) (q := q) wd.1 (by omega) nb
    rw [c] at me
    exact ⟨_, _, heard_b me get_last wd, .inr ⟨nb, _, rfl, get_last⟩, (Ext.more _ _).trans (Ext.more _ _)⟩
  · have c := cap_ok a wd.1 (by omega) nb
    rw [c] at me
    exact ⟨_, _, heard_val me, .inl ⟨nb, rfl⟩, Ext.refl _⟩
theorem hslow_told {fo fw : Ws → Hv → Res W} {h0 : Hv} {o : Str} (eo : fo r h0 = .val (.ref q) h) (a : SetAt h q [] o) (ew : fw r h = .val (.str w) h) (wd : Wd w) : ∃ x g, mHeardM sel_heard (mMeth "S" "slowness" 1 m_Setting_slowness fo (mCons fw mNil)) r h0 = .val x g ∧ Told w g x ∧ Ext h g := by
  have l := wd.2
  have ea : (mCons fw mNil) r h = .val [.str w] h := by rw [mCons_eq, ew, bind_val, mNil_eq, bind_val]
  obtain ⟨d, e1, _⟩ := id a
  have me := meth_of (f := "slowness") (mf := m_Setting_slowness) (n := 1) eo e1 (by kernel_rfl) ea rfl
  cases nb : nameB w
  · have c := slow_no (h := h) (q := q) wd.1 (by omega) nb
    rw [c] at me
    exact ⟨_, _, heard_b me get_last wd, .inr ⟨nb, _, rfl, get_last⟩, (Ext.more _ _).trans (Ext.more _ _)⟩
  · have c := slow_ok a wd.1 (by omega) nb
    rw [c] at me
    exact ⟨_, _, heard_val me, .inl ⟨nb, rfl⟩, Ext.refl _⟩
end K08
end
section
namespace K08
open PySem L2 VL LD PL
variable {h g : Hv} {D : DI} {p q s n m j : Nat} {w : Str} {r : Ws} {T : List (List W)}
/-! ### a program of one step -/
def getT (w : Str) : List (List W) := [[.tup [.str "get", .str w]]]
def PB (t : Str) : List W := [.str "program", .str t]
theorem repr00 (h : Hv) : mReprF [.tup [.int 0, .int 0]] h = .val (.str "(0, 0)") h := by kernel_rfl
theorem reprC (h : Hv) : mReprF [.str "capacities"] h = .val (.str "'capacities'") h := by kernel_rfl
theorem hmade {fa : Ws → Hv → Res (List W)} (ea : fa r h = .val [tskW (getT w)] h) (wd : Wd w) : ∃ x g, mHeardM sel_heard (mProp "P" m_Program_tasks (mMakeF "P" 1 ([] : List Str).length m_Program_init gm_Program_1 fa mNil)) r h = .val x g ∧ ((nameB w = true ∧ x = tskW (getT w)) ∨ (nameB w = false ∧ ∃ p, x = .ref p ∧ g[p]? = some (.lst (PB "(0, 0)")))) ∧ Ext h g := by
  have l := wd.2
  have hn : ([tskW (getT w)] : List W).length = 1 ∧ ([] : List W).length = ([] : List Str).length := ⟨rfl, rfl⟩
  cases nb : nameB w
  · obtain ⟨j, g1, e1, e2, x1⟩ := initP_get (h := h ++ [.ins "P" []]) (q := h.length) (c := .non) wd.1 (by omega) nb
    have mk := mkF_exc (cl := "P") (G := gm_Program_1) (gk := mNil) (h := h) (g := h) (n := 1) (m := ([] : List Str).length) ea (mNil_eq ..) hn e1
    have pr : (mProp "P" m_Program_tasks (mMakeF "P" 1 ([] : List Str).length m_Program_init gm_Program_1 fa mNil)) r h = .exc "c" (some j) g1 := by
      unfold mProp
      rw [mk, bind_exc]
    exact ⟨_, _, heard_c pr e2 (repr00 _), .inr ⟨rfl, _, rfl, get_last⟩, ((Ext.more _ _).trans x1).trans (Ext.more _ _)⟩
  · obtain ⟨g1, mk, pa, x1⟩ := mkP_ok (G := gm_Program_1) (T := getT w) (D := []) (c := .non) (gk := mNil) (h := h) (g := h) (n := 1) (m := ([] : List Str).length) ea (mNil_eq ..) hn rfl (ts_get wd.1 (by omega) nb) (.inl ⟨rfl, rfl⟩) okd_nil
    obtain ⟨d, a1, a2⟩ := pa
    have tk : m_Program_tasks [.ref h.length] g1 = .val (tskW (getT w)) g1 := by
      have st : startW ["self"] [.ref h.length] = [some (.ref h.length)] := rfl
      unfold m_Program_tasks
      rw [mDef_eq, st, mRet_eq, fldP (g := g1) (q := h.length) rfl a1, andS_val, endS_rt]
    have pr : (mProp "P" m_Program_tasks (mMakeF "P" 1 ([] : List Str).length m_Program_init gm_Program_1 fa mNil)) r h = .val (tskW (getT w)) g1 := by
      unfold mProp
      rw [mk, bind_val]
      unfold mPropO
      simp only [a1]
      rw [if_pos trivial, tk]
      rfl
    exact ⟨_, _, heard_val pr, .inl ⟨rfl, rfl⟩, x1⟩
/-! ### capacities, slownesses of one word -/
theorem okd_one {lo hi i : Int} (wd : Wd w) (nb : nameB w = true) (a : lo ≤ i) (b : i ≤ hi) : Okd lo hi [(w, i)] := ⟨(by unfold Nd; simp), fun q hq => by
  rw [List.mem_singleton] at hq
  subst hq
  exact ⟨wd.1, nb, a, b⟩, by show (1 : Nat) ≤ 1000; decide⟩
theorem gt_flt (w : Str) (i : Int) : (gt (flt [(w, i)]) w).elim (.int 1) W.int = .int i := by
  by_cases c : i = 1
  · subst c
    rfl
  · have f : flt [(w, i)] = [(w, i)] := by
      unfold flt
      rw [List.filter_cons, if_pos (decide_eq_true c)]
      rfl
    rw [f]
    unfold gt
    rw [if_pos rfl]
    rfl
theorem whole_int {v : W} {lo hi : Int} (hw : wholeB v lo hi = true) : ∃ i : Int, v = .int i ∧ lo ≤ i ∧ i ≤ hi := by
  cases v with
  | int i =>
    have : (decide (lo ≤ i) && decide (i ≤ hi)) = true := hw
    rw [Bool.and_eq_true, decide_eq_true_eq, decide_eq_true_eq] at this
    exact ⟨i, rfl, this⟩
  | _ => cases hw
def Fit (b : Bool) (v : W) (L : List W) (h : Hv) (x : W) : Prop := (b = true ∧ x = v) ∨ (b = false ∧ ∃ p, x = .ref p ∧ h[p]? = some (.lst L))
theorem hcap_room {v : W} {fa : Ws → Hv → Res (List W)} {fw : Ws → Hv → Res W} (hv : v ∈ MS) (wd : Wd w) (e : h[p]? = some (.dic [(.inr w, v)])) (ea : fa r h = .val [tskW [[]], .ref p] h) (ew : ∀ g, fw r g = .val (.str w) g) :
    ∃ x g, mHeardM sel_heard (mMeth "P" "capacity" 1 m_Program_capacity (mMakeF "P" 2 ([] : List Str).length m_Program_init gm_Program_2 fa mNil) (mCons fw mNil)) r h = .val x g ∧ Fit (nameB w && wholeB v 1 9) v (PB "'capacities'") g x ∧ ∀ i u, i ≠ p → h[i]? = some u → g[i]? = some u := by
  have l := wd.2
  have hn : ([tskW [[]], .ref p] : List W).length = 2 ∧ ([] : List W).length = ([] : List Str).length := ⟨rfl, rfl⟩
  cases nb : (nameB w && wholeB v 1 9)
  · obtain ⟨j, g1, e1, e2, x1⟩ := initP_no (h := h ++ [.ins "P" []]) (q := h.length) (T := [[]]) ts_none (get_old e) wd.1 (by omega) (ms_sc hv) nb
    have mk := mkF_exc (cl := "P") (G := gm_Program_2) (gk := mNil) (h := h) (g := h) (n := 2) (m := ([] : List Str).length) ea (mNil_eq ..) hn e1
    refine ⟨_, _, heard_c (meth_exc mk) e2 (reprC _), .inr ⟨rfl, _, rfl, get_last⟩, fun i u ne ei => get_old (x1 i u ne (get_old ei))⟩
  · rw [Bool.and_eq_true] at nb
    obtain ⟨nb, wb⟩ := nb
    obtain ⟨i, rfl, i1, i2⟩ := whole_int wb
    obtain ⟨g1, mk, pa, x1⟩ := mkP_ok (G := gm_Program_2) (T := [[]]) (D := [(w, i)]) (c := .ref p) (gk := mNil) (h := h) (g := h) (n := 2) (m := ([] : List Str).length) ea (mNil_eq ..) hn rfl ts_none (.inr ⟨p, rfl, e⟩) (okd_one wd nb i1 i2)
    obtain ⟨d, a1, _⟩ := id pa
    have ec : (mCons fw mNil) r g1 = .val [.str w] g1 := by rw [mCons_eq, ew, bind_val, mNil_eq, bind_val]
    have me := meth_of (f := "capacity") (mf := m_Program_capacity) (n := 1) mk a1 (by kernel_rfl) ec rfl
    rw [cap_ok pa wd.1 (by omega) nb, gt_flt] at me
    exact ⟨_, _, heard_val me, .inl ⟨rfl, rfl⟩, fun i u _ ei => x1 _ _ ei⟩
theorem hslow_room {v : W} {fa : Ws → Hv → Res (List W)} {fw : Ws → Hv → Res W} (hv : v ∈ MS) (wd : Wd w) (e : h[p]? = some (.dic [(.inr w, v)])) (ea : fa r h = .val [.ref p] h) (ew : ∀ g, fw r g = .val (.str w) g) :
    ∃ x g, mHeardM sel_heard (mMeth "S" "slowness" 1 m_Setting_slowness (mMakeF "S" 1 ([] : List Str).length m_Setting_init gm_Setting_1 fa mNil) (mCons fw mNil)) r h = .val x g ∧ Fit (nameB w && wholeB v 0 1000000) v [.str "setting", .str (dtx w v)] g x ∧ Ext h g := by
  have l := wd.2
  have hn : ([.ref p] : List W).length = 1 ∧ ([] : List W).length = ([] : List Str).length := ⟨rfl, rfl⟩
  cases nb : (nameB w && wholeB v 0 1000000)
  · have e1 := initS_no (h := h ++ [.ins "S" []]) (q := h.length) (o := "turn") (get_old e) wd.1 (by omega) (ms_sc hv) nb
    have mk := mkF_exc (cl := "S") (G := gm_Setting_1) (gk := mNil) (h := h) (g := h) (n := 1) (m := ([] : List Str).length) ea (mNil_eq ..) hn e1
    have xe : Ext h (h ++ [O.ins "S" []] ++ [O.lst [W.bl false], O.xd [("value", W.ref p)]]) := (Ext.more _ _).trans (Ext.more _ _)
    have e2 : (h ++ [O.ins "S" []] ++ [O.lst [W.bl false], O.xd [("value", W.ref p)]])[(h ++ [O.ins "S" []]).length + 1]? = some (.xd [("value", W.ref p)]) := by
      rw [List.getElem?_append_right (Nat.le_add_right _ _), Nat.add_sub_cancel_left]
      rfl
    exact ⟨_, _, heard_a (meth_exc mk) e2 (repr_dict wd hv (xe _ _ e)), .inr ⟨rfl, _, rfl, get_last⟩, xe.trans (Ext.more _ _)⟩
  · rw [Bool.and_eq_true] at nb
    obtain ⟨nb, wb⟩ := nb
    obtain ⟨i, rfl, i1, i2⟩ := whole_int wb
    obtain ⟨g1, mk, pa, x1⟩ := mkS_ok (G := gm_Setting_1) (o := "turn") (D := [(w, i)]) (c := .ref p) (gk := mNil) (h := h) (g := h) (n := 1) (m := ([] : List Str).length) ea (mNil_eq ..) hn rfl (.inr ⟨p, rfl, e⟩) (okd_one wd nb i1 i2) List.mem_cons_self
    obtain ⟨d, a1, _⟩ := id pa
    have ec : (mCons fw mNil) r g1 = .val [.str w] g1 := by rw [mCons_eq, ew, bind_val, mNil_eq, bind_val]
    have me := meth_of (f := "slowness") (mf := m_Setting_slowness) (n := 1) mk a1 (by kernel_rfl) ec rfl
    rw [slow_ok pa wd.1 (by omega) nb, gt_flt] at me
    exact ⟨_, _, heard_val me, .inl ⟨rfl, rfl⟩, x1⟩
/-- what fits is equal to what is due -/
theorem fit_eq {b neg : Bool} {v x y : W} {t k : Str} (hv : v ∈ MS) (ot : PyData.strOk t = true) (ok : PyData.strOk k = true) (fx : Fit b v [.str k, .str t] h x) (fy : Fit b v [.str k, .str t] h y) : mEq neg x y h = .val (.bl (!neg)) h := by
  have two : ∀ p, h[p]? = some (.lst [.str k, .str t]) → toD dF h (.ref p) = some (.list [.str k, .str t]) := fun p e => by
    obtain ⟨k, hk⟩ : ∃ k, dF = k + 2 := ⟨dF - 2, by decide⟩
    rw [hk]
    simp only [toD, e]
    rfl
  have sh : SeqAt.shaped (.list [.str k, .str t]) = true := by
    have d : PyData.depth (.list [.str k, .str t]) ≤ 64 := by
      simp [PyData.depth, PyData.depthAll]
    simp only [SeqAt.shaped, PyData.canLay0, PyData.canLayAll0, ot, ok, Bool.and_self, Bool.true_and]
    exact decide_eq_true d
  rcases fx with ⟨b1, rfl⟩ | ⟨b1, p, rfl, e1⟩ <;> rcases fy with ⟨b2, rfl⟩ | ⟨b2, q, rfl, e2⟩
  · exact eq_same (ms_dat hv _ h) (ms_dat hv _ h) (ms_shaped hv)
  · rw [b1] at b2; cases b2
  · rw [b1] at b2; cases b2
  · exact eq_same (two p e1) (two q e2) sh
theorem disp_ok {fk fv : Ws → Hv → Res W} {v : W} (ek : ∀ g, fk r g = .val (.str w) g) (ev : ∀ g, fv r g = .val v g) (h : Hv) : mDisp [(fk, fv)] r h = .val (.ref h.length) (h ++ [.dic [(.inr w, v)]]) := by
  unfold mDisp mPairs
  rw [ek, bind_val, ev, bind_val]
  have kw : keyW (.str w) = some (.inr w) := rfl
  simp only [kw]
  unfold mPairs
  rw [bind_val, bind_val]
  simp only [get_last]
  rw [if_pos (by show (1 : Nat) ≤ 15; decide)]
  have st : (h ++ [O.dic []]).set h.length (.dic (mergeW [] [(.inr w, v)])) = h ++ [.dic [(.inr w, v)]] := by
    rw [List.set_append_right _ _ (Nat.le_refl _), Nat.sub_self]
    rfl
  rw [st]
end K08
end
section
namespace K08
open PySem L2 VL LD PL
variable {h g : Hv} {D : DI} {p q s n m j : Nat} {w : Str} {r : Ws} {T : List (List W)}
theorem due_ok {b : Bool} {v : W} {fs : Ws → Hv → Res (List W)} {k t : Str} (e9 : mVar 9 r h = .val (.bl b) h) (e1 : mVar 1 r h = .val v h) (fl : fs r h = .val [.str k, .str t] h) : ∃ y g, (mIf (mT (mVar 9)) (mVar 1) (mLst fs)) r h = .val y g ∧ Fit b v [.str k, .str t] g y ∧ Ext h g := by
  cases b
  · refine ⟨.ref h.length, h ++ [.lst [.str k, .str t]], ?_, .inr ⟨rfl, _, rfl, get_last⟩, Ext.more _ _⟩
    rw [mIf_eq, mT_eq, e9, bind_val, asB_bl, bind_val, if_neg (by decide), mLst_eq, fl, bind_val, if_pos (by show (2 : Nat) ≤ 100000; decide)]
    rfl
  · refine ⟨v, h, ?_, .inl ⟨rfl, rfl⟩, Ext.refl _⟩
    rw [mIf_eq, mT_eq, e9, bind_val, asB_bl, bind_val, if_pos rfl, e1]
theorem fits_ok {b : Bool} {v : W} {lo hi : Int} {fhi : Ws → Hv → Res W} (sc : Sc v) (e2 : mVar 2 r h = .val (.bl b) h) (e1 : mVar 1 r h = .val v h) (eh : fhi r h = .val (.int hi) h) : (mAndV (mVar 2) (mCall 3 m__law_is_whole (mCons (mVar 1) (mCons (mC (.int lo)) (mCons fhi mNil))))) r h = .val (.bl (b && wholeB v lo hi)) h := by
  rw [mAndV_eq, mT_eq, e2, bind_val, asB_bl, bind_val]
  cases b
  · rw [if_neg (by decide), Bool.false_and]
  · rw [if_pos rfl, mCall_eq, mCons_eq, e1, bind_val, mCons_eq, mC_eq, bind_val, mCons_eq, eh, bind_val, mNil_eq, bind_val, bind_val, bind_val, bind_val, if_pos (by rfl), lwhole_eq sc, Bool.true_and]
abbrev wE (w : Str) (v : W) (a b c d e f g i : Option W) : Ws := [some (.str w), some v, a, b, c, d, e, f, g, i]
theorem get_dat (w : Str) (h : Hv) : toD dF h (tskW (getT w)) = some (.tuple [.tuple [.tuple [.str "get", .str w]]]) := rfl
theorem get_shaped (wd : Wd w) : SeqAt.shaped (.tuple [.tuple [.tuple [.str "get", .str w]]]) = true := by
  have ok := asc_ok wd.1
  have og : PyData.strOk ("get" : Str) = true := by decide +kernel
  have d : PyData.depth (.tuple [.tuple [.tuple [.str "get", .str w]]]) ≤ 64 := by
    simp [PyData.depth, PyData.depthAll]
  simp only [SeqAt.shaped, PyData.canLay0, PyData.canLayAll0, ok, og, Bool.and_self, Bool.true_and]
  exact decide_eq_true d
theorem right_ok {v : W} (hv : v ∈ MS) (wd : Wd w) (h : Hv) : ∃ g, m__law_word_right [.str w, v] h = .val (.bl true) g ∧ Ext h g := by
  have l := wd.2
  have sc := ms_sc hv
  have st : startW ["_law_word_here", "_law_many", "_law_good", "_law_empty", "_law_due", "_law_told", "_law_made", "_law_room", "_law_slow", "_law_fits"] [.str w, v] = wE w v none none none none none none none none := rfl
  let E0 : Ws := wE w v none none none none none none none none
  -- good, empty
  obtain ⟨g1, n1, x1⟩ := lname_eq wd.1 (by omega) h
  obtain ⟨g2, mk2, pa, x2⟩ := mkP_ok (r := E0) (G := gm_Program_1) (T := [[]]) (D := []) (c := .non) (ga := mCons (mTup (mCons (mTup mNil) mNil)) mNil) (gk := mNil) (h := g1) (g := g1) (n := 1) (m := ([] : List Str).length) (ws := [tskW [[]]]) (zs := []) (h0 := g1) rfl rfl ⟨rfl, rfl⟩ rfl ts_none (.inl ⟨rfl, rfl⟩) okd_nil
  let E1 : Ws := wE w v (some (.bl (nameB w))) (some (.ref g1.length)) none none none none none none
  have asg1 : mAsg (mTup (mCons (mCall 1 m__law_is_name (mCons (mVar 0) mNil)) (mCons (mMakeF "P" 1 ([] : List Str).length m_Program_init gm_Program_1 (mCons (mTup (mCons (mTup mNil) mNil)) mNil) mNil) mNil))) (mGs 2 (mGcons (mGn 2) (mGcons (mGn 3) mGnil))) E0 h = .nx E1 g2 := by
    unfold mAsg
    rw [mTup_eq, mCons_eq, mCall_eq, mCons_eq, show mVar 0 E0 h = .val (.str w) h from rfl, bind_val, mNil_eq, bind_val, bind_val, if_pos (by rfl), n1, bind_val, mCons_eq, mk2, bind_val, mNil_eq, bind_val, bind_val, bind_val, if_pos (by show (2 : Nat) ≤ 100000; decide), andS_val]
    rfl
  -- due
  let g3 := g2 ++ [O.lst (U w)]
  have ls2 : (mLst (mCons (mC (.str ("unknown" : Str))) (mCons (mB mReprF (mCons (mVar 0) mNil)) (mCons (mC (.bl true)) mNil)))) E1 g2 = .val (.ref g2.length) g3 := by
    rw [mLst_eq, mCons_eq, mC_eq, bind_val, mCons_eq, mB_eq, mCons_eq, show mVar 0 E1 g2 = .val (.str w) g2 from rfl, bind_val, mNil_eq, bind_val, bind_val, reprF_str wd.1 (by omega), bind_val, mCons_eq, mC_eq, bind_val, mNil_eq, bind_val, bind_val, bind_val, bind_val, if_pos (by show (3 : Nat) ≤ 100000; decide)]
    rfl
  let E2 : Ws := wE w v (some (.bl (nameB w))) (some (.ref g1.length)) (some (.ref g2.length)) none none none none none
  have due3 : g3[g2.length]? = some (.lst (U w)) := get_last
  -- told
  obtain ⟨a, g4, h4, t4, x4⟩ := hcap_told (r := E2) (h := g3) (h0 := g3) (q := g1.length) (T := [[]]) (fo := mVar 3) (fw := mVar 0) rfl (pa.ext (Ext.more _ _)) rfl wd
  let g5 := g4 ++ [O.lst [a]]
  have ls3 : (mLst (mCons (mHeardM sel_heard (mMeth "P" "capacity" 1 m_Program_capacity (mVar 3) (mCons (mVar 0) mNil))) mNil)) E2 g3 = .val (.ref g4.length) g5 := by
    rw [mLst_eq, mCons_eq, h4, bind_val, mNil_eq, bind_val, bind_val, if_pos (by show (1 : Nat) ≤ 100000; decide)]
    rfl
  let E3 : Ws := wE w v (some (.bl (nameB w))) (some (.ref g1.length)) (some (.ref g2.length)) (some (.ref g4.length)) none none none none
  obtain ⟨g6, mk6, sa, x6⟩ := mkS_ok (r := E3) (G := gm_Setting_0) (o := "turn") (D := []) (c := .non) (ga := mNil) (gk := mNil) (h := g5) (g := g5) (n := 0) (m := ([] : List Str).length) (ws := []) (zs := []) (h0 := g5) rfl rfl ⟨rfl, rfl⟩ rfl (.inl ⟨rfl, rfl⟩) okd_nil List.mem_cons_self
  obtain ⟨b, g7, h7, t7, x7⟩ := hslow_told (r := E3) (h := g6) (h0 := g5) (q := g5.length) (fw := mVar 0) mk6 sa rfl wd
  have told7 : g7[g4.length]? = some (.lst [a]) := x7 _ _ (x6 _ _ get_last)
  let g8 := g7.set g4.length (.lst [a, b])
  have l4 : g2.length < g4.length := by
    have : g3.length = g2.length + 1 := by simp [g3]
    have := x4.len
    omega
  have ap : mApp (mVar 5) (mHeardM sel_heard (mMeth "S" "slowness" 1 m_Setting_slowness (mMakeF "S" 0 ([] : List Str).length m_Setting_init gm_Setting_0 mNil mNil) (mCons (mVar 0) mNil))) E3 g5 = .val .non g8 := by
    have la : g5[g4.length]? = some (.lst [a]) := get_last
    unfold mApp
    rw [show mVar 5 E3 g5 = .val (.ref g4.length) g5 from rfl, bind_val]
    simp only [la]
    rw [h7, bind_val]
    simp only [told7]
    rw [if_pos (by show (1 : Nat) < 100000; decide)]
    rfl
  have ta : Told w g8 a := (((t4.ext (Ext.more _ _)).ext x6).ext x7).set told7
  have tb : Told w g8 b := t7.set told7
  have told8 : g8[g4.length]? = some (.lst [a, b]) := List.getElem?_set_self (lt_of_get told7)
  have due8 : g8[g2.length]? = some (.lst (U w)) := by
    show (g7.set _ _)[_]? = _
    rw [List.getElem?_set_ne (by omega)]
    exact x7 _ _ (x6 _ _ (get_old (x4 _ _ due3)))
  have xh4 : Ext h g4 := ((x1.trans x2).trans (Ext.more _ _)).trans x4
  have x8 : Ext h g8 := fun i u ei => by
    have lt := lt_of_get ei
    have := xh4.len
    show (g7.set _ _)[i]? = _
    rw [List.getElem?_set_ne (by omega)]
    exact x7 _ _ (x6 _ _ (get_old (xh4 _ _ ei)))
  -- both are as due
  obtain ⟨c, tc, ls5⟩ : ∃ c, Told w g8 c ∧ (mIf (mT (mVar 2)) (mLst (mCons (mC (.int 1)) (mCons (mC (.int 1)) mNil))) (mLst (mCons (mVar 4) (mCons (mVar 4) mNil)))) E3 g8 = .val (.ref g8.length) (g8 ++ [.lst [c, c]]) := by
    cases nb : nameB w
    · refine ⟨.ref g2.length, .inr ⟨nb, _, rfl, due8⟩, ?_⟩
      rw [mIf_eq, mT_eq, show mVar 2 E3 g8 = .val (.bl (nameB w)) g8 from rfl, bind_val, asB_bl, bind_val, nb, if_neg (by decide)]
      rfl
    · refine ⟨.int 1, .inl ⟨nb, rfl⟩, ?_⟩
      rw [mIf_eq, mT_eq, show mVar 2 E3 g8 = .val (.bl (nameB w)) g8 from rfl, bind_val, asB_bl, bind_val, nb, if_pos rfl]
      rfl
  let g9 := g8 ++ [O.lst [c, c]]
  have x89 : Ext g8 g9 := Ext.more _ _
  have eq5 : mEq true (.ref g4.length) (.ref g8.length) g9 = .val (.bl false) g9 := eq_same (two_dat (x89 _ _ told8) (ta.ext x89) (tb.ext x89)) (two_dat get_last (tc.ext x89) (tc.ext x89)) (two_shaped wd)
  -- a program of one step
  obtain ⟨d, g10, h10, t10, x10⟩ := hmade (r := E3) (h := g9) (fa := (mCons (mTup (mCons (mTup (mCons (mTup (mCons (mC (.str ("get" : Str))) (mCons (mVar 0) mNil))) mNil)) mNil)) mNil)) rfl wd
  let E4 : Ws := wE w v (some (.bl (nameB w))) (some (.ref g1.length)) (some (.ref g2.length)) (some (.ref g4.length)) (some d) none none none
  obtain ⟨y, g11, h11, q11, x11⟩ : ∃ y g11, (mIf (mT (mVar 2)) (mTup (mCons (mTup (mCons (mTup (mCons (mC (.str ("get" : Str))) (mCons (mVar 0) mNil))) mNil)) mNil)) (mLst (mCons (mC (.str ("program" : Str))) (mCons (mC (.str ("(0, 0)" : Str))) mNil)))) E4 g10 = .val y g11 ∧ mEq true d y g11 = .val (.bl false) g11 ∧ Ext g10 g11 := by
    rcases t10 with ⟨nb, rfl⟩ | ⟨nb, p, rfl, ep⟩
    · refine ⟨tskW (getT w), g10, ?_, eq_same (get_dat w _) (get_dat w _) (get_shaped wd), Ext.refl _⟩
      rw [mIf_eq, mT_eq, show mVar 2 E4 g10 = .val (.bl (nameB w)) g10 from rfl, bind_val, asB_bl, bind_val, nb, if_pos rfl]
      rfl
    · refine ⟨.ref g10.length, g10 ++ [.lst (PB "(0, 0)")], ?_, fit_eq (v := .non) (b := false) (by decide +kernel) (by decide +kernel) (by decide +kernel) (.inr ⟨rfl, p, rfl, get_old ep⟩) (.inr ⟨rfl, _, rfl, get_last⟩), Ext.more _ _⟩
      rw [mIf_eq, mT_eq, show mVar 2 E4 g10 = .val (.bl (nameB w)) g10 from rfl, bind_val, asB_bl, bind_val, nb, if_neg (by decide)]
      rfl
  -- two dicts
  let K : List (Key × W) := [(.inr w, v)]
  let g12 := g11 ++ [O.dic K]
  let g13 := g12 ++ [O.dic K]
  let E5 : Ws := wE w v (some (.bl (nameB w))) (some (.ref g1.length)) (some (.ref g2.length)) (some (.ref g4.length)) (some d) (some (.ref g11.length)) (some (.ref g12.length)) none
  have asg8 : mAsg (mTup (mCons (mDisp [((mVar 0), (mVar 1))]) (mCons (mDisp [((mVar 0), (mVar 1))]) mNil))) (mGs 2 (mGcons (mGn 7) (mGcons (mGn 8) mGnil))) E4 g11 = .nx E5 g13 := by
    unfold mAsg
    rw [mTup_eq, mCons_eq, disp_ok (w := w) (v := v) (fun _ => rfl) (fun _ => rfl), bind_val, mCons_eq, disp_ok (w := w) (v := v) (fun _ => rfl) (fun _ => rfl), bind_val, mNil_eq, bind_val, bind_val, bind_val, if_pos (by show (2 : Nat) ≤ 100000; decide), andS_val]
    rfl
  have lk7 : g13[g11.length]? = some (.dic K) := get_old get_last
  have lk8 : g13[g12.length]? = some (.dic K) := get_last
  have ne78 : g12.length ≠ g11.length := by simp [g12]
  -- capacities
  let b1 := nameB w && wholeB v 1 9
  let E6 : Ws := wE w v (some (.bl (nameB w))) (some (.ref g1.length)) (some (.ref g2.length)) (some (.ref g4.length)) (some d) (some (.ref g11.length)) (some (.ref g12.length)) (some (.bl b1))
  have ft1 := fits_ok (r := E5) (h := g13) (b := nameB w) (v := v) (lo := 1) (hi := 9) (fhi := mC (.int 9)) sc rfl rfl rfl
  obtain ⟨e, g14, h14, f14, x14⟩ := hcap_room (r := E6) (h := g13) (p := g11.length) (fa := (mCons (mTup (mCons (mTup mNil) mNil)) (mCons (mVar 7) mNil))) (fw := mVar 0) hv wd lk7 rfl (fun _ => rfl)
  obtain ⟨y2, g15, h15, f15, x15⟩ := due_ok (r := E6) (h := g14) (b := b1) (v := v) (fs := (mCons (mC (.str ("program" : Str))) (mCons (mC (.str ("'capacities'" : Str))) mNil))) (k := "program") (t := "'capacities'") rfl rfl rfl
  have f14' : Fit b1 v [.str "program", .str "'capacities'"] g15 e := f14.imp id fun ⟨z, p, z1, z2⟩ => ⟨z, p, z1, x15 _ _ z2⟩
  have q15 : mEq true e y2 g15 = .val (.bl false) g15 := fit_eq hv (by decide +kernel) (by decide +kernel) f14' f15
  have lk8' : g15[g12.length]? = some (.dic K) := x15 _ _ (x14 _ _ ne78 lk8)
  -- slownesses
  let b2 := nameB w && wholeB v 0 1000000
  let E7 : Ws := wE w v (some (.bl (nameB w))) (some (.ref g1.length)) (some (.ref g2.length)) (some (.ref g4.length)) (some d) (some (.ref g11.length)) (some (.ref g12.length)) (some (.bl b2))
  have ft2 := fits_ok (r := E6) (h := g15) (b := nameB w) (v := v) (lo := 0) (hi := 1000000) (fhi := m2 mPow (mC (.int 10)) (mC (.int 6))) sc rfl rfl (by rfl)
  obtain ⟨f, g16, h16, f16, x16⟩ := hslow_room (r := E7) (h := g15) (p := g12.length) (fa := (mCons (mVar 8) mNil)) (fw := mVar 0) hv wd lk8' rfl (fun _ => rfl)
  have rp : (mCons (mC (.str ("setting" : Str))) (mCons (mB mReprF (mCons (mVar 8) mNil)) mNil)) E7 g16 = .val [.str "setting", .str (dtx w v)] g16 := by
    rw [mCons_eq, mC_eq, bind_val, mCons_eq, mB_eq, mCons_eq, show mVar 8 E7 g16 = .val (.ref g12.length) g16 from rfl, bind_val, mNil_eq, bind_val, bind_val, repr_dict wd hv (x16 _ _ lk8'), bind_val, mNil_eq, bind_val, bind_val]
  obtain ⟨y3, g17, h17, f17, x17⟩ := due_ok (r := E7) (h := g16) (b := b2) (v := v) (fs := (mCons (mC (.str ("setting" : Str))) (mCons (mB mReprF (mCons (mVar 8) mNil)) mNil))) (k := "setting") (t := dtx w v) rfl rfl rp
  have f16' : Fit b2 v [.str "setting", .str (dtx w v)] g17 f := f16.imp id fun ⟨z, p, z1, z2⟩ => ⟨z, p, z1, x17 _ _ z2⟩
  have q17 : mEq false f y3 g17 = .val (.bl true) g17 := fit_eq hv (dtx_ok wd hv).1 (by decide +kernel) f16' f17
  have x11' : Ext h g11 := ((x8.trans x89).trans x10).trans x11
  refine ⟨g17, ?_, fun i u ei => x17 _ _ (x16 _ _ (x15 _ _ (x14 _ _ (by have := lt_of_get ei; have := x11'.len; omega) (get_old (get_old (x11' _ _ ei))))))⟩
  unfold m__law_word_right
  rw [mDef_eq, st, mSeq_eq, asg1, thenS_nx, mSeq_eq, mSet_eq, ls2, andS_val, thenS_nx]
  show endS ((mSeq _ _) E2 g3) = _
  rw [mSeq_eq, mSet_eq, ls3, andS_val, thenS_nx]
  show endS ((mSeq _ _) E3 g5) = _
  rw [mSeq_eq, mExpr_eq, ap, andS_val, thenS_nx, mSeq_eq, mIfS_eq, mT_eq, m2_eq, show mVar 5 E3 g8 = .val (.ref g4.length) g8 from rfl, bind_val, ls5, bind_val, eq5, bind_val, asB_bl, andS_val, if_neg (by decide), mNext_eq, thenS_nx, mSeq_eq, mSet_eq, h10, andS_val, thenS_nx]
  show endS ((mSeq _ _) E4 g10) = _
  rw [mSeq_eq, mIfS_eq, mT_eq, m2_eq, show mVar 6 E4 g10 = .val d g10 from rfl, bind_val, h11, bind_val, q11, bind_val, asB_bl, andS_val, if_neg (by decide), mNext_eq, thenS_nx, mSeq_eq, asg8, thenS_nx, mSeq_eq, mSet_eq, ft1, andS_val, thenS_nx]
  show endS ((mSeq _ _) E6 g13) = _
  rw [mSeq_eq, mIfS_eq, mT_eq, m2_eq, h14, bind_val, h15, bind_val, q15, bind_val, asB_bl, andS_val, if_neg (by decide), mNext_eq, thenS_nx, mSeq_eq, mSet_eq, ft2, andS_val, thenS_nx]
  show endS ((mRet _) E7 g15) = _
  rw [mRet_eq, m2_eq, h16, bind_val, h17, bind_val, q17, andS_val, endS_rt]
end K08
end
section
namespace K08
open PySem L2 VL LD PL
variable {h g : Hv} {p q s n m j : Nat} {w : Str} {r : Ws}
abbrev lE (i c : Int) (s : Nat) (a b : Option W) : Ws := [none, some (.int i), some (.int c), some (.ref s), a, b, none]
abbrev manyF : Ws → Hv → Res W := (m2 mIx (mLst (mCons (mC (.int 0)) (mCons (mC (.int 1)) (mCons (mC (.int 9)) (mCons (mC (.int 10)) (mCons (mCall 2 m__law_draw (mCons (mVar 3) (mCons (mC (.int 12)) mNil))) (mCons (m1 mNeg (mC (.int 1))) (mCons (m2 mPow (mC (.int 10)) (mC (.int 6))) (mCons (m2 mAdd (m2 mPow (mC (.int 10)) (mC (.int 6))) (mC (.int 1))) (mCons (mC (.bl true)) (mCons (mC .non) mNil))))))))))) (mCall 2 m__law_draw (mCons (mVar 3) (mCons (mC (.int 10)) mNil))))
theorem many_ok (hr : ∀ g, mVar 3 r g = .val (.ref s) g) (t : Stt h s) : ∃ v g, manyF r h = .val v g ∧ v ∈ MS ∧ Stt g s := by
  obtain ⟨d, g1, e1, d0, d1, t1, x1⟩ := call_draw (f := mVar 3) hr t (m := 12) (by decide)
  let L : List W := [.int 0, .int 1, .int 9, .int 10, .int d, .int (-1), .int 1000000, .int 1000001, .bl true, .non]
  have ls : (mLst (mCons (mC (.int 0)) (mCons (mC (.int 1)) (mCons (mC (.int 9)) (mCons (mC (.int 10)) (mCons (mCall 2 m__law_draw (mCons (mVar 3) (mCons (mC (.int 12)) mNil))) (mCons (m1 mNeg (mC (.int 1))) (mCons (m2 mPow (mC (.int 10)) (mC (.int 6))) (mCons (m2 mAdd (m2 mPow (mC (.int 10)) (mC (.int 6))) (mC (.int 1))) (mCons (mC (.bl true)) (mCons (mC .non) mNil))))))))))) r h = .val (.ref g1.length) (g1 ++ [.lst L]) := by
    have p1 : (m2 mPow (mC (.int 10)) (mC (.int 6))) r g1 = .val (.int 1000000) g1 := by rfl
    have p2 : (m2 mAdd (m2 mPow (mC (.int 10)) (mC (.int 6))) (mC (.int 1))) r g1 = .val (.int 1000001) g1 := by rfl
    have p3 : (m1 mNeg (mC (.int 1))) r g1 = .val (.int (-1)) g1 := by rfl
    rw [mLst_eq, mCons_eq, mC_eq, bind_val, mCons_eq, mC_eq, bind_val, mCons_eq, mC_eq, bind_val, mCons_eq, mC_eq, bind_val, mCons_eq, e1, bind_val, mCons_eq, p3, bind_val, mCons_eq, p1, bind_val, mCons_eq, p2, bind_val, mCons_eq, mC_eq, bind_val, mCons_eq, mC_eq, bind_val, mNil_eq]
    simp only [bind_val]
    rw [if_pos (by show (10 : Nat) ≤ 100000; decide)]
    rfl
  obtain ⟨v, g2, e2, hv, t2, x2⟩ := pick_of (r := r) (s := s) (fs := mVar 3) (M := 10) hr ls get_last rfl (by decide) (by have := t1.lt; omega) (t1.ext (Ext.more _ _))
  refine ⟨v, g2, e2, ?_, t2⟩
  have dm : W.int d ∈ MS := by
    have : d = 0 ∨ d = 1 ∨ d = 2 ∨ d = 3 ∨ d = 4 ∨ d = 5 ∨ d = 6 ∨ d = 7 ∨ d = 8 ∨ d = 9 ∨ d = 10 ∨ d = 11 := by omega
    rcases this with rfl | rfl | rfl | rfl | rfl | rfl | rfl | rfl | rfl | rfl | rfl | rfl <;> decide +kernel
  simp only [L, List.mem_cons, List.not_mem_nil, or_false] at hv
  rcases hv with rfl | rfl | rfl | rfl | rfl | rfl | rfl | rfl | rfl | rfl <;> first | exact dm | decide +kernel
theorem ext_stt (t : Stt h s) (x : Ext h g) : Stt g s := t.ext x
theorem turn_ok (i : Nat) (c : Int) (hi : i ≤ 1000) : ∃ r g, lBody (none :: some (.int i) :: some (.int c) :: List.replicate 4 none) [] = .nx r g ∧ r.length = 4 + 3 := by
  let E0 : Ws := [none, some (.int i), some (.int c), none, none, none, none]
  let h1 : Hv := [.lst [.int 420], .lst (List.replicate 200 (.int 420))]
  have mul : (m2 mMul (mLst (mCons (mC (.int 420)) mNil)) (mC (.int 200))) E0 [] = .val (.ref 1) h1 := by rfl
  obtain ⟨acc, e1, ha, hl⟩ := numbers_ok (h := h1) (p := 1) (m := 200) (cell := c) (salt := 800 + (i : Int)) rfl (by decide) (by omega) (by omega)
  have ad : mAdd (.int 800) (.int i) [] = .val (.int (800 + (i : Int))) [] := rfl
  have ds : ∃ ds : List Int, acc = ds.map W.int := by
    have : ∀ l : List W, (∀ w ∈ l, IsI w) → ∃ ds : List Int, l = ds.map W.int := fun l => by
      induction l with
      | nil => exact fun _ => ⟨[], rfl⟩
      | cons a l ih =>
        intro h
        obtain ⟨ds, e⟩ := ih fun w hw => h w (List.mem_cons_of_mem _ hw)
        obtain ⟨j, ej, _⟩ := h a List.mem_cons_self
        exact ⟨j :: ds, by rw [ej, e]; rfl⟩
    exact this acc ha
  obtain ⟨ds, rfl⟩ := ds
  let h2 : Hv := h1 ++ [.lst (ds.map W.int)]
  let h3 : Hv := h2 ++ [.lst [.ref 2, .int 0]]
  have cl : (mCall 3 m__law_numbers (mCons (mVar 2) (mCons (m2 mAdd (mC (.int 800)) (mVar 1)) (mCons (m2 mMul (mLst (mCons (mC (.int 420)) mNil)) (mC (.int 200))) mNil)))) E0 [] = .val (.ref 2) h2 := by
    rw [mCall_eq, mCons_eq, show mVar 2 E0 [] = .val (.int c) [] from rfl, bind_val, mCons_eq, m2_eq, mC_eq, bind_val, show mVar 1 E0 [] = .val (.int i) [] from rfl, bind_val, ad, bind_val, mCons_eq, mul, bind_val, mNil_eq, bind_val, bind_val, bind_val, bind_val, if_pos (by rfl), e1]
    rfl
  have ls : (mLst (mCons (mCall 3 m__law_numbers (mCons (mVar 2) (mCons (m2 mAdd (mC (.int 800)) (mVar 1)) (mCons (m2 mMul (mLst (mCons (mC (.int 420)) mNil)) (mC (.int 200))) mNil)))) (mCons (mC (.int 0)) mNil))) E0 [] = .val (.ref 3) h3 := by
    rw [mLst_eq, mCons_eq, cl, bind_val, mCons_eq, mC_eq, bind_val, mNil_eq, bind_val, bind_val, bind_val, if_pos (by show (2 : Nat) ≤ 100000; decide)]
    rfl
  have t : Stt h3 3 := ⟨2, ds, 0, rfl, rfl, by decide⟩
  let E1 : Ws := lE i c 3 none none
  have rg : mRng (mCons (mC (.int 8)) mNil) E1 h3 = .val ⟨8 + 1, nxR 0 8⟩ h3 := mRng_of (m := 8) (by decide) rfl
  obtain ⟨r', g, fe, ⟨a, b, hr⟩, _⟩ := for_rng (n := 8) (lo := 0) (s := 4) (b := (mSeq (mSet 5 manyF) (mIfS (mNotT (mT (mCall 2 m__law_word_right (mCons (mCall 1 m__law_word (mCons (mVar 3) mNil)) (mCons (mVar 5) mNil))))) (mRet (mC (.bl false))) mNext))) (fun _ r h => (∃ a b, r = lE i c 3 a b) ∧ Stt h 3) (fun k r h _ ⟨⟨a, b, hr⟩, t⟩ => by
    subst hr
    let F : Ws := lE i c 3 (some (.int (0 + k))) b
    obtain ⟨v, g1, e1, hv, t1⟩ := many_ok (r := F) (fun _ => rfl) t
    let G : Ws := lE i c 3 (some (.int (0 + k))) (some v)
    obtain ⟨w, g2, e2, wd, t2, x2⟩ := word_ok t1
    obtain ⟨g3, e3, x3⟩ := right_ok hv wd g2
    refine ⟨G, g3, ?_, ⟨_, _, rfl⟩, t2.ext x3⟩
    show (mSeq _ _) F h = _
    rw [mSeq_eq, mSet_eq, e1, andS_val, thenS_nx]
    show (mIfS _ _ _) G g1 = _
    rw [mIfS_eq, mNotT_eq, mT_eq, mCall_eq, mCons_eq, mCall_eq, mCons_eq, show mVar 3 G g1 = .val (.ref 3) g1 from rfl, bind_val, mNil_eq, bind_val, bind_val, if_pos (by rfl), e2, bind_val, mCons_eq, show mVar 5 G g2 = .val v g2 from rfl, bind_val, mNil_eq, bind_val, bind_val, bind_val, if_pos (by rfl), e3, bind_val, asB_bl, bind_val, andS_val, if_neg (by decide), mNext_eq]) 8 0 E1 h3 (by omega) ⟨⟨_, _, rfl⟩, t⟩
  refine ⟨r', g, ?_, by rw [hr]; rfl⟩
  unfold lBody
  rw [mSeq_eq, mSet_eq]
  show thenS (Res.andS (mLst _ E0 []) _ _) _ = _
  rw [ls, andS_val, thenS_nx]
  show (mFor _ _ _) E1 h3 = _
  unfold mFor
  rw [rg, andS_val]
  exact fe
theorem true_ (ns : List Int) (h1 : ns.length ≤ 63) (_ : ∀ z ∈ ns, PySem.Builtin.Int.intBits z ≤ 1048576) : ∃ h', m_law [.ref 0] [.rol (ns.map W.int)] = .val (.bl true) h' :=
  law_loop_tail (k := 5) (m := 4) (N := ["_law_script", "_law_k", "_law_cell", "_law_state", "_law_turn", "_law_many", "_law_odd"]) (B := lBody) (T := lTail) rfl turn_ok tail_ok ns h1
end K08
end
section
open PySem PyProof.Rows PySem.W
set_option maxRecDepth 110000 in
set_option maxHeartbeats 0 in
theorem PySem.Challenge.cw_whatiftimes_k08_names_and_capacities_holds : PySem.Challenge.rw_whatiftimes_k08_names_and_capacities.Holds := by
  w_on; o_law; km_head; (case hw => w_witness2); k_fill
  refine VL.walk_V (l := PySem.Challenge.rw_whatiftimes_k08_names_and_capacities) (n := 63) (k := 15) rfl (by decide) rfl ⟨rfl, by decide, by decide⟩ (fun w h Y => PySem.W.km_in_of Y) ?F
  case F =>
    intro w mg fa h Y KX G hmg
    refine' K08.mk KX G hmg K08.true_ ?aC_Program ?aC_Setting ?a_xiswhole ?l_xiswhole ?c_xiswhole1 ?k_xiswhole ?a_xisname ?l_xisname ?c_xisname1 ?k_xisname ?a_xrequirename ?l_xrequirename ?c_xrequirename1 ?k_xrequirename ?a_xformof ?l_xformof ?c_xformof1 ?k_xformof ?a_xisitem ?l_xisitem ?c_xisitem1 ?k_xisitem ?a_xisstep ?l_xisstep ?c_xisstep1 ?k_xisstep ?a_xrequiretasks ?l_xrequiretasks ?c_xrequiretasks1 ?k_xrequiretasks ?a_xiscapacity ?l_xiscapacity ?c_xiscapacity1 ?k_xiscapacity ?a_xrequirecapacities ?l_xrequirecapacities ?c_xrequirecapacities1 ?k_xrequirecapacities ?a_xPrograminit ?i_xPrograminit ?l_xPrograminit ?c_xPrograminit1 ?k_xPrograminit ?lT_xPrograminit ?pt_xProgramtasks ?pg_xProgramtasks ?pk_xProgramtasks ?pr_xProgramtasks ?l_xProgramtasks ?c_xProgramtasks1 ?k_xProgramtasks ?a_xProgramcapacity ?i_xProgramcapacity ?l_xProgramcapacity ?c_xProgramcapacity1 ?k_xProgramcapacity ?a_xispace ?l_xispace ?c_xispace1 ?k_xispace ?a_xarepaces ?l_xarepaces ?c_xarepaces1 ?k_xarepaces ?a_xSettinginit ?i_xSettinginit ?l_xSettinginit ?c_xSettinginit1 ?k_xSettinginit ?lT_xSettinginit ?lK0_xSettinginit ?a_xSettingslowness ?i_xSettingslowness ?l_xSettingslowness ?c_xSettingslowness1 ?k_xSettingslowness ?a_xlawnumbers ?l_xlawnumbers ?c_xlawnumbers1 ?k_xlawnumbers ?a_xlawdraw ?l_xlawdraw ?c_xlawdraw1 ?k_xlawdraw ?a_xlawisname ?l_xlawisname ?c_xlawisname1 ?k_xlawisname ?a_xlawiswhole ?l_xlawiswhole ?c_xlawiswhole1 ?k_xlawiswhole ?a_xlawword ?l_xlawword ?c_xlawword1 ?k_xlawword ?a_xlawheard ?l_xlawheard ?c_xlawheard1 ?k_xlawheard ?a_xlawwordright ?l_xlawwordright ?c_xlawwordright1 ?k_xlawwordright ?a_xlaw ?l_xlaw ?c_xlaw1 ?k_xlaw ?pg_Program ?hd_Program ?po_Program ?sa_Program ?hcl_Program ?hmo_Program ?mki_Program ?kpC_Program ?kiS_Program ?kiT_Program ?kiN_Program ?kiF_Program ?na_Program_plans ?na_Program_rooms ?pg_Setting ?hd_Setting ?po_Setting ?sa_Setting ?hcl_Setting ?hmo_Setting ?mki_Setting ?kpC_Setting ?kiS_Setting ?kiT_Setting ?kiN_Setting ?kiF_Setting ?na_Setting_paces ?na_Setting_order ?mTimesError ?aC_InvalidSetting ?xL_InvalidSetting ?sa_InvalidSetting ?ga_InvalidSetting ?gg_InvalidSetting ?nb_InvalidSetting ?a1_InvalidSetting ?t1_InvalidSetting ?l1_InvalidSetting ?c1_InvalidSetting ?k1_InvalidSetting ?kC_InvalidSetting ?eC_InvalidSetting ?tC_InvalidSetting ?hC_InvalidSetting ?hcl_InvalidSetting ?hmo_InvalidSetting ?sS_InvalidSetting ?aC_UnknownName ?xL_UnknownName ?sa_UnknownName ?ga_UnknownName ?gg_UnknownName ?nb_UnknownName ?a1_UnknownName ?t1_UnknownName ?l1_UnknownName ?c1_UnknownName ?k1_UnknownName ?kC_UnknownName ?eC_UnknownName ?tC_UnknownName ?hC_UnknownName ?hcl_UnknownName ?hmo_UnknownName ?sS_UnknownName ?aC_InvalidProgram ?xL_InvalidProgram ?sa_InvalidProgram ?ga_InvalidProgram ?gg_InvalidProgram ?nb_InvalidProgram ?a1_InvalidProgram ?t1_InvalidProgram ?l1_InvalidProgram ?c1_InvalidProgram ?k1_InvalidProgram ?kC_InvalidProgram ?eC_InvalidProgram ?tC_InvalidProgram ?hC_InvalidProgram ?hcl_InvalidProgram ?hmo_InvalidProgram ?sS_InvalidProgram ?kiX_UnknownName_KeyError ?kiX_UnknownName_TimesError ?sN_InvalidProgram_UnknownName ?sN_InvalidSetting_InvalidProgram ?sN_InvalidSetting_UnknownName ?hgs ?htk ?z_KeyError ?z_all ?z_bool ?z_dict ?z_enumerate ?z_int ?z_isinstance ?z_len ?z_max ?z_range ?z_repr ?z_str ?z_tuple ?z_zip ?aZ_RULES ?lZ_RULES ?aZ_FORMS ?lZ_FORMS ?kiL_FORMS ?lZ0_FORMS ?lZ1_FORMS ?lZ2_FORMS ?lZ3_FORMS ?lZ4_FORMS ?lZ5_FORMS ?lZ6_FORMS ?aZ_LIMITS ?lZ_LIMITS ?kiL_LIMITS ?lZ0_LIMITS ?lZ1_LIMITS ?lZ2_LIMITS ?aZ_MOSTSLOWNESS ?aZ_MOSTTASKS ?aZ_MOSTSTEPS (PySem.W.km_tabs_of Y _ List.mem_cons_self) (PySem.W.km_tabs_of Y _ (List.mem_cons_of_mem _ List.mem_cons_self)) ?nTxlawwordright ?hHxlawwordright ?nTxlaw ?hHxlaw ?nexlawwordrightxlaw ?Kl
    (case aC_Program => k_is)
    (case aC_Setting => k_is)
    (case a_xiswhole => k_is)
    (case l_xiswhole => k_is)
    (case c_xiswhole1 => k_is)
    (case k_xiswhole => k_is)
    (case a_xisname => k_is)
    (case l_xisname => k_is)
    (case c_xisname1 => k_is)
    (case k_xisname => k_is)
    (case a_xrequirename => k_is)
    (case l_xrequirename => k_is)
    (case c_xrequirename1 => k_is)
    (case k_xrequirename => k_is)
    (case a_xformof => k_is)
    (case l_xformof => k_is)
    (case c_xformof1 => k_is)
    (case k_xformof => k_is)
    (case a_xisitem => k_is)
    (case l_xisitem => k_is)
    (case c_xisitem1 => k_is)
    (case k_xisitem => k_is)
    (case a_xisstep => k_is)
    (case l_xisstep => k_is)
    (case c_xisstep1 => k_is)
    (case k_xisstep => k_is)
    (case a_xrequiretasks => k_is)
    (case l_xrequiretasks => k_is)
    (case c_xrequiretasks1 => k_is)
    (case k_xrequiretasks => k_is)
    (case a_xiscapacity => k_is)
    (case l_xiscapacity => k_is)
    (case c_xiscapacity1 => k_is)
    (case k_xiscapacity => k_is)
    (case a_xrequirecapacities => k_is)
    (case l_xrequirecapacities => k_is)
    (case c_xrequirecapacities1 => k_is)
    (case k_xrequirecapacities => k_is)
    (case a_xPrograminit => k_is)
    (case i_xPrograminit => k_is)
    (case l_xPrograminit => k_is)
    (case c_xPrograminit1 => k_is)
    (case k_xPrograminit => k_is)
    (case lT_xPrograminit => k_is)
    (case pt_xProgramtasks => k_is)
    (case pg_xProgramtasks => k_is)
    (case pk_xProgramtasks => k_is)
    (case pr_xProgramtasks => k_is)
    (case l_xProgramtasks => k_is)
    (case c_xProgramtasks1 => k_is)
    (case k_xProgramtasks => k_is)
    (case a_xProgramcapacity => k_is)
    (case i_xProgramcapacity => k_is)
    (case l_xProgramcapacity => k_is)
    (case c_xProgramcapacity1 => k_is)
    (case k_xProgramcapacity => k_is)
    (case a_xispace => k_is)
    (case l_xispace => k_is)
    (case c_xispace1 => k_is)
    (case k_xispace => k_is)
    (case a_xarepaces => k_is)
    (case l_xarepaces => k_is)
    (case c_xarepaces1 => k_is)
    (case k_xarepaces => k_is)
    (case a_xSettinginit => k_is)
    (case i_xSettinginit => k_is)
    (case l_xSettinginit => k_is)
    (case c_xSettinginit1 => k_is)
    (case k_xSettinginit => k_is)
    (case lT_xSettinginit => k_is)
    (case lK0_xSettinginit => k_is)
    (case a_xSettingslowness => k_is)
    (case i_xSettingslowness => k_is)
    (case l_xSettingslowness => k_is)
    (case c_xSettingslowness1 => k_is)
    (case k_xSettingslowness => k_is)
    (case a_xlawnumbers => k_is)
    (case l_xlawnumbers => k_is)
    (case c_xlawnumbers1 => k_is)
    (case k_xlawnumbers => k_is)
    (case a_xlawdraw => k_is)
    (case l_xlawdraw => k_is)
    (case c_xlawdraw1 => k_is)
    (case k_xlawdraw => k_is)
    (case a_xlawisname => k_is)
    (case l_xlawisname => k_is)
    (case c_xlawisname1 => k_is)
    (case k_xlawisname => k_is)
    (case a_xlawiswhole => k_is)
    (case l_xlawiswhole => k_is)
    (case c_xlawiswhole1 => k_is)
    (case k_xlawiswhole => k_is)
    (case a_xlawword => k_is)
    (case l_xlawword => k_is)
    (case c_xlawword1 => k_is)
    (case k_xlawword => k_is)
    (case a_xlawheard => k_is)
    (case l_xlawheard => k_is)
    (case c_xlawheard1 => k_is)
    (case k_xlawheard => k_is)
    (case a_xlawwordright => k_is)
    (case l_xlawwordright => k_is)
    (case c_xlawwordright1 => k_is)
    (case k_xlawwordright => k_is)
    (case a_xlaw => k_is)
    (case l_xlaw => k_is)
    (case c_xlaw1 => k_is)
    (case k_xlaw => k_is)
    (case pg_Program => k_is)
    (case hd_Program => k_is)
    (case po_Program => k_is)
    (case sa_Program => k_is)
    (case hcl_Program => k_is)
    (case hmo_Program => k_is)
    (case mki_Program => k_is)
    (case kpC_Program => k_is)
    (case kiS_Program => kernel_rfl)
    (case kiT_Program => kernel_rfl)
    (case kiN_Program => kernel_rfl)
    (case kiF_Program => kernel_rfl)
    (case na_Program_plans => k_is)
    (case na_Program_rooms => k_is)
    (case pg_Setting => k_is)
    (case hd_Setting => k_is)
    (case po_Setting => k_is)
    (case sa_Setting => k_is)
    (case hcl_Setting => k_is)
    (case hmo_Setting => k_is)
    (case mki_Setting => k_is)
    (case kpC_Setting => k_is)
    (case kiS_Setting => kernel_rfl)
    (case kiT_Setting => kernel_rfl)
    (case kiN_Setting => kernel_rfl)
    (case kiF_Setting => kernel_rfl)
    (case na_Setting_paces => k_is)
    (case na_Setting_order => k_is)
    (case mTimesError => k_is)
    (case aC_InvalidSetting => k_is)
    (case xL_InvalidSetting => k_is)
    (case sa_InvalidSetting => k_is)
    (case ga_InvalidSetting => k_is)
    (case gg_InvalidSetting => k_is)
    (case nb_InvalidSetting => k_is)
    (case a1_InvalidSetting => k_is)
    (case t1_InvalidSetting => k_is)
    (case l1_InvalidSetting => k_is)
    (case c1_InvalidSetting => k_is)
    (case k1_InvalidSetting => k_is)
    (case kC_InvalidSetting => k_is)
    (case eC_InvalidSetting => k_is)
    (case tC_InvalidSetting => k_is)
    (case hC_InvalidSetting => k_is)
    (case hcl_InvalidSetting => k_is)
    (case hmo_InvalidSetting => k_is)
    (case sS_InvalidSetting => k_is)
    (case aC_UnknownName => k_is)
    (case xL_UnknownName => k_is)
    (case sa_UnknownName => k_is)
    (case ga_UnknownName => k_is)
    (case gg_UnknownName => k_is)
    (case nb_UnknownName => k_is)
    (case a1_UnknownName => k_is)
    (case t1_UnknownName => k_is)
    (case l1_UnknownName => k_is)
    (case c1_UnknownName => k_is)
    (case k1_UnknownName => k_is)
    (case kC_UnknownName => k_is)
    (case eC_UnknownName => k_is)
    (case tC_UnknownName => k_is)
    (case hC_UnknownName => k_is)
    (case hcl_UnknownName => k_is)
    (case hmo_UnknownName => k_is)
    (case sS_UnknownName => k_is)
    (case aC_InvalidProgram => k_is)
    (case xL_InvalidProgram => k_is)
    (case sa_InvalidProgram => k_is)
    (case ga_InvalidProgram => k_is)
    (case gg_InvalidProgram => k_is)
    (case nb_InvalidProgram => k_is)
    (case a1_InvalidProgram => k_is)
    (case t1_InvalidProgram => k_is)
    (case l1_InvalidProgram => k_is)
    (case c1_InvalidProgram => k_is)
    (case k1_InvalidProgram => k_is)
    (case kC_InvalidProgram => k_is)
    (case eC_InvalidProgram => k_is)
    (case tC_InvalidProgram => k_is)
    (case hC_InvalidProgram => k_is)
    (case hcl_InvalidProgram => k_is)
    (case hmo_InvalidProgram => k_is)
    (case sS_InvalidProgram => k_is)
    (case kiX_UnknownName_KeyError => kernel_rfl)
    (case kiX_UnknownName_TimesError => kernel_rfl)
    (case sN_InvalidProgram_UnknownName => k_is)
    (case sN_InvalidSetting_InvalidProgram => k_is)
    (case sN_InvalidSetting_UnknownName => k_is)
    (case hgs => k_is)
    (case htk => k_is)
    (case z_KeyError => k_is)
    (case z_all => k_is)
    (case z_bool => k_is)
    (case z_dict => k_is)
    (case z_enumerate => k_is)
    (case z_int => k_is)
    (case z_isinstance => k_is)
    (case z_len => k_is)
    (case z_max => k_is)
    (case z_range => k_is)
    (case z_repr => k_is)
    (case z_str => k_is)
    (case z_tuple => k_is)
    (case z_zip => k_is)
    (case aZ_RULES => k_is)
    (case lZ_RULES => k_is)
    (case aZ_FORMS => k_is)
    (case lZ_FORMS => k_is)
    (case kiL_FORMS => kernel_rfl)
    (case lZ0_FORMS => k_is)
    (case lZ1_FORMS => k_is)
    (case lZ2_FORMS => k_is)
    (case lZ3_FORMS => k_is)
    (case lZ4_FORMS => k_is)
    (case lZ5_FORMS => k_is)
    (case lZ6_FORMS => k_is)
    (case aZ_LIMITS => k_is)
    (case lZ_LIMITS => k_is)
    (case kiL_LIMITS => kernel_rfl)
    (case lZ0_LIMITS => k_is)
    (case lZ1_LIMITS => k_is)
    (case lZ2_LIMITS => k_is)
    (case aZ_MOSTSLOWNESS => k_is)
    (case aZ_MOSTTASKS => k_is)
    (case aZ_MOSTSTEPS => k_is)
    (case nTxlawwordright => kernel_rfl)
    (case hHxlawwordright => kernel_rfl)
    (case nTxlaw => kernel_rfl)
    (case hHxlaw => kernel_rfl)
    (case nexlawwordrightxlaw => kernel_rfl)
    (case Kl => kernel_rfl)
end
